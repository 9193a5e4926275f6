import PyProof.Rows.All
import Wide.All
import OpenK.AllK
import Wide.FinOn
import PyProof.EqAt
import PyProof.EqKinds
import PyProof.TupleCall
import KE.BitLaws
import Open.SpecLaws
import KE.OsHead
import KE.OsGo
import KE.KDictSum
import PyProof.ZipIter
import PyProof.StrLoop
import PyProof.SetKind
import PyProof.DictKinds
import PyProof.SetRoads
import PyProof.Walks
import PyProof.Rows.SetFrom
import PySem.Challenge.RW_signplant_s01_answers
section
set_option Elab.async false
set_option linter.all false
set_option maxRecDepth 100000
namespace L2
open PySem PySem.Spec PyProof.Rows
abbrev Key:=Sum Int Str
def keyIs:Key->Value->Bool
  | .inl k,v=>Value.isInt k v
  | .inr x,v=>Value.isStrOf x v
def keyH (w:World):Key->Int
  | .inl k=>hashInt k
  | .inr x=>hashStr w x
theorem keyIs_shape:∀ {k:Key}{v:Value},keyIs k v=true->(∃ i t,k=Sum.inl i/\v=Value.int i t) \/ (∃ x t,k=Sum.inr x/\v=Value.str x t)
  | .inl i,v,h=>by
    obtain ⟨t,e⟩:=Value.isInt_shape (k:=i) (v:=v) h
    exact .inl ⟨i,t,rfl,e⟩
  | .inr x,v,h=>by
    obtain ⟨t,e⟩:=Value.isStrOf_shape (x:=x) (v:=v) h
    exact .inr ⟨x,t,rfl,e⟩
theorem keyIs_int (i:Int) (t:Tok):keyIs (.inl i) (.int i t)=true:=by simp [keyIs,Value.isInt]
theorem keyIs_str (x:Str) (t:Tok):keyIs (.inr x) (.str x t)=true:=by simp [keyIs,Value.isStrOf]
theorem key_ll (a b:Int):decide ((Sum.inl a:Key)=Sum.inl b)=(a==b):=by
  by_cases e:a=b
  · subst e;simp
  · have h:¬ (Sum.inl a:Key)=Sum.inl b:=fun q=>e (Sum.inl.inj q)
    rw [decide_eq_false h]
    exact (beq_eq_false_iff_ne.mpr e).symm
theorem key_rr (a b:Str):decide ((Sum.inr a:Key)=Sum.inr b)=decide (a=b):=by
  by_cases e:a=b
  · subst e;simp
  · have h:¬ (Sum.inr a:Key)=Sum.inr b:=fun q=>e (Sum.inr.inj q)
    rw [decide_eq_false h,decide_eq_false e]
theorem key_lr (a:Int) (b:Str):decide ((Sum.inl a:Key)=Sum.inr b)=false:=decide_eq_false (fun q=>nomatch q)
theorem key_rl (a:Str) (b:Int):decide ((Sum.inr a:Key)=Sum.inl b)=false:=decide_eq_false (fun q=>nomatch q)
def mixKind (prog:Program) (w:World):PySem.KeyKind prog w Key where
  is:=keyIs
  hash:=keyH w
  inj:=fun v a b ha hb=>by
    rcases keyIs_shape ha with ⟨i,t,rfl,rfl⟩ | ⟨x,t,rfl,rfl⟩
    · rcases keyIs_shape hb with ⟨j,u,rfl,e⟩ | ⟨y,u,rfl,e⟩
      · injection e with e1 _;rw [e1]
      · exact nomatch e
    · rcases keyIs_shape hb with ⟨j,u,rfl,e⟩ | ⟨y,u,rfl,e⟩
      · exact nomatch e
      · injection e with e1 _;rw [e1]
  byValue:=fun k v h=>by
    rcases keyIs_shape h with ⟨i,t,rfl,rfl⟩ | ⟨x,t,rfl,rfl⟩ <;> rfl
  pyHash:=fun hv h=>by
    rcases keyIs_shape hv with ⟨i,t,rfl,rfl⟩ | ⟨x,t,rfl,rfl⟩
    · exact wpAny_pyHash_int h
    · exact wpAny_pyHash_str h
  eqBool:=fun hu hv h=>by
    rcases keyIs_shape hu with ⟨i,t,rfl,rfl⟩ | ⟨x,t,rfl,rfl⟩
    · rcases keyIs_shape hv with ⟨j,u,rfl,rfl⟩ | ⟨y,u,rfl,rfl⟩
      · rw [key_ll] at h;exact wpAny_eqBool_int h
      · rw [key_lr] at h;exact SeqAt.EqAt.int_str i t y u _ _ _ _ h
    · rcases keyIs_shape hv with ⟨j,u,rfl,rfl⟩ | ⟨y,u,rfl,rfl⟩
      · rw [key_rl] at h;exact SeqAt.EqAt.str_int x t j u _ _ _ _ h
      · rw [key_rr] at h;exact wpAny_eqBool_str h
  «strs»:=fun k x t v h=>by
    rcases keyIs_shape h with ⟨i,u,rfl,e⟩ | ⟨y,u,rfl,e⟩
    · exact nomatch e
    · injection e with e1 _
      subst e1
      cases v <;> rfl
theorem mixKind_int (prog:Program) (w:World) (i:Int) (t:Tok):(mixKind prog w).is (.inl i) (.int i t)=true:=keyIs_int i t
theorem mixKind_str (prog:Program) (w:World) (x:Str) (t:Tok):(mixKind prog w).is (.inr x) (.str x t)=true:=keyIs_str x t
end L2
namespace L2
open PySem PySem.Spec PyProof.Rows
inductive V where
  | non | bl (b:Bool) | int (i:Int) | str (x:Str) | byt (b:Array UInt8) | flt (b:UInt64) | ref (a:Addr) | ty (n:String)
  deriving DecidableEq
def RelV:V->Value->Prop
  | .non,u=>u=Value.none
  | .bl b,u=>u=Value.bool b
  | .int i,u=>∃ t,u=Value.int i t
  | .str x,u=>∃ t,u=Value.str x t
  | .byt b,u=>∃ t,u=Value.bytes b t
  | .flt b,u=>∃ t,u=Value.float b t
  | .ref a,u=>u=Value.ref a
  | .ty n,u=>u=Value.type n
abbrev Vals:List V->List Value->Prop:=Paired RelV
theorem Vals.length {xs:List V}{us:List Value} (r:Vals xs us):xs.length=us.length:=Paired.length r
theorem Vals.get:∀ {xs:List V}{us:List Value}{i:Nat}{x:V},Vals xs us->xs[i]?=some x->∃ u,us[i]?=some u/\RelV x u
  | _,_,_,_,.nil,e=>by simp at e
  | _,_,0,_,.cons r _,e=>by simp at e;subst e;exact⟨_,rfl,r⟩
  | _,_,i+1,x,.cons _ t,e=>by
    obtain ⟨u,h1,h2⟩:=Vals.get (i:=i) (x:=x) t (by simpa using e)
    exact⟨u,by simpa using h1,h2⟩
theorem Vals.append:∀ {xs ys:List V}{us ws:List Value},Vals xs us->Vals ys ws->Vals (xs++ys) (us++ws)
  | _,_,_,_,.nil,s=>s
  | _,_,_,_,.cons r t,s=>.cons r (Vals.append t s)
theorem Vals.take:∀ {xs:List V}{us:List Value} (n:Nat),Vals xs us->Vals (xs.take n) (us.take n)
  | _,_,0,_=>.nil
  | _,_,_+1,.nil=>.nil
  | _,_,n+1,.cons r t=>.cons r (Vals.take n t)
theorem Vals.drop:∀ {xs:List V}{us:List Value} (n:Nat),Vals xs us->Vals (xs.drop n) (us.drop n)
  | _,_,0,r=>r
  | _,_,_+1,.nil=>.nil
  | _,_,n+1,.cons _ t=>Vals.drop n t
def RelO:Option V->Option Value->Prop
  | some v,some u=>RelV v u
  | none,none=>True
  | _,_=>False
def KV {κ:Type}:List (κ × V)->List (κ × Value)->Prop:=Paired fun (p:κ × V) (q:κ × Value)=>p.1=q.1/\RelV p.2 q.2
def kV:Key->V
  | .inl i=>.int i
  | .inr x=>.str x
inductive HO where
  | lst (xs:List V)
  | tup (xs:List V)
  | dK (kvs:List (Key × V)) | dT (kvs:List (List Key × V))
  | set (S:Int->Bool) (n:Nat)
  | ins (C dx:Addr) (fs:List (Str × V))
  | own (x:Addr)
  | xd (fs:List (Str × V))
  | met (f x:Addr)
  | rng (lo hi:Int)
  | frz (o:Obj) (u:HO)
  | tbl (ps:Array Value)
  | ext (φ:Heap->Prop)
abbrev Hp:=Addr->Option HO
def upd (H:Hp) (a:Addr) (o:HO):Hp:=fun b=>if b=a then some o else H b
theorem upd_same {H:Hp}{a:Addr}{o:HO}:upd H a o a=some o:=by unfold upd;rw [if_pos rfl]
theorem upd_ne {H:Hp}{a b:Addr}{o:HO} (h:b≠a):upd H a o b=H b:=by unfold upd;rw [if_neg h]
theorem ne_of {H:Hp}{a b:Addr}{o u:HO} (h:H a=some o) (h':H b=some u) (d:o≠u):a≠b:=by
  intro e;subst e;rw [h] at h';exact d (Option.some.inj h')
theorem ne_of_none {H:Hp}{a b:Addr}{o:HO} (h:H a=some o) (h':H b=none):a≠b:=by
  intro e;subst e;rw [h] at h';cases h'
section
variable (P:Program) (w:World)
def ObjOk (H:Hp) (h:Heap) (a:Addr):HO->Prop
  | .lst xs=>xs.length<=sizeLine/\∃ (its:List Value) (n:Nat),Vals xs its/\h.get? a=some { cls:=.type "list",data:=.seq its.toArray n }
  | .tup xs=>xs.length<=sizeLine/\∃ its:List Value,Vals xs its/\IsTup h a its.toArray
  | .dK kvs=>kvs.length<=sizeLine/\(a==sysModules)=false/\∃ vs,KV kvs vs/\h.DictOf (mixKind P w) a vs
  | .dT kvs=>kvs.length<=sizeLine/\(a==sysModules)=false/\∃ xs:List (List Key × Addr × Value),
      Paired (fun (p:List Key × V) (q:List Key × Addr × Value)=>p.1=q.1/\H q.2.1=some (.tup (p.1.map kV))/\RelV p.2 q.2.2) kvs xs /\
      ∃ o es ep,h.get? a=some o/\o.ExactDict/\o.data=.dict es ep/\es.toList=xs.map (entryOfKey (tupleKind (mixKind P w)))/\(xs.map (·.1)).Nodup
  | .set S n=>h.SetOf (intKind P w) a S n
  | .ins C dx fs=>H dx=some (.own a)/\fs.length<=1000/\dx≠a/\h.get? a=some (PySem.W.instObj C dx) /\
      ∃ mA,h.Ns1 dx mA/\(∀ f,RelO (fs.lookup f) (mA f))/\PySem.Within mA (fs.map (·.1))
  | .own _=>∃ o,h.get? a=some o
  | .xd fs=>∃ mA,h.Ns1 a mA/\∀ f,RelO (fs.lookup f) (mA f)
  | .rng lo hi=>∃ t u v,h.get? a=some { cls:=.type "range",data:=.fields #[.int lo t,.int hi u,.int 1 v] }
  | .frz o u=>h.get? a=some o/\ObjOk H h a u
  | .tbl ps=>h.get? a=some { cls:=.none,data:=.fields ps }
  | .met f x=>h.get? a=some (PySem.W.methodObj (.ref f) (.ref x))
  | .ext φ=>φ h/\(∃ o,h.get? a=some o)/\∀ h1 h2:Heap,φ h1->(∀ o,h1.get? a=some o->h2.get? a=some o)->φ h2
def HOk (H:Hp) (h:Heap):Prop:=∀ a o,H a=some o->ObjOk P w H h a o
end
section
variable {P:Program}{w:World}{H H':Hp}{h h':Heap}{a:Addr}{o:HO}
theorem ObjOk.lt (x:ObjOk P w H h a o):a<h.objs.size:=by
  cases o with
  | lst xs=>obtain ⟨_,_,_,_,e⟩:=x;exact Heap.lt_size e
  | tup xs=>obtain ⟨_,_,_,p⟩:=x;exact p.lt
  | dK kvs=>obtain ⟨_,_,_,_,o,_,_,e,_⟩:=x;exact Heap.lt_size e
  | dT kvs=>obtain ⟨_,_,_,_,o,_,_,e,_⟩:=x;exact Heap.lt_size e
  | set S n=>obtain ⟨o,_,_,_,e,_⟩:=x;exact Heap.lt_size e
  | ins C dx fs=>obtain ⟨_,_,_,e,_⟩:=x;exact Heap.lt_size e
  | own y=>obtain ⟨_,e⟩:=x;exact Heap.lt_size e
  | xd fs=>obtain ⟨_,⟨_,_,_,e,_⟩,_⟩:=x;exact Heap.lt_size e
  | rng lo hi=>obtain ⟨_,_,_,e⟩:=x;exact Heap.lt_size e
  | frz ob u=>obtain ⟨e,_⟩:=x;exact Heap.lt_size e
  | tbl ps=>exact Heap.lt_size (show h.get? a=some _ from x)
  | met f y=>exact Heap.lt_size (show h.get? a=some _ from x)
  | ext φ=>obtain ⟨_,⟨_,e⟩,_⟩:=x;exact Heap.lt_size e
theorem Paired.mapP {α β:Type}{F G:α->β->Prop}:∀ {l₁:List α}{l₂:List β},Paired F l₁ l₂->(∀ a b,F a b->G a b)->Paired G l₁ l₂
  | _,_,.nil,_=>.nil
  | _,_,.cons r t,f=>.cons (f _ _ r) (Paired.mapP t f)
theorem ObjOk.stay (x:ObjOk P w H h a o) (k:∀ b u,(b=a \/ H b=some (.own a))->h.get? b=some u->h'.get? b=some u)
    (ho:∀ b,H b=some (.own a)->H' b=some (.own a)) (ht:∀ b xs,H b=some (.tup xs)->H' b=some (.tup xs)):ObjOk P w H' h' a o:=by
  induction o with
  | lst xs=>obtain ⟨z,its,n,r,e⟩:=x;exact⟨z,its,n,r,k _ _ (.inl rfl) e⟩
  | tup xs=>obtain ⟨z,its,r,ob,e,c⟩:=x;exact⟨z,its,r,ob,k _ _ (.inl rfl) e,c⟩
  | dK kvs=>obtain ⟨z,y,vs,r,ob,es,ep,e,c⟩:=x;exact⟨z,y,vs,r,ob,es,ep,k _ _ (.inl rfl) e,c⟩
  | dT kvs=>
    obtain ⟨z,y,xs,r,ob,es,ep,e,c⟩:=x
    exact⟨z,y,xs,Paired.mapP r fun p q z=>⟨z.1,ht _ _ z.2.1,z.2.2⟩,ob,es,ep,k _ _ (.inl rfl) e,c⟩
  | set S n=>obtain ⟨ob,es,ep,t,e,c⟩:=x;exact⟨ob,es,ep,t,k _ _ (.inl rfl) e,c⟩
  | ins C dx fs=>
    obtain ⟨d,z,ne,e,mA,⟨od,es,ep,e2,c⟩,r⟩:=x
    exact⟨ho _ d,z,ne,k _ _ (.inl rfl) e,mA,⟨od,es,ep,k _ _ (.inr d) e2,c⟩,r⟩
  | own y=>obtain ⟨ob,e⟩:=x;exact⟨ob,k _ _ (.inl rfl) e⟩
  | xd fs=>obtain ⟨mA,⟨od,es,ep,e,c⟩,r⟩:=x;exact⟨mA,⟨od,es,ep,k _ _ (.inl rfl) e,c⟩,r⟩
  | rng lo hi=>obtain ⟨t,u,v,e⟩:=x;exact⟨t,u,v,k _ _ (.inl rfl) e⟩
  | frz ob u ih=>obtain ⟨e,q⟩:=x;exact⟨k _ _ (.inl rfl) e,ih q⟩
  | tbl ps=>
    have e:h.get? a=some { cls:=.none,data:=.fields ps }:=x
    show h'.get? a=some { cls:=.none,data:=.fields ps }
    exact k a _ (.inl rfl) e
  | met f y=>
    have e:h.get? a=some (PySem.W.methodObj (.ref f) (.ref y)):=x
    show h'.get? a=some (PySem.W.methodObj (.ref f) (.ref y))
    exact k a _ (.inl rfl) e
  | ext φ=>obtain ⟨p,⟨o,e⟩,st⟩:=x;exact⟨st _ _ p fun o q=>k _ _ (.inl rfl) q,⟨o,k _ _ (.inl rfl) e⟩,st⟩
theorem HOk.lt (x:HOk P w H h) (e:H a=some o):a<h.objs.size:=(x a o e).lt
theorem HOk.fresh (x:HOk P w H h) (e:h.objs.size<=a):H a=none:=by
  cases q:H a with
  | none=>rfl
  | some u=>exact absurd (Nat.lt_of_lt_of_le (x.lt q) e) (Nat.lt_irrefl _)
theorem HOk.kept (x:HOk P w H h) (k:∀ b u,h.get? b=some u->h'.get? b=some u):HOk P w H h':=fun a o e=>
  (x a o e).stay (fun b u _ q=>k b u q) (fun _ q=>q) fun _ _ q=>q
theorem HOk.laid (x:HOk P w H h) (k:∀ b u,h.get? b=some u->h'.get? b=some u) (hp:h.objs.size<=a) (new:ObjOk P w (upd H a o) h' a o):HOk P w (upd H a o) h':=fun b u e=>by
  have hn:=x.fresh hp
  by_cases hb:b=a
  · subst hb;rw [upd_same] at e;cases e;exact new
  · rw [upd_ne hb] at e
    exact (x b u e).stay (fun c v _ q=>k c v q) (fun c q=>by rw [upd_ne (ne_of_none q hn)];exact q) fun c xs q=>by rw [upd_ne (ne_of_none q hn)];exact q
end
def Rd (H:Hp) (a:Addr) (u:HO):Prop:=H a=some u \/ ∃ o,H a=some (.frz o u)
theorem Rd.ok {P:Program}{w:World}{H:Hp}{h:Heap}{a:Addr}{u:HO} (r:Rd H a u) (x:HOk P w H h):ObjOk P w H h a u:=by
  rcases r with r | ⟨o,r⟩
  · exact x a u r
  · obtain ⟨_,q⟩:=x a _ r
    exact q
def Mut:Option HO->Prop
  | some (.lst _)=>True
  | some (.dK _)=>True
  | some (.dT _)=>True
  | some (.set _ _)=>True
  | some (.ins _ _ _)=>True
  | some (.ext _)=>True
  | _=>False
section
variable {P:Program}{w:World}{H:Hp}{h h':Heap}{x e:Addr}{o':HO}
theorem HOk.write (ok:HOk P w H h) (mu:Mut (H x)) (he:e=x \/ H e=some (.own x)) (k:∀ b u,b≠e->h.get? b=some u->h'.get? b=some u) (heo:∃ u,h'.get? e=some u)
    (new:ObjOk P w (upd H x o') h' x o'):HOk P w (upd H x o') h':=fun b u q=>by
  have nown:∀ c y,H c=some (.own y)->c≠x:=fun c y r z=>by subst z;rw [r] at mu;exact mu
  have ntup:∀ c xs,H c=some (.tup xs)->c≠x:=fun c xs r z=>by subst z;rw [r] at mu;exact mu
  by_cases hb:b=x
  · subst hb;rw [upd_same] at q;cases q;exact new
  · rw [upd_ne hb] at q
    by_cases hbe:b=e
    · have q':H b=some (.own x):=by
        rcases he with z | z
        · exact absurd (hbe.trans z) hb
        · rw [hbe];exact z
      rw [q] at q';cases q'
      obtain ⟨v,hv⟩:=heo
      exact⟨v,by rw [hbe];exact hv⟩
    · refine (ok b u q).stay (fun c v hc r=>k c v ?_ r) (fun c r=>by rw [upd_ne (nown c b r)];exact r) fun c xs r=>by rw [upd_ne (ntup c xs r)];exact r
      rcases hc with rfl | hc
      · exact hbe
      · rintro rfl
        rcases he with z | z
        · exact nown c b hc z
        · rw [hc] at z;cases z;exact hb rfl
end
structure Un (fs ex:List Addr) (H H':Hp) (h h':Heap):Prop where
  keep:∀ b o,h.get? b=some o->H b=none->b ∉ fs->b ∉ ex->h'.get? b=some o
  slot:∀ b o,h.get? b=some o->H b=none->b∈fs->b ∉ ex->∃ sl,h'.get? b=some { o with slots:=sl }
  free:∀ b o,h.get? b=some o->H b=none->b ∉ ex->H' b=none
  there:∀ b o,h.get? b=some o->b ∉ ex->∃ o',h'.get? b=some o'
  tups:∀ b xs,H b=some (.tup xs)->H' b=some (.tup xs)
  frzs:∀ b o u,H b=some (.frz o u)->H' b=some (.frz o u)
  tbls:∀ b ps,H b=some (.tbl ps)->∃ more,H' b=some (.tbl (ps++more))
section
variable {fs fs' ex ex':List Addr}{H H1 H2:Hp}{h h1 h2 h':Heap}{a x e:Addr}{o:HO}
theorem Un.any (u:Un fs ex H H1 h h1) {b:Addr}{ob:Obj} (q:h.get? b=some ob) (n:H b=none) (hx:b ∉ ex):∃ sl,h1.get? b=some { ob with slots:=sl }:=by
  by_cases hb:b∈fs
  · exact u.slot b ob q n hb hx
  · exact⟨ob.slots,u.keep b ob q n hb hx⟩
theorem Un.kept (k:∀ b u,h.get? b=some u->h'.get? b=some u):Un fs ex H H h h':=
  ⟨fun b ob q _ _ _=>k b ob q,fun b ob q _ _ _=>⟨ob.slots,k b ob q⟩,fun _ _ _ n _=>n,fun b ob q _=>⟨ob,k b ob q⟩,fun _ _ q=>q,fun _ _ _ q=>q,fun _ ps q=>⟨#[],by rw [q];simp⟩⟩
theorem Un.refl:Un fs ex H H h h:=Un.kept fun _ _ q=>q
theorem Un.laid (k:∀ b u,h.get? b=some u->h'.get? b=some u) (hp:h.objs.size<=a) (hn:H a=none):Un fs ex H (upd H a o) h h' where
  keep:=fun b u q _ _ _=>k b u q
  slot:=fun b u q _ _ _=>⟨u.slots,k b u q⟩
  free:=fun b u q n _=>by rw [upd_ne (Nat.ne_of_lt (Nat.lt_of_lt_of_le (Heap.lt_size q) hp))];exact n
  there:=fun b u q _=>⟨u,k b u q⟩
  tups:=fun b xs q=>by rw [upd_ne (ne_of_none q hn)];exact q
  frzs:=fun b u xs q=>by rw [upd_ne (ne_of_none q hn)];exact q
  tbls:=fun b ps q=>⟨#[],by rw [upd_ne (ne_of_none q hn),q];simp⟩
theorem Un.write (mu:Mut (H x)) (he:e=x \/ H e=some (.own x)) (k:∀ b u,b≠e->h.get? b=some u->h'.get? b=some u) (heo:∃ u,h'.get? e=some u):Un fs ex H (upd H x o) h h':=by
  have hx:∀ b,H b=none->b≠x:=fun b n z=>by subst z;rw [n] at mu;exact mu
  have hb:∀ b,H b=none->b≠e:=fun b n z=>by
    subst z
    rcases he with r | r
    · exact hx b n r
    · rw [n] at r;cases r
  have hm:∀ b u,H b=some u->¬ Mut (some u)->b≠x:=fun b u q nm z=>by subst z;rw [q] at mu;exact nm mu
  refine⟨fun b u q n _ _=>k b u (hb b n) q,fun b u q n _ _=>⟨u.slots,k b u (hb b n) q⟩,fun b u q n _=>by rw [upd_ne (hx b n)];exact n,fun b u q _=>?_,
    fun b xs q=>by rw [upd_ne (hm b _ q fun z=>z)];exact q,fun b u xs q=>by rw [upd_ne (hm b _ q fun z=>z)];exact q,fun b ps q=>⟨#[],by rw [upd_ne (hm b _ q fun z=>z),q];simp⟩⟩
  by_cases hbe:b=e
  · subst hbe;exact heo
  · exact⟨u,k b u hbe q⟩
end
def trk (h:Heap) (H:Hp):List Addr:=(List.range h.objs.size).filter fun a=>(H a).isSome
def hidT (h:Heap) (H:Hp):Heap:=PySem.W.hideAll h (trk h H)
theorem hidT_size (h:Heap) (H:Hp):(hidT h H).objs.size=h.objs.size:=PySem.W.hideAll_size _ _
theorem hidT_get {h:Heap}{H:Hp}{b:Addr}{o:Obj} (e:h.get? b=some o) (n:H b=none):(hidT h H).get? b=some o:=
  PySem.W.hideAll_get _ e fun hm=>by
    have q:(H b).isSome=true:=(List.mem_filter.mp hm).2
    rw [n] at q;simp at q
theorem of_hidT {h:Heap}{H:Hp}{b:Addr}{o:Obj} (e:(hidT h H).get? b=some o):h.get? b=some o/\H b=none:=by
  have e':h.get? b=some o:=PySem.W.of_hideAll (trk h H) e
  refine⟨e',?_⟩
  cases q:H b with
  | none=>rfl
  | some x=>
    have hm:b∈trk h H:=List.mem_filter.mpr ⟨List.mem_range.mpr (Heap.lt_size e'),by simp [q]⟩
    have z:(hidT h H).get? b=none:=PySem.W.hideAll_none (trk h H) hm
    rw [z] at e;cases e
end L2
namespace L2
open PySem PySem.Spec PyProof.Rows
structure Mod (K:PySem.W.Frag) (mg:Str->Option Value) (base:Heap):Prop where
  kin:K.In base
  glob:base.Ns mainGlobals mg
  blt:∃ mb,base.Ns builtinsNs mb/\∀ x:Str,x≠"__name__"->mb x=bootBuiltins x
  nolimit:base.NoLimit
structure Cx where
  prog:Program
  w:World
  K:PySem.W.Frag
  mg:Str->Option Value
  base:Heap
  A:Around
  N:List Str
  s_0:Shared
  H_0:Hp
  env:Env
  outer:List Env
  stack:List Env
  ex:List Addr
  fn:Str->Bool
  calm:Bool
  pn:List (Addr × Obj)
  xe:Value->Shared->Prop
def frs (l:List Env):List Addr:=l.filterMap (·.frame)
abbrev Cx.fs (X:Cx):List Addr:=frs X.outer
def Vis (sc:Scope) (x:Str):Prop:=sc.names.lookup x=some .local \/ sc.names.lookup x=some .cell \/ sc.names.lookup x=some .free
def Loc (sc:Scope) (x:Str):Prop:=sc.names.lookup x=some .local \/ sc.names.lookup x=some .cell
def Look (env:Env) (h:Heap) (m:Str->Option Value) (x:Str) (u:Value):Prop:=
  (env.kindOf x=some .local/\m x=some u) \/ ((env.kindOf x=some .cell \/ env.kindOf x=some .free)/\∃ c,env.cells.lookup x=some c/\h.IsCell c (some u))
structure Cx.Ok (X:Cx):Prop where
  mod:Mod X.K X.mg X.base
  kind:X.env.scope.kind=.function
  glob:X.env.globals=mainGlobals
  blt:X.env.builtins=builtinsNs
  above:X.s_0.heap.objs.size<=X.env.locals
  inj:∀ x y c,X.env.cells.lookup x=some c->X.env.cells.lookup y=some c->x=y
  has:∀ x,(X.env.kindOf x=some .cell \/ X.env.kindOf x=some .free)->∃ c,X.env.cells.lookup x=some c
  cab:∀ x c,X.fn x=true->X.env.cells.lookup x=some c->X.s_0.heap.objs.size<=c
  hd:X.calm=true->X.A.handled=none
  frames:X.A.frames=some X.stack
  stk:X.stack=X.outer \/ (X.stack=X.env::X.outer/\X.env.frame=some X.env.locals)
  exf:∀ b∈X.ex,b≠X.env.locals/\∀ x c,X.env.cells.lookup x=some c->c≠b
  bs:∀ b o,X.base.get? b=some o->X.s_0.heap.get? b=some o/\X.H_0 b=none
  bsz:X.base.objs.size<=X.s_0.heap.objs.size
  noex:∀ b o,X.base.get? b=some o->b ∉ X.ex
  exfs:∀ b∈X.ex,b ∉ X.fs
  funs:X.s_0.heap.FunFrames X.base X.outer
  frf:∀ b∈X.fs,X.H_0 b=none
structure Inv (X:Cx) (pins:List (Addr × Obj)) (σ:List (Option V)) (H:Hp) (s:Shared):Prop where
  ok:X.Ok
  os:s.os=X.s_0.os
  bare:AllBare s.gens
  base:Un X.fs X.ex X.H_0 H X.s_0.heap s.heap
  loc:∃ m,s.heap.Ns X.env.locals m/\∀ (i:Nat) (x:Str) (v:V),X.N[i]?=some x->σ[i]?=some (some v)->Vis X.env.scope x->∃ u,RelV v u/\Look X.env s.heap m x u
  cell:∀ x c,X.env.cells.lookup x=some c->∃ v,s.heap.IsCell c v
  free:H X.env.locals=none
  freeC:∀ x c,X.env.cells.lookup x=some c->H c=none
  pin:∀ p∈X.pn++pins,s.heap.get? p.1=some p.2/\H p.1=none/\p.1≠X.env.locals/\p.1 ∉ X.fs/\∀ v,p.2.data≠.cell v
  hok:HOk X.prog X.w H s.heap
  len:σ.length=X.N.length
section
variable {X:Cx}{pins:List (Addr × Obj)}{σ:List (Option V)}{H H':Hp}{s:Shared}{h':Heap}
theorem Cx.Ok.nofr (ok:X.Ok) {b:Addr}{o:Obj} (e:X.base.get? b=some o):b ∉ X.fs:=fun hb=>by
  have:=(ok.funs.mem hb).1
  rw [e] at this;cases this
theorem Inv.bs (I:Inv X pins σ H s):∀ b o,X.base.get? b=some o->s.heap.get? b=some o/\H b=none:=fun b o e=>
  ⟨I.base.keep b o (I.ok.bs b o e).1 (I.ok.bs b o e).2 (I.ok.nofr e) (I.ok.noex b o e),I.base.free b o (I.ok.bs b o e).1 (I.ok.bs b o e).2 (I.ok.noex b o e)⟩
theorem Inv.bk (I:Inv X pins σ H s):∀ b o,X.base.get? b=some o->s.heap.get? b=some o:=fun b o e=>(I.bs b o e).1
theorem Inv.mod (I:Inv X pins σ H s):Mod X.K X.mg X.base:=I.ok.mod
theorem Inv.kIn (I:Inv X pins σ H s):X.K.In s.heap:=I.ok.mod.kin.keeps I.bk
theorem Inv.fr (I:Inv X pins σ H s):∃ m,Fr X.base X.env.locals s.heap m:=
  let ⟨m,hn,_⟩:=I.loc
  ⟨m,hn,I.bk,Nat.le_trans I.ok.bsz I.ok.above⟩
theorem Inv.lt (I:Inv X pins σ H s):X.env.locals<s.heap.objs.size:=let ⟨_,hn,_⟩:=I.loc;hn.lt
theorem Inv.sz (I:Inv X pins σ H s):X.s_0.heap.objs.size<=s.heap.objs.size:=Nat.le_trans I.ok.above (Nat.le_of_lt I.lt)
theorem Inv.nofs (I:Inv X pins σ H s) {a:Addr} (h:s.heap.objs.size<=a):a ∉ X.fs:=fun hb=>by
  obtain ⟨_,o,ho,_⟩:=I.ok.funs.mem hb
  exact absurd (Nat.lt_of_lt_of_le (Heap.lt_size ho) (Nat.le_trans I.sz h)) (Nat.lt_irrefl _)
theorem Inv.cne (I:Inv X pins σ H s):∀ x c,X.env.cells.lookup x=some c->c≠X.env.locals:=fun x c e z=>by
  obtain ⟨v,o,ho,hd⟩:=I.cell x c e
  obtain ⟨m,⟨o',es,ep,ho',hd',_⟩,_⟩:=I.loc
  rw [z,ho'] at ho;cases ho;rw [hd'] at hd;cases hd
theorem Inv.funs (I:Inv X pins σ H s):s.heap.FunFrames X.base X.outer:=by
  have all:∀ (l:List Env),(∀ b∈frs l,b∈X.fs)->X.s_0.heap.FunFrames X.base l->s.heap.FunFrames X.base l:=by
    intro l
    induction l with
    | nil=>intro _ _;trivial
    | cons env r ih=>
      intro hs hl
      obtain ⟨hk,⟨L,o,hf,hn,ho,hd⟩,hr⟩:=hl
      have hL:L∈X.fs:=hs L (by unfold frs;rw [List.filterMap_cons,hf];exact List.mem_cons_self)
      obtain ⟨sl,e⟩:=I.base.slot L o ho (I.ok.frf L hL) hL fun z=>I.ok.exfs L z hL
      exact⟨hk,⟨L,_,hf,hn,e,hd⟩,ih (fun b hb=>hs b (by unfold frs;rw [List.filterMap_cons,hf];exact List.mem_cons_of_mem _ hb)) hr⟩
  exact all X.outer (fun _ hb=>hb) I.ok.funs
theorem Inv.stack (I:Inv X pins σ H s):s.heap.FunFrames X.base X.stack:=by
  rcases I.ok.stk with e | ⟨e,hf⟩
  · rw [e];exact I.funs
  · rw [e]
    obtain ⟨m,hn,_⟩:=I.loc
    refine .cons (by rw [I.ok.kind];decide) hf hn ?_ I.funs
    exact Heap.get?_none_of_le (Nat.le_trans I.ok.bsz I.ok.above)
theorem Inv.stkSub (I:Inv X pins σ H s):∀ b∈frs X.stack,b∈X.env.locals::X.fs:=fun b hb=>by
  rcases I.ok.stk with e | ⟨e,hf⟩
  · rw [e] at hb;exact List.mem_cons_of_mem _ hb
  · rw [e] at hb
    unfold frs at hb
    rw [List.filterMap_cons,hf] at hb
    exact hb
theorem Inv.stkFree (I:Inv X pins σ H s):∀ b∈frs X.stack,H b=none:=fun b hb=>by
  rcases List.mem_cons.mp (I.stkSub b hb) with e | hb
  · rw [e];exact I.free
  · obtain ⟨_,o,ho,_⟩:=I.ok.funs.mem hb
    exact I.base.free b o ho (I.ok.frf b hb) fun z=>I.ok.exfs b z hb
theorem Inv.step {g':Array GenState}{t':Nat}{d':Drawn}{ch:List Addr} (I:Inv X pins σ H s)
    (hch:∀ b∈ch,(b∈X.ex \/ X.s_0.heap.objs.size<=b)/\b≠X.env.locals/\(∀ x c,X.env.cells.lookup x=some c->c≠b)/\∀ p∈X.pn++pins,p.1≠b)
    (keep:∀ b o,b≠X.env.locals->b ∉ X.fs->b ∉ ch->s.heap.get? b=some o->H b=none->h'.get? b=some o)
    (slot:∀ b o,b≠X.env.locals->b∈X.fs->b ∉ ch->s.heap.get? b=some o->H b=none->∃ sl,h'.get? b=some { o with slots:=sl }) (free:∀ b o,b ∉ ch->s.heap.get? b=some o->H b=none->H' b=none)
    (there:∀ b o,b ∉ ch->s.heap.get? b=some o->∃ o',h'.get? b=some o')
    (tups:∀ b xs,H b=some (.tup xs)->H' b=some (.tup xs)) (frzs:∀ b o u,H b=some (.frz o u)->H' b=some (.frz o u)) (tbls:∀ b ps,H b=some (.tbl ps)->∃ more,H' b=some (.tbl (ps++more)))
    (ns:∀ m,s.heap.Ns X.env.locals m->h'.Ns X.env.locals m) (hok:HOk X.prog X.w H' h') (hg:AllBare g') :
    Inv X pins σ H' { s with heap:=h',gens:=g',drawn:=d',toks:=t' }:=by
  have neL:∀ b o,X.s_0.heap.get? b=some o->b≠X.env.locals:=fun b o e=>Nat.ne_of_lt (Nat.lt_of_lt_of_le (Heap.lt_size e) I.ok.above)
  have neC:∀ b o,X.s_0.heap.get? b=some o->b ∉ X.ex->b ∉ ch:=fun b o e hx hb=>by
    rcases (hch b hb).1 with z | z
    · exact hx z
    · exact absurd (Nat.lt_of_lt_of_le (Heap.lt_size e) z) (Nat.lt_irrefl _)
  have cellK:∀ x c,X.env.cells.lookup x=some c->∀ v,s.heap.IsCell c v->h'.IsCell c v:=fun x c e v ⟨o,ho,hd⟩=>by
    have nch:c ∉ ch:=fun z=>(hch c z).2.2.1 x c e rfl
    by_cases hc:c∈X.fs
    · obtain ⟨sl,q⟩:=slot c o (I.cne x c e) hc nch ho (I.freeC x c e)
      exact⟨_,q,hd⟩
    · exact⟨o,keep c o (I.cne x c e) hc nch ho (I.freeC x c e),hd⟩
  refine⟨I.ok,I.os,hg,⟨fun b o e n hb hx=>?_,fun b o e n hb hx=>?_,fun b o e n hx=>?_,fun b o e hx=>?_,fun b xs e=>tups b xs (I.base.tups b xs e),fun b o xs e=>frzs b o xs (I.base.frzs b o xs e),fun b ps e=>?_⟩,?_,fun x c e=>?_,?_,fun x c e=>?_,fun p hp=>?_,hok,I.len⟩
  · exact keep b o (neL b o e) hb (neC b o e hx) (I.base.keep b o e n hb hx) (I.base.free b o e n hx)
  · obtain ⟨sl,e1⟩:=I.base.slot b o e n hb hx
    obtain ⟨sl',e2⟩:=slot b _ (neL b o e) hb (neC b o e hx) e1 (I.base.free b o e n hx)
    exact⟨sl',e2⟩
  · obtain ⟨o',e1⟩:=I.base.there b o e hx
    exact free b o' (neC b o e hx) e1 (I.base.free b o e n hx)
  · obtain ⟨o',e1⟩:=I.base.there b o e hx
    exact there b o' (neC b o e hx) e1
  · obtain ⟨m1,e1⟩:=I.base.tbls b ps e
    obtain ⟨m2,e2⟩:=tbls b _ e1
    exact⟨m1++m2,by rw [e2,Array.append_assoc]⟩
  · obtain ⟨m,hn,hl⟩:=I.loc
    refine⟨m,ns m hn,fun i x v e1 e2 e3=>?_⟩
    obtain ⟨u,r,l⟩:=hl i x v e1 e2 e3
    refine⟨u,r,?_⟩
    rcases l with l | ⟨k,c,e,z⟩
    · exact .inl l
    · exact .inr ⟨k,c,e,cellK x c e _ z⟩
  · obtain ⟨v,z⟩:=I.cell x c e
    exact⟨v,cellK x c e v z⟩
  · obtain ⟨m,⟨o,_,_,ho,_⟩,_⟩:=I.loc
    exact free _ o (fun z=>(hch _ z).2.1 rfl) ho I.free
  · obtain ⟨v,o,ho,hd⟩:=I.cell x c e
    exact free c o (fun z=>(hch c z).2.2.1 x c e rfl) ho (I.freeC x c e)
  · obtain ⟨e,n,ne,nf,d⟩:=I.pin p hp
    have nch:p.1 ∉ ch:=fun z=>(hch p.1 z).2.2.2 p hp rfl
    exact⟨keep p.1 p.2 ne nf nch e n,free p.1 p.2 nch e n,ne,nf,d⟩
theorem Inv.un {t':Nat} (I:Inv X pins σ H s) (u:Un X.fs [] H H' s.heap h') (hok:HOk X.prog X.w H' h'):Inv X pins σ H' { s with heap:=h',toks:=t' }:=by
  obtain ⟨m,⟨o,es,ep,ho,r⟩,_⟩:=id I.loc
  obtain ⟨sl,hL⟩:=u.any ho I.free (by simp)
  exact I.step (g':=s.gens) (d':=s.drawn) (ch:=[]) (fun _ z=>nomatch z) (fun b o _ hb _ e n=>u.keep b o e n hb (by simp)) (fun b o _ hb _ e n=>u.slot b o e n hb (by simp)) (fun b o _ e n=>u.free b o e n (by simp)) (fun b o _ e=>u.there b o e (by simp)) u.tups u.frzs u.tbls (fun m' hm=>by
    obtain ⟨o',es',ep',ho',r'⟩:=hm
    rw [ho] at ho';cases ho'
    exact⟨_,es',ep',hL,r'⟩) hok I.bare
theorem Inv.call {g':Array GenState}{t':Nat}{d':Drawn}{ch:List Addr} (I:Inv X pins σ H s) (u:Un (frs X.stack) ch H H' s.heap h') (hok:HOk X.prog X.w H' h') (hg:AllBare g')
    (hch:∀ b∈ch,(b∈X.ex \/ X.s_0.heap.objs.size<=b)/\b≠X.env.locals/\(∀ x c,X.env.cells.lookup x=some c->c≠b)/\∀ p∈X.pn++pins,p.1≠b) :
    Inv X pins σ H' { s with heap:=h',gens:=g',drawn:=d',toks:=t' }:=by
  obtain ⟨m,⟨o,es,ep,ho,r⟩,_⟩:=id I.loc
  obtain ⟨sl,hL⟩:=u.any ho I.free fun z=>(hch _ z).2.1 rfl
  exact I.step (ch:=ch) hch (fun b o hL hb hc e n=>u.keep b o e n (fun z=>(List.mem_cons.mp (I.stkSub b z)).elim hL hb) hc) (fun b o _ _ hc e n=>u.any e n hc) (fun b o hc e n=>u.free b o e n hc) (fun b o hc e=>u.there b o e hc) u.tups u.frzs u.tbls (fun m' hm=>by
    obtain ⟨o',es',ep',ho',r'⟩:=hm
    rw [ho] at ho';cases ho'
    exact⟨_,es',ep',hL,r'⟩) hok hg
theorem Inv.turned {t':Nat}{it:Addr} (I:Inv X pins σ H s) (k:∀ b o,b≠it->s.heap.get? b=some o->h'.get? b=some o) (hn:H it=none) (hL:it≠X.env.locals)
    (h1:it∈X.ex \/ X.s_0.heap.objs.size<=it) (h2:∀ x c,X.env.cells.lookup x=some c->c≠it) (h3:∀ p∈X.pn++pins,p.1≠it):Inv X pins σ H { s with heap:=h',toks:=t' }:=by
  have nit:∀ b u,H b=some u->b≠it:=fun b u e z=>by rw [z,hn] at e;cases e
  refine I.step (g':=s.gens) (d':=s.drawn) (ch:=[it]) (fun b hb=>?_) (fun b o _ _ hc e _=>k b o (fun z=>hc (by simp [z])) e) (fun b o _ _ hc e _=>⟨o.slots,k b o (fun z=>hc (by simp [z])) e⟩) (fun _ _ _ _ n=>n)
    (fun b o hc e=>⟨o,k b o (fun z=>hc (by simp [z])) e⟩) (fun _ _ e=>e) (fun _ _ _ e=>e) (fun b ps e=>⟨#[],by rw [e];simp⟩) (fun m hm=>?_) (fun b u e=>?_) I.bare
  · have e:b=it:=by simpa using hb
    subst e
    exact⟨h1,hL,h2,h3⟩
  · obtain ⟨o,es,ep,ho,r⟩:=hm
    exact⟨o,es,ep,k _ o (Ne.symm hL) ho,r⟩
  · refine (I.hok b u e).stay (fun c v hc q=>k c v ?_ q) (fun _ q=>q) fun _ _ q=>q
    rcases hc with z | z
    · rw [z];exact nit b u e
    · exact nit c _ z
theorem Inv.tok (I:Inv X pins σ H s) (t:Nat):Inv X pins σ H { s with toks:=t }:=I.un (h':=s.heap) (t':=t) Un.refl I.hok
theorem Inv.kept {t':Nat} (I:Inv X pins σ H s) (k:∀ b u,s.heap.get? b=some u->h'.get? b=some u):Inv X pins σ H { s with heap:=h',toks:=t' }:=I.un (Un.kept k) (I.hok.kept k)
theorem Inv.laid {a:Addr}{o:HO}{t':Nat} (I:Inv X pins σ H s) (k:∀ b u,s.heap.get? b=some u->h'.get? b=some u) (hp:s.heap.objs.size<=a) (new:ObjOk X.prog X.w (upd H a o) h' a o) :
    Inv X pins σ (upd H a o) { s with heap:=h',toks:=t' }:=I.un (Un.laid k hp (I.hok.fresh hp)) (I.hok.laid k hp new)
theorem Inv.write {x e:Addr}{o:HO}{t':Nat} (I:Inv X pins σ H s) (mu:Mut (H x)) (he:e=x \/ H e=some (.own x)) (k:∀ b u,b≠e->s.heap.get? b=some u->h'.get? b=some u) (heo:∃ u,h'.get? e=some u)
    (new:ObjOk X.prog X.w (upd H x o) h' x o):Inv X pins σ (upd H x o) { s with heap:=h',toks:=t' }:=I.un (Un.write mu he k heo) (I.hok.write mu he k heo new)
theorem Inv.weak {σ':List (Option V)} (I:Inv X pins σ H s) (hl:σ'.length=σ.length) (w:∀ (i:Nat) v,σ'[i]?=some (some v)->σ[i]?=some (some v)):Inv X pins σ' H s:=
  ⟨I.ok,I.os,I.bare,I.base,let ⟨m,hn,hl'⟩:=I.loc;⟨m,hn,fun i x v e1 e2 e3=>hl' i x v e1 (w i v e2) e3⟩,I.cell,I.free,I.freeC,I.pin,I.hok,hl.trans I.len⟩
theorem Inv.pins_of {pins':List (Addr × Obj)} (I:Inv X pins σ H s) (h:∀ p∈pins',s.heap.get? p.1=some p.2/\H p.1=none/\p.1≠X.env.locals/\p.1 ∉ X.fs/\∀ v,p.2.data≠.cell v):Inv X pins' σ H s:=
  ⟨I.ok,I.os,I.bare,I.base,I.loc,I.cell,I.free,I.freeC,fun p hp=>(List.mem_append.mp hp).elim (fun z=>I.pin p (List.mem_append_left _ z)) (h p),I.hok,I.len⟩
theorem nodup_ix {N:List Str} (hN:N.Nodup) {i j:Nat}{x:Str} (a:N[i]?=some x) (b:N[j]?=some x):i=j:=by
  obtain ⟨h1,e1⟩:=List.getElem?_eq_some_iff.mp a
  obtain ⟨h2,e2⟩:=List.getElem?_eq_some_iff.mp b
  exact (List.getElem_inj hN).mp (e1.trans e2.symm)
theorem store_ok2 {M:Model}{A:Around}{E:Value->Shared->Prop}{i:Nat}{x:Str}{v:V}{u:Value}{Q:Unit->Shared->Prop} (I:Inv X pins σ H s) (hN:X.N.Nodup) (hi:X.N[i]?=some x) (hx:Loc X.env.scope x) (r:RelV v u)
    (h:∀ s',Inv X pins (σ.set i (some v)) H s'->(∃ a,Heap.SameBut a s.heap s'.heap/\(a=X.env.locals \/ X.env.cells.lookup x=some a))->Q () s') (hf:X.fn x=true \/ X.env.scope.names.lookup x=some .local:=by first | exact .inl rfl | exact .inr rfl | assumption):wpAny M A (storeName X.env x u) Q E s:=by
  obtain ⟨m,hn,hl⟩:=id I.loc
  have hcls:(X.env.scope.kind==.class||(X.env.scope.kind==.module&&X.env.locals != X.env.globals))=false:=by rw [I.ok.kind];rfl
  have hiσ:i<σ.length:=by rw [I.len];exact (List.getElem?_eq_some_iff.mp hi).1
  have cne:=I.cne
  have tracked:∀ {a:Addr}{h':Heap},(∃ o,s.heap.get? a=some o/\H a=none)->Heap.SameBut a s.heap h'->HOk X.prog X.w H h':=fun {a h'} ha hs b ob e=>by
    obtain ⟨_,_,hfree⟩:=ha
    refine (I.hok b ob e).stay (fun c w' hc q=>(hs.2 c ?_).trans q) (fun _ q=>q) fun _ _ q=>q
    rintro rfl
    rcases hc with rfl | hc
    · rw [hfree] at e;cases e
    · rw [hfree] at hc;cases hc
  rcases hx with hk | hk
  · refine wpAny_storeName_local hk hn (fun h' hn' hs=>?_) hcls
    obtain ⟨oL,_,_,hoL,_⟩:=id hn
    refine h _ ⟨I.ok,I.os,I.bare,⟨fun b o e n hb hx=>?_,fun b o e n hb hx=>?_,I.base.free,fun b o e hx=>?_,I.base.tups,I.base.frzs,I.base.tbls⟩,⟨_,hn',fun j y v' e1 e2 e3=>?_⟩,fun y c e=>?_,I.free,I.freeC,fun p hp=>?_,tracked ⟨oL,hoL,I.free⟩ hs,by simpa using I.len⟩ ⟨_,hs,.inl rfl⟩
    · exact (hs.2 b (Nat.ne_of_lt (Nat.lt_of_lt_of_le (Heap.lt_size e) I.ok.above))).trans (I.base.keep b o e n hb hx)
    · obtain ⟨sl,e1⟩:=I.base.slot b o e n hb hx
      exact⟨sl,(hs.2 b (Nat.ne_of_lt (Nat.lt_of_lt_of_le (Heap.lt_size e) I.ok.above))).trans e1⟩
    · obtain ⟨o',e1⟩:=I.base.there b o e hx
      exact⟨o',(hs.2 b (Nat.ne_of_lt (Nat.lt_of_lt_of_le (Heap.lt_size e) I.ok.above))).trans e1⟩
    · by_cases hj:j=i
      · subst hj
        rw [hi] at e1;cases e1
        rw [List.getElem?_set_self hiσ] at e2
        cases e2
        exact⟨u,r,.inl ⟨hk,by simp⟩⟩
      · rw [List.getElem?_set_ne (Ne.symm hj)] at e2
        obtain ⟨u',r',q⟩:=hl j y v' e1 e2 e3
        refine⟨u',r',?_⟩
        rcases q with ⟨k,e⟩ | ⟨k,c,e,z⟩
        · refine .inl ⟨k,?_⟩
          have:y≠x:=fun e=>hj (nodup_ix hN e1 (e ▸ hi))
          simp [this,e]
        · exact .inr ⟨k,c,e,z.sameBut hs (cne y c e)⟩
    · obtain ⟨w',z⟩:=I.cell y c e
      exact⟨w',z.sameBut hs (cne y c e)⟩
    · obtain ⟨e,n,ne,nf,d⟩:=I.pin p hp
      exact⟨(hs.2 p.1 ne).trans e,n,ne,nf,d⟩
  · have hfn:X.fn x=true:=by
      rcases hf with z | z
      · exact z
      · rw [z] at hk;cases hk
    obtain ⟨c,hc⟩:=I.ok.has x (.inl hk)
    obtain ⟨w',z⟩:=I.cell x c hc
    refine wpAny_storeName_cell I.ok.kind hk hc z (fun h' hc' hs=>?_)
    obtain ⟨oc,hoc,hocd⟩:=id z
    refine h { s with heap:=h' } ⟨I.ok,I.os,I.bare,⟨fun b o e n hb hx=>?_,fun b o e n hb hx=>?_,I.base.free,fun b o e hx=>?_,I.base.tups,I.base.frzs,I.base.tbls⟩,⟨m,hn.sameBut hs (Ne.symm (cne x c hc)),fun j y v' e1 e2 e3=>?_⟩,fun y c' e=>?_,I.free,I.freeC,fun p hp=>?_,tracked ⟨oc,hoc,I.freeC x c hc⟩ hs,by simpa using I.len⟩ ⟨c,hs,.inr hc⟩
    · exact (hs.2 b (Nat.ne_of_lt (Nat.lt_of_lt_of_le (Heap.lt_size e) (I.ok.cab x c hfn hc)))).trans (I.base.keep b o e n hb hx)
    · obtain ⟨sl,e1⟩:=I.base.slot b o e n hb hx
      exact⟨sl,(hs.2 b (Nat.ne_of_lt (Nat.lt_of_lt_of_le (Heap.lt_size e) (I.ok.cab x c hfn hc)))).trans e1⟩
    · obtain ⟨o',e1⟩:=I.base.there b o e hx
      exact⟨o',(hs.2 b (Nat.ne_of_lt (Nat.lt_of_lt_of_le (Heap.lt_size e) (I.ok.cab x c hfn hc)))).trans e1⟩
    · by_cases hj:j=i
      · subst hj
        rw [hi] at e1;cases e1
        rw [List.getElem?_set_self hiσ] at e2
        cases e2
        exact⟨u,r,.inr ⟨.inl hk,c,hc,hc'⟩⟩
      · rw [List.getElem?_set_ne (Ne.symm hj)] at e2
        obtain ⟨u',r',q⟩:=hl j y v' e1 e2 e3
        refine⟨u',r',?_⟩
        rcases q with q | ⟨k,c',e,z'⟩
        · exact .inl q
        · refine .inr ⟨k,c',e,z'.sameBut hs ?_⟩
          rintro rfl
          exact hj (nodup_ix hN e1 (I.ok.inj _ _ _ e hc ▸ hi))
    · by_cases hcc:c'=c
      · subst hcc;exact⟨_,hc'⟩
      · obtain ⟨w2,z2⟩:=I.cell y c' e
        exact⟨w2,z2.sameBut hs hcc⟩
    · obtain ⟨e,n,ne,nf,d⟩:=I.pin p hp
      refine⟨(hs.2 p.1 ?_).trans e,n,ne,nf,d⟩
      intro q
      rw [q,hoc] at e
      have q':oc=p.2:=Option.some.inj e
      exact d w' (by rw [<- q'];exact hocd)
theorem store_ok {M:Model}{A:Around}{E:Value->Shared->Prop}{i:Nat}{x:Str}{v:V}{u:Value}{Q:Unit->Shared->Prop} (I:Inv X pins σ H s) (hN:X.N.Nodup) (hi:X.N[i]?=some x) (hx:Loc X.env.scope x) (r:RelV v u)
    (h:∀ s',Inv X pins (σ.set i (some v)) H s'->Q () s') (hf:X.fn x=true \/ X.env.scope.names.lookup x=some .local:=by first | exact .inl rfl | exact .inr rfl | assumption):wpAny M A (storeName X.env x u) Q E s:=
  store_ok2 I hN hi hx r (fun s' I' _=>h s' I') hf
theorem Inv.call' {s':Shared}{ch:List Addr} (I:Inv X pins σ H s) (ho:s'.os=s.os) (u:Un (frs X.stack) ch H H' s.heap s'.heap) (hok:HOk X.prog X.w H' s'.heap) (hg:AllBare s'.gens)
    (hch:∀ b∈ch,(b∈X.ex \/ X.s_0.heap.objs.size<=b)/\b≠X.env.locals/\(∀ x c,X.env.cells.lookup x=some c->c≠b)/\∀ p∈X.pn++pins,p.1≠b):Inv X pins σ H' s':=by
  obtain ⟨h',g',d',t',o'⟩:=s'
  have e:o'=s.os:=ho
  subst e
  exact I.call (g':=g') (t':=t') (d':=d') u hok hg hch
end
abbrev XK:=Value->Option Addr->Hp->Prop
abbrev St:=List (Option V)
abbrev VK:=V->Hp->Prop
abbrev TE:=St->Hp->VK->Prop
abbrev TT:=St->Hp->(Bool->Hp->Prop)->Prop
abbrev TA:=St->Hp->(List V->Hp->Prop)->Prop
structure Ends where
  nx:St->Hp->Prop
  rt:VK
  bk:St->Hp->Prop:=fun _ _=>False
  ct:St->Hp->Prop:=fun _ _=>False
abbrev TS:=Ends->St->Hp->Prop
def EP (X:Cx) (pins:List (Addr × Obj)) (σ:St) (Q:VK) (u:Value) (s':Shared):Prop:=∃ v H',Inv X pins σ H' s'/\RelV v u/\Q v H'
def TP (X:Cx) (pins:List (Addr × Obj)) (σ:St) (Q:Bool->Hp->Prop) (b:Bool) (s':Shared):Prop:=∃ H',Inv X pins σ H' s'/\Q b H'
def AP (X:Cx) (pins:List (Addr × Obj)) (σ:St) (Q:List V->Hp->Prop) (us:List Value) (s':Shared):Prop:=∃ vs H',Inv X pins σ H' s'/\Vals vs us/\Q vs H'
def SP (X:Cx) (pins:List (Addr × Obj)) (D:Ends) (f:Flow) (s':Shared):Prop:=
  match f with
  | .next=>∃ σ' H',Inv X pins σ' H' s'/\D.nx σ' H'
  | .brk=>∃ σ' H',Inv X pins σ' H' s'/\D.bk σ' H'
  | .cont=>∃ σ' H',Inv X pins σ' H' s'/\D.ct σ' H'
  | .ret u=>∃ v σ' H',Inv X pins σ' H' s'/\RelV v u/\D.rt v H'
def PE (X:Cx) (e:Expr) (t:TE):Prop:=
  ∀ (pins:List (Addr × Obj)) (s:Shared) (σ:St) (H:Hp) (Q:VK),Inv X pins σ H s->t σ H Q->wpAny (model X.prog X.w) X.A (eval e X.env) (EP X pins σ Q) X.xe s
def PT (X:Cx) (e:Expr) (t:TT):Prop:=
  ∀ (pins:List (Addr × Obj)) (s:Shared) (σ:St) (H:Hp) (Q:Bool->Hp->Prop),Inv X pins σ H s->t σ H Q->wpAny (model X.prog X.w) X.A (isTrue e X.env (eval e X.env)) (TP X pins σ Q) X.xe s
def PW (X:Cx) (e:Expr) (t:TT):Prop:=
  ∀ (whole:Sem Value) (pins:List (Addr × Obj)) (s:Shared) (σ:St) (H:Hp) (Q:Bool->Hp->Prop),Inv X pins σ H s->t σ H Q->wpAny (model X.prog X.w) X.A (isTrue e X.env whole) (TP X pins σ Q) X.xe s
theorem PW.pt {X:Cx}{e:Expr}{t:TT} (h:PW X e t):PT X e t:=h _
def PA (X:Cx) (es:List Expr) (t:TA):Prop:=
  ∀ (pos:Pos) (pins:List (Addr × Obj)) (s:Shared) (σ:St) (H:Hp) (Q:List V->Hp->Prop),Inv X pins σ H s->t σ H Q->wpAny (model X.prog X.w) X.A (spliced (backTo pos (starEach es X.env))) (AP X pins σ Q) X.xe s
def PS (X:Cx) (st:Stmt) (t:TS):Prop:=
  ∀ (pins:List (Addr × Obj)) (s:Shared) (σ:St) (H:Hp) (D:Ends),Inv X pins σ H s->t D σ H->wpAny (model X.prog X.w) X.A (exec st X.env) (SP X pins D) X.xe s
def PSs (X:Cx) (st:List Stmt) (t:TS):Prop:=
  ∀ (pins:List (Addr × Obj)) (s:Shared) (σ:St) (H:Hp) (D:Ends),Inv X pins σ H s->t D σ H->wpAny (model X.prog X.w) X.A (execs st X.env) (SP X pins D) X.xe s
theorem thn {α:Type}{t:Sem α}{Q Q':α->Shared->Prop}{M:Model}{A:Around}{E:Value->Shared->Prop}{s:Shared} (h:wpAny M A t Q E s) (hQ:∀ a s,Q a s->Q' a s):wpAny M A t Q' E s:=wpAny_mono h hQ fun _ _ x=>x
end L2
namespace L2
open PySem PySem.Spec PyProof.Rows
section
variable {X:Cx}
theorem bin {a b:Expr}{ta tb:TE} (ha:PE X a ta) (hb:PE X b tb) {pins:List (Addr × Obj)}{s:Shared}{σ:St}{H:Hp}{R:V->V->Hp->Prop} (I:Inv X pins σ H s) (h:ta σ H fun x H1=>tb σ H1 fun y H2=>R x y H2)
    {α:Type}{Q:α->Shared->Prop}{f:Value->Value->Sem α}
    (hf:∀ v u s2 x y H2,Inv X pins σ H2 s2->RelV x v->RelV y u->R x y H2->wpAny (model X.prog X.w) X.A (f v u) Q X.xe s2) :
    wpAny (model X.prog X.w) X.A (eval a X.env) (fun v s₁=>wpAny (model X.prog X.w) X.A (eval b X.env) (fun u s₂=>wpAny (model X.prog X.w) X.A (f v u) Q X.xe s₂) X.xe s₁) X.xe s:=by
  refine thn (ha pins s σ H _ I h) fun v s1 ⟨x,H1,I1,r1,q1⟩=>?_
  refine thn (hb pins s1 σ H1 _ I1 q1) fun u s2 ⟨y,H2,I2,r2,q2⟩=>?_
  exact hf v u s2 x y H2 I2 r1 r2 q2
def tVar (i:Nat):TE:=fun σ H Q=>∃ v,σ[i]?=some (some v)/\Q v H
def tC (v:V):TE:=fun _ H Q=>Q v H
theorem pe_var {i:Nat}{x:Str}{pos:Pos} (hN:X.N[i]?=some x) (hv:Vis X.env.scope x) (hd:(x==("__debug__":Str))=false:=by decide) (hcd:(x==("__classdict__":Str))=false:=by decide):PE X (.Name x pos) (tVar i):=by
  intro pins s σ H Q I h
  obtain ⟨v,e,h⟩:=h
  obtain ⟨m,hn,hl⟩:=I.loc
  obtain ⟨u,r,l⟩:=hl i x v hN e hv
  have fin:EP X pins σ Q u s:=⟨v,H,I,r,h⟩
  rcases l with ⟨hk,hm⟩ | ⟨hk,c,hc,hcell⟩
  · exact wpAny_Name (wpAny_loadName_local I.ok.kind hk hn hm fin) hd
  · rcases hk with hk | hk
    · exact wpAny_Name (wpAny_loadName_cell I.ok.kind hk hc hcell fin) hd
    · exact wpAny_Name (wpAny_loadName_free I.ok.kind hk hc hcell fin hcd) hd
theorem pe_int {i j pos}:PE X (.Constant (.int i) j pos) (tC (.int i)):=fun _ _ _ H _ I h=>wpAny_Constant_int ⟨.int i,H,I.tok _,⟨_,rfl⟩,h⟩
theorem pe_bl {b j pos}:PE X (.Constant (.bool b) j pos) (tC (.bl b)):=fun _ _ _ H _ I h=>Constant_bool ⟨.bl b,H,I,rfl,h⟩
theorem pe_non {j pos}:PE X (.Constant .none j pos) (tC .non):=fun _ _ _ H _ I h=>Constant_none ⟨.non,H,I,rfl,h⟩
theorem pe_str {x j pos}:PE X (.Constant (.str x) j pos) (tC (.str x)):=fun _ _ _ H _ I h=>Calls.Constant_str ⟨.str x,H,I.tok _,⟨_,rfl⟩,h⟩
def Gl (X:Cx) (x:Str):Prop:=X.env.kindOf x=some .globalImplicit
theorem ld_glob {E:Value->Shared->Prop}{pins:List (Addr × Obj)}{s:Shared}{σ:St}{H:Hp}{x:Str}{u:Value}{pos:Pos}{Q:Value->Shared->Prop} (I:Inv X pins σ H s) (hg:Gl X x) (hm:X.mg x=some u) (h:Q u s)
    (hd:(x==("__debug__":Str))=false:=by decide):wpAny (model X.prog X.w) X.A (eval (.Name x pos) X.env) Q E s:=
  Calls.Name_function_global I.ok.kind hg (Calls.loadGlobal_global (by rw [I.ok.glob];exact I.mod.glob.keeps I.bk) hm h) hd
theorem ld_blt {E:Value->Shared->Prop}{pins:List (Addr × Obj)}{s:Shared}{σ:St}{H:Hp}{x:Str}{u:Value}{pos:Pos}{Q:Value->Shared->Prop} (I:Inv X pins σ H s) (hg:Gl X x) (hm:X.mg x=none) (hv:bootBuiltins x=some u) (h:Q u s)
    (hn:x≠"__name__":=by decide) (hd:(x==("__debug__":Str))=false:=by decide):wpAny (model X.prog X.w) X.A (eval (.Name x pos) X.env) Q E s:=by
  obtain ⟨mb,h1,h2⟩:=I.mod.blt
  exact Calls.Name_function_global I.ok.kind hg (Calls.loadGlobal_builtin (by rw [I.ok.glob];exact I.mod.glob.keeps I.bk) hm (by rw [I.ok.blt];exact h1.keeps I.bk) ((h2 x hn).trans hv) h) hd
theorem pe_glob {x:Str}{v:V}{u:Value}{pos:Pos} (hg:Gl X x) (hm:X.mg x=some u) (r:RelV v u) (hd:(x==("__debug__":Str))=false:=by decide):PE X (.Name x pos) (tC v):=
  fun _ _ _ H _ I h=>ld_glob I hg hm ⟨v,H,I,r,h⟩ hd
variable {a b:Expr}{ta tb:TE}{pos:Pos}
def PC (X:Cx) (op:CmpOp) (a b:Expr) (t:TE):Prop:=
  ∀ (pins:List (Addr × Obj)) (s:Shared) (σ:St) (H:Hp) (Q:VK),Inv X pins σ H s->t σ H Q ->
    wpAny (model X.prog X.w) X.A (eval a X.env) (fun v s₁=>wpAny (model X.prog X.w) X.A (eval b X.env) (fun u s₂=>wpAny (model X.prog X.w) X.A (compareOp op v u) (EP X pins σ Q) X.xe s₂) X.xe s₁) X.xe s
theorem nobehind (b:Expr) {op:CmpOp} (h:op≠.In) (h2:op≠.NotIn):behindInMarks op b=false:=by
  have e1:(op==CmpOp.In)=false:=by cases op <;> first | rfl | exact absurd rfl h
  have e2:(op==CmpOp.NotIn)=false:=by cases op <;> first | rfl | exact absurd rfl h2
  cases b <;> simp [behindInMarks,e1,e2]
def tB (t:TE):TT:=fun σ H Q=>t σ H fun x H1=>∃ c,x=.bl c/\Q c H1
theorem pt_cmp {op:CmpOp}{t:TE} (h:PC X op a b t) (h1:behindInMarks op b=false:=by first | exact nobehind _ (by decide) (by decide) | rfl):PT X (.Compare a [op] [b] pos) (tB t):=by
  intro pins s σ H Q I hw
  refine wpAny_isTrue_Compare1 (thn (h pins s σ H _ I hw) fun v s1 h1=>thn h1 fun u s2 h2=>thn h2 fun c s3 ⟨x,H1,I1,r1,q1⟩=>?_) h1
  obtain ⟨d,rfl,q⟩:=q1
  cases r1
  exact wpAny_truthy_bool ⟨H1,I1,q⟩
theorem pt_val {e:Expr}{t:TE} (h:PE X e t) (he:∀ whole,isTrue e X.env whole=(do let v <- whole;standAt e.pos;holding [v] (truthy v)):=by intro _;rfl):PT X e (tB t):=by
  intro pins s σ H Q I hw
  refine isTrue_plain (thn (h pins s σ H _ I hw) fun v s1 ⟨x,H1,I1,r1,q1⟩=>?_) (he _)
  obtain ⟨d,rfl,q⟩:=q1
  cases r1
  exact wpAny_truthy_bool ⟨H1,I1,q⟩
variable {tA tB':TT}{rest:List Expr}
def tAnd (t u:TT):TT:=fun σ H Q=>t σ H fun c H1=>if c=true then u σ H1 Q else Q false H1
def tOr (t u:TT):TT:=fun σ H Q=>t σ H fun c H1=>if c=true then Q true H1 else u σ H1 Q
def tNot (t:TT):TT:=fun σ H Q=>t σ H fun c H1=>Q (!c) H1
theorem pw_and1 (ha:PT X a tA):PW X (.BoolOp .And [a] pos) tA:=by
  intro wh pins s σ H Q I h
  refine isTrue_and (thn (ha pins s σ H Q I h) fun c s1 e=>?_)
  cases c with
  | true=>exact isTrue_and_nil e
  | false=>exact e
theorem pw_or1 (ha:PT X a tA):PW X (.BoolOp .Or [a] pos) tA:=by
  intro wh pins s σ H Q I h
  refine isTrue_or (thn (ha pins s σ H Q I h) fun c s1 e=>?_)
  cases c with
  | false=>exact isTrue_or_nil e
  | true=>exact e
theorem pw_and (ha:PT X a tA) (hb:PW X (.BoolOp .And (b::rest) pos) tB'):PW X (.BoolOp .And (a::b::rest) pos) (tAnd tA tB'):=by
  intro wh pins s σ H Q I h
  refine isTrue_and (thn (ha pins s σ H _ I h) fun c s1 ⟨H1,I1,q1⟩=>?_)
  cases c with
  | true=>exact hb wh pins s1 σ H1 Q I1 q1
  | false=>exact⟨H1,I1,q1⟩
theorem pw_or (ha:PT X a tA) (hb:PW X (.BoolOp .Or (b::rest) pos) tB'):PW X (.BoolOp .Or (a::b::rest) pos) (tOr tA tB'):=by
  intro wh pins s σ H Q I h
  refine isTrue_or (thn (ha pins s σ H _ I h) fun c s1 ⟨H1,I1,q1⟩=>?_)
  cases c with
  | true=>exact⟨H1,I1,q1⟩
  | false=>exact hb wh pins s1 σ H1 Q I1 q1
theorem pt_not (ha:PT X a tA):PT X (.UnaryOp .Not a pos) (tNot tA):=by
  intro pins s σ H Q I h
  exact isTrue_not (ha pins s σ H (fun c H1=>Q (!c) H1) I h)
def tAndV (ta tb:TE):TE:=fun σ H Q=>ta σ H fun x H1=>∃ c,x=.bl c/\if c=true then tb σ H1 Q else Q (.bl false) H1
theorem pe_one {op}{t:TE} (h:PE X a t):PE X (.BoolOp op [a] pos) t:=fun pins s σ H Q I hw=>BoolOp_one (h pins s σ H Q I hw)
theorem pe_and (ha:PE X a ta) (hb:PE X (.BoolOp .And (b::rest) pos) tb):PE X (.BoolOp .And (a::b::rest) pos) (tAndV ta tb):=by
  intro pins s σ H Q I h
  refine BoolOp_and (thn (ha pins s σ H _ I h) fun v s1 ⟨x,H1,I1,r1,q1⟩=>?_)
  obtain ⟨c,rfl,q1⟩:=q1
  cases r1
  refine wpAny_truthy_bool ?_
  cases c with
  | true=>exact hb pins s1 σ H1 Q I1 q1
  | false=>exact⟨.bl false,H1,I1,rfl,q1⟩
def tIf (t:TT) (ta tb:TE):TE:=fun σ H Q=>t σ H fun c H1=>if c=true then ta σ H1 Q else tb σ H1 Q
theorem pe_ifExp {c:Expr} (hc:PT X c tA) (ha:PE X a ta) (hb:PE X b tb):PE X (.IfExp c a b pos) (tIf tA ta tb):=by
  intro pins s σ H Q I h
  refine wpAny_IfExp (thn (hc pins s σ H _ I h) fun d s1 ⟨H1,I1,q1⟩=>?_)
  cases d with
  | true=>exact ha pins s1 σ H1 Q I1 q1
  | false=>exact hb pins s1 σ H1 Q I1 q1
end
end L2
namespace L2
open PySem PySem.Spec PyProof.Rows
def SqL (K:PySem.W.Frag) (H:Hp) (a:Addr) (xs:List V):Prop:=
  Rd H a (.lst xs) \/
    ∃ (o:Obj) (its:Array Value) (n:Nat),K.lookup a=some o/\o.cls=.type "list"/\o.dict=none/\o.data=.seq its n/\its.size<=sizeLine/\Vals xs its.toList
def SqT (K:PySem.W.Frag) (H:Hp) (a:Addr) (xs:List V):Prop:=
  Rd H a (.tup xs) \/
    ∃ (o:Obj) (its:Array Value) (n:Nat),K.lookup a=some o/\o.cls=.type "tuple"/\o.data=.seq its n/\its.size<=sizeLine/\Vals xs its.toList
def absV:Value->Option V
  | .none=>some .non
  | .bool b=>some (.bl b)
  | .int i _=>some (.int i)
  | .str x _=>some (.str x)
  | .bytes b _=>some (.byt b)
  | .float b _=>some (.flt b)
  | .ref a=>some (.ref a)
  | .type n=>some (.ty n)
  | _=>none
theorem RelV.abs {x:V}{u:Value} (r:RelV x u):absV u=some x:=by
  cases x with
  | non=>cases r;rfl
  | bl _=>cases r;rfl
  | int _=>obtain ⟨t,rfl⟩:=r;rfl
  | str _=>obtain ⟨t,rfl⟩:=r;rfl
  | byt _=>obtain ⟨t,rfl⟩:=r;rfl
  | flt _=>obtain ⟨t,rfl⟩:=r;rfl
  | ref _=>cases r;rfl
  | ty _=>cases r;rfl
theorem RelV.inj {x y:V}{u:Value} (r:RelV x u) (q:RelV y u):x=y:=Option.some.inj (r.abs.symm.trans q.abs)
theorem Vals.inj:∀ {xs ys:List V}{us:List Value},Vals xs us->Vals ys us->xs=ys
  | _,_,_,.nil,.nil=>rfl
  | _,_,_,.cons r t,.cons r' t'=>by rw [r.inj r',Vals.inj t t']
section
variable {X:Cx}{pins:List (Addr × Obj)}{σ:St}{H:Hp}{s:Shared}{a:Addr}{xs ys:List V}
theorem SqL.of {K:PySem.W.Frag} (h:H a=some (.lst xs)):SqL K H a xs:=.inl (.inl h)
theorem SqT.of {K:PySem.W.Frag} (h:H a=some (.tup xs)):SqT K H a xs:=.inl (.inl h)
theorem Inv.list (I:Inv X pins σ H s) (h:SqL X.K H a xs):∃ its:List Value,Vals xs its/\PlainL s.heap a its.toArray/\xs.length<=sizeLine:=by
  rcases h with h | ⟨o,its,n,hk,hc,hd,hs,hz,r⟩
  · obtain ⟨z,its,n,r,e⟩:=h.ok I.hok
    exact⟨its,r,⟨_,n,e,rfl,rfl,rfl⟩,z⟩
  · refine⟨its.toList,r,⟨o,n,I.kIn a o hk,hc,hd,by simpa using hs⟩,?_⟩
    have e:=r.length
    simp only [Array.length_toList] at e
    omega
theorem Inv.tuple (I:Inv X pins σ H s) (h:SqT X.K H a xs):∃ its:List Value,Vals xs its/\IsTup s.heap a its.toArray/\xs.length<=sizeLine:=by
  rcases h with h | ⟨o,its,n,hk,hc,hs,hz,r⟩
  · obtain ⟨z,its,r,p⟩:=h.ok I.hok
    exact⟨its,r,p,z⟩
  · refine⟨its.toList,r,⟨o,I.kIn a o hk,hc,n,by simpa using hs⟩,?_⟩
    have e:=r.length
    simp only [Array.length_toList] at e
    omega
theorem Inv.list_inj (I:Inv X pins σ H s) (h:SqL X.K H a xs) (h':SqL X.K H a ys):xs=ys:=by
  obtain ⟨its,r,⟨o,n,e,_,_,d⟩,_⟩:=I.list h
  obtain ⟨its',r',⟨o',n',e',_,_,d'⟩,_⟩:=I.list h'
  rw [e] at e';cases e'
  rw [d] at d'
  injection d' with d1 _
  have:its=its':=by simpa using congrArg Array.toList d1
  subst this
  exact r.inj r'
theorem Inv.tuple_inj (I:Inv X pins σ H s) (h:SqT X.K H a xs) (h':SqT X.K H a ys):xs=ys:=by
  obtain ⟨its,r,⟨o,e,_,n,d⟩,_⟩:=I.tuple h
  obtain ⟨its',r',⟨o',e',_,n',d'⟩,_⟩:=I.tuple h'
  rw [e] at e';cases e'
  rw [d] at d'
  injection d' with d1 _
  have:its=its':=by simpa using congrArg Array.toList d1
  subst this
  exact r.inj r'
end
abbrev Cx.wish (X:Cx) (E:Value->Shared->Prop):Cx:={ X with xe:=E }
abbrev Cx.nox (X:Cx):Cx:=X.wish fun _ _=>False
theorem Cx.Ok.wish {X:Cx} (ok:X.Ok) (E:Value->Shared->Prop):(X.wish E).Ok:=
  ⟨ok.mod,ok.kind,ok.glob,ok.blt,ok.above,ok.inj,ok.has,ok.cab,ok.hd,ok.frames,ok.stk,ok.exf,ok.bs,ok.bsz,ok.noex,ok.exfs,ok.funs,ok.frf⟩
theorem Cx.Ok.unwish {X:Cx}{E:Value->Shared->Prop} (ok:(X.wish E).Ok):X.Ok:=
  ⟨ok.mod,ok.kind,ok.glob,ok.blt,ok.above,ok.inj,ok.has,ok.cab,ok.hd,ok.frames,ok.stk,ok.exf,ok.bs,ok.bsz,ok.noex,ok.exfs,ok.funs,ok.frf⟩
section
variable {X:Cx}{pins:List (Addr × Obj)}{σ:St}{H:Hp}{s:Shared}{E:Value->Shared->Prop}
theorem Inv.wish (I:Inv X pins σ H s) (E:Value->Shared->Prop):Inv (X.wish E) pins σ H s:=⟨I.ok.wish E,I.os,I.bare,I.base,I.loc,I.cell,I.free,I.freeC,I.pin,I.hok,I.len⟩
theorem Inv.unwish (I:Inv (X.wish E) pins σ H s):Inv X pins σ H s:=⟨I.ok.unwish,I.os,I.bare,I.base,I.loc,I.cell,I.free,I.freeC,I.pin,I.hok,I.len⟩
theorem SP.unwish {D:Ends}{f:Flow}{s':Shared} (h:SP (X.wish E) pins D f s'):SP X pins D f s':=by
  cases f with
  | next=>obtain ⟨σ',H',I,q⟩:=h;exact⟨σ',H',I.unwish,q⟩
  | brk=>obtain ⟨σ',H',I,q⟩:=h;exact⟨σ',H',I.unwish,q⟩
  | cont=>obtain ⟨σ',H',I,q⟩:=h;exact⟨σ',H',I.unwish,q⟩
  | ret u=>obtain ⟨v,σ',H',I,r,q⟩:=h;exact⟨v,σ',H',I.unwish,r,q⟩
theorem PSs.nox {st:List Stmt}{t:TS} (h:PSs X.nox st t):PSs X st t:=fun pins s σ H D I hw=>
  wpAny_mono (h pins s σ H D (I.wish _) hw) (fun _ _ q=>q.unwish) fun _ _ z=>False.elim z
end
section
variable {X:Cx}{st:Stmt}{rest:List Stmt}{t u:TS}{e:Expr}{te:TE}{pos:Pos}
def tNext:TS:=fun D σ H=>D.nx σ H
def tSeq (t u:TS):TS:=fun D σ H=>t { D with nx:=u D } σ H
theorem pss_nil:PSs X [] tNext:=fun _ _ σ H _ I h=>wpAny_execs_nil ⟨σ,H,I,h⟩
theorem pss_cons (h1:PS X st t) (h2:PSs X rest u):PSs X (st::rest) (tSeq t u):=by
  intro pins s σ H D I h
  refine wpAny_execs_cons (thn (h1 pins s σ H { D with nx:=u D } I h) fun f s1 q=>?_)
  cases f with
  | next=>
    obtain ⟨σ',H',I',q⟩:=q
    exact h2 pins s1 σ' H' D I' q
  | ret v=>exact q
  | brk=>exact q
  | cont=>exact q
theorem pss_one (h1:PS X st t):PSs X [st] t:=by
  intro pins s σ H D I h
  refine wpAny_execs_cons (thn (h1 pins s σ H D I h) fun f s1 q=>?_)
  cases f with
  | next=>exact wpAny_execs_nil q
  | ret v=>exact q
  | brk=>exact q
  | cont=>exact q
theorem Inv.quiet {pins:List (Addr × Obj)}{σ:St}{H:Hp}{s:Shared} (I:Inv X pins σ H s):interactive X.env=false:=by simp [interactive,I.ok.kind]
def tDrop (te:TE):TS:=fun D σ H=>te σ H fun _ H1=>D.nx σ H1
theorem ps_expr (he:PE X e te) (hs:swapsWith e none pos.line X.env=pure false:=by rfl):PS X (.Expr e pos) (tDrop te):=by
  intro pins s σ H D I h
  exact wpAny_Expr_any (thn (he pins s σ H _ I h) fun v s1 ⟨x,H1,I1,r1,q1⟩=>⟨σ,H1,I1,q1⟩) I.quiet hs
def tRet (te:TE):TS:=fun D σ H=>te σ H D.rt
theorem ps_ret (he:PE X e te):PS X (.Return (some e) pos) (tRet te):=by
  intro pins s σ H D I h
  exact wpAny_Return_some (thn (he pins s σ H _ I h) fun v s1 ⟨x,H1,I1,r1,q1⟩=>⟨x,σ,H1,I1,r1,q1⟩)
def tIfS (c:TT) (t u:TS):TS:=fun D σ H=>c σ H fun b H1=>if b=true then t D σ H1 else u D σ H1
theorem ps_if {c:Expr}{a b:List Stmt}{tc:TT} (hc:PT X c tc) (ha:PSs X a t) (hb:PSs X b u):PS X (.If c a b pos) (tIfS tc t u):=by
  intro pins s σ H D I h
  refine wpAny_If (thn (hc pins s σ H _ I h) fun d s1 ⟨H1,I1,q1⟩=>?_)
  cases d with
  | true=>exact ha pins s1 σ H1 D I1 q1
  | false=>exact hb pins s1 σ H1 D I1 q1
end
abbrev TG:=V->St->Hp->(St->Hp->Prop)->Prop
abbrev TGs:=List V->St->Hp->(St->Hp->Prop)->Prop
def PG (X:Cx) (target:Expr) (t:TG):Prop:=
  ∀ (pins:List (Addr × Obj)) (s:Shared) (σ:St) (H:Hp) (v:V) (u:Value) (Q:St->Hp->Prop),Inv X pins σ H s->RelV v u->t v σ H Q ->
    wpAny (model X.prog X.w) X.A (assign target X.env u) (fun _ s'=>∃ σ' H',Inv X pins σ' H' s'/\Q σ' H') X.xe s
def PGs (X:Cx) (ts:List Expr) (t:TGs):Prop:=
  ∀ (pins:List (Addr × Obj)) (s:Shared) (σ:St) (H:Hp) (vs:List V) (us:List Value) (Q:St->Hp->Prop),Inv X pins σ H s->Vals vs us->t vs σ H Q ->
    wpAny (model X.prog X.w) X.A (assignInOrder ((assignEach ts X.env).map (·.2)) us) (fun _ s'=>∃ σ' H',Inv X pins σ' H' s'/\Q σ' H') X.xe s
section
variable {X:Cx}{pos:Pos}
def gName (i:Nat):TG:=fun v σ H Q=>Q (σ.set i (some v)) H
theorem pg_name {i:Nat}{x:Str} (hN:X.N.Nodup) (hi:X.N[i]?=some x) (hx:Loc X.env.scope x) (hf:X.fn x=true \/ X.env.scope.names.lookup x=some .local:=by first | exact .inl rfl | exact .inr rfl | assumption):PG X (.Name x pos) (gName i):=by
  intro pins s σ H v u Q I r h
  exact wpAny_assign_Name (store_ok I hN hi hx r (fun s' I'=>⟨_,H,I',h⟩) hf)
def gNil:TGs:=fun vs σ H Q=>vs=[]/\Q σ H
def gCons (t:TG) (u:TGs):TGs:=fun vs σ H Q=>∃ v r,vs=v::r/\t v σ H fun σ' H'=>u r σ' H' Q
theorem pgs_nil:PGs X [] gNil:=by
  intro pins s σ H vs us Q I r h
  obtain ⟨e,h⟩:=h
  subst e
  cases r
  exact assignInOrder_nil ⟨σ,H,I,h⟩
theorem pgs_cons {e:Expr}{es:List Expr}{t:TG}{u:TGs} (h1:PG X e t) (h2:PGs X es u)
    (hs:(assignEach (e::es) X.env).map (·.2)=assign e X.env::(assignEach es X.env).map (·.2):=by rfl):PGs X (e::es) (gCons t u):=by
  intro pins s σ H vs us Q I r h
  obtain ⟨v,vr,e1,h⟩:=h
  subst e1
  cases r with
  | cons r rr=>
    rw [hs]
    refine assignInOrder_cons (thn (h1 pins s σ H _ _ _ I r h) fun _ s1 ⟨σ1,H1,I1,q1⟩=>?_)
    exact h2 pins s1 σ1 H1 _ _ Q I1 rr q1
def gTup (K:PySem.W.Frag) (n:Nat) (t:TGs):TG:=fun v σ H Q=>∃ a xs,v=.ref a/\SqT K H a xs/\xs.length=n/\t xs σ H Q
theorem pg_tup {es:List Expr}{k:Nat}{t:TGs}{n:Nat} (hc:X.calm=true) (h:PGs X es t)
    (hn:(assignEach es X.env).length=n:=by rfl) (hst:(assignEach es X.env).findIdx? (·.1)=none:=by rfl):PG X (.Tuple es k pos) (gTup X.K n t):=by
  intro pins s σ H v u Q I r hw
  obtain ⟨a,xs,e1,hq,hl,hw⟩:=hw
  subst e1
  cases r
  obtain ⟨its,rv,ht,hz⟩:=I.tuple hq
  refine assign_Tuple_tuple (I.ok.hd hc) ht (by simp [hn,<- hl,rv.length]) hst fun h' hx=>?_
  have I1:Inv X pins σ H { s with heap:=h' }:=I.kept (t':=s.toks) fun b o e=>hx b o (Nat.ne_of_lt (Heap.lt_size e)) e
  exact h pins _ σ H xs _ Q I1 (by simpa using rv) hw
def tAsg (te:TE) (g:TG):TS:=fun D σ H=>te σ H fun x H1=>g x σ H1 D.nx
theorem ps_set {i:Nat}{x:Str}{e:Expr}{te:TE}{pos':Pos} (hN:X.N.Nodup) (hi:X.N[i]?=some x) (hx:Loc X.env.scope x) (he:PE X e te) (hs:swapsWith e (some (.Name x pos')) pos.line X.env=pure false:=by rfl) (hf:X.fn x=true \/ X.env.scope.names.lookup x=some .local:=by first | exact .inl rfl | exact .inr rfl | assumption) :
    PS X (.Assign [.Name x pos'] e pos) (tAsg te (gName i)):=by
  intro pins s σ H D I h
  refine wpAny_Assign_Name (thn (he pins s σ H _ I h) fun v s1 ⟨y,H1,I1,r1,q1⟩=>?_) hs
  exact store_ok I1 hN hi hx r1 (fun s2 I2=>⟨_,H1,I2,q1⟩) hf
end
section
variable {X:Cx}{pos:Pos}
def tWhile (c:TT) (tb:TS):TS:=fun D σ H=>∃ W:Nat->St->Hp->Prop,(∃ m,W m σ H)/\∀ m σ H,W m σ H ->
  c σ H fun b H1=>if b=true then ∃ N:St->Hp->Prop,(∀ σ' H',N σ' H'->∃ m',m'<m/\W m' σ' H')/\tb { D with nx:=N,ct:=N,bk:=D.nx } σ H1 else D.nx σ H1
theorem ps_while {c:Expr}{body:List Stmt}{tc:TT}{tb:TS} (hp:PassesOwn (model X.prog X.w) X.A X.env X.xe) (hc:PT X c tc) (hb:PSs X body tb):PS X (.While c body [] pos) (tWhile tc tb):=by
  intro pins s σ H D I h
  obtain ⟨W,⟨m0,w0⟩,turn⟩:=h
  refine wpAny_While (codeAny_whileLoop (fun n s'=>∃ σ' H',Inv X pins σ' H' s'/\W n σ' H') ?_ m0 ⟨σ,H,I,w0⟩)
  rintro n s1 ⟨σ1,H1,I1,w1⟩
  refine wpAny_passesOwn hp (thn (hc pins s1 σ1 H1 _ I1 (turn n σ1 H1 w1)) fun b s2 ⟨H2,I2,q2⟩=>?_)
  cases b with
  | true=>
    obtain ⟨N,hN,q2⟩:=q2
    rw [if_pos rfl]
    refine wpAny_passesOwn hp (thn (hb pins s2 σ1 H2 _ I2 q2) fun f s3 q3=>?_)
    cases f with
    | next=>
      obtain ⟨σ3,H3,I3,n3⟩:=q3
      obtain ⟨m',hm,w3⟩:=hN σ3 H3 n3
      exact⟨m',hm,σ3,H3,I3,w3⟩
    | cont=>
      obtain ⟨σ3,H3,I3,n3⟩:=q3
      obtain ⟨m',hm,w3⟩:=hN σ3 H3 n3
      exact⟨m',hm,σ3,H3,I3,w3⟩
    | brk=>exact q3
    | ret v=>exact q3
  | false=>
    rw [if_neg Bool.false_ne_true]
    exact wpAny_execs_nil ⟨σ1,H2,I2,q2⟩
end
structure It where
  go:Nat->Hp->Prop
  yld:Nat->Hp->V->Hp->Prop
  stop:Nat->Hp->Prop
def FpOk (X:Cx) (pins:List (Addr × Obj)) (H:Hp) (b:Addr):Prop:=
  H b=none/\b≠X.env.locals/\b ∉ X.fs/\(b∈X.ex \/ X.s_0.heap.objs.size<=b)/\(∀ x c,X.env.cells.lookup x=some c->c≠b)/\∀ p∈X.pn++pins,p.1≠b
theorem Inv.fpOk {X:Cx}{pins:List (Addr × Obj)}{σ:St}{H H':Hp}{s:Shared}{b:Addr} (I:Inv X pins σ H s) (hb:s.heap.objs.size<=b) (hn:H' b=none):FpOk X pins H' b:=by
  refine⟨hn,Nat.ne_of_gt (Nat.lt_of_lt_of_le I.lt hb),I.nofs hb,.inr (Nat.le_trans I.sz hb),fun x c e z=>?_,fun p hp z=>?_⟩
  · obtain ⟨v,q⟩:=I.cell x c e
    exact absurd (Nat.lt_of_lt_of_le q.lt (by rw [z];exact hb)) (Nat.lt_irrefl _)
  · exact absurd (Nat.lt_of_lt_of_le (Heap.lt_size (I.pin p hp).1) (by rw [z];exact hb)) (Nat.lt_irrefl _)
structure Turn (P:Program) (w:World) (K:PySem.W.Frag) (tg:Expr) (J:It) (fp:List Addr) (it:Addr) (tn:Nat->Heap->Prop):Prop where
  mem:it∈fp
  obj:∀ i h,tn i h->∀ b∈fp,∃ o,h.get? b=some o/\∀ v,o.data≠.cell v
  keep:∀ i h h',tn i h->(∀ b∈fp,∀ o,h.get? b=some o->h'.get? b=some o)->tn i h'
  item:∀ (X:Cx),X.prog=P->X.w=w->X.K=K->X.calm=true->∀ (i:Nat) (pins:List (Addr × Obj)) (s:Shared) (σ:St) (H:Hp) (E:Value->Shared->Prop),Inv X pins σ H s->(∀ b∈fp,FpOk X pins H b)->tn i s.heap->J.go i H ->
    wpAny (model P w) X.A (pyNext (.ref it)) (fun r s1=>∃ u,r=some u /\
      wpAny (model P w) X.A (letOwnedTupleGo tg (.ref it) u) (fun _ s2=>∃ x H',Inv X pins σ H' s2/\RelV x u/\J.yld i H x H'/\tn (i+1) s2.heap/\∀ b∈fp,H' b=none) E s1) E s
  done:∀ (X:Cx),X.prog=P->X.w=w->X.K=K->X.calm=true->∀ (i:Nat) (pins:List (Addr × Obj)) (s:Shared) (σ:St) (H:Hp) (E:Value->Shared->Prop),Inv X pins σ H s->(∀ b∈fp,FpOk X pins H b)->tn i s.heap->J.stop i H ->
    wpAny (model P w) X.A (pyNext (.ref it)) (fun r s1=>r=none/\Inv X pins σ H s1) E s
  self:∀ (A:Around) (i:Nat) (s:Shared) (Q:Value->Shared->Prop) (E:Value->Shared->Prop),tn i s.heap->Q (.ref it) s->wpAny (model P w) A (pyIter (.ref it)) Q E s
abbrev TI:=St->Hp->(It->Hp->Prop)->Prop
def PIE (X:Cx) (pins:List (Addr × Obj)) (σ:St) (tg:Expr) (R:It->Hp->Prop) (itv:Value) (s2:Shared):Prop:=
  ∃ (it:Addr) (fp:List Addr) (tn:Nat->Heap->Prop) (J:It) (H':Hp),itv=.ref it/\Inv X pins σ H' s2/\Turn X.prog X.w X.K tg J fp it tn/\tn 0 s2.heap/\(∀ b∈fp,FpOk X pins H' b)/\R J H'
def PI (X:Cx) (tg iter:Expr) (wi:TI):Prop:=
  ∀ (pins:List (Addr × Obj)) (s:Shared) (σ:St) (H:Hp) (R:It->Hp->Prop),Inv X pins σ H s->wi σ H R ->
    wpAny (model X.prog X.w) X.A (eval iter X.env) (fun v s1=>wpAny (model X.prog X.w) X.A (pyIter v) (PIE X pins σ tg R) X.xe s1) X.xe s
theorem go_of {M:Model}{A:Around}{E:Value->Shared->Prop}{s:Shared}{tg:Expr}{it:Addr}{u:Value}{o:Obj}{n:String}{vs:Array Value}{Q:Unit->Shared->Prop} (ho:s.heap.get? it=some o) (hc:o.cls=.type n) (hd:o.data=.fields vs)
    (hn:["enumerate","zip","dict_itemiterator","dict_reverseitemiterator","odict_iterator","itertools.zip_longest","itertools.pairwise"].contains n=false) (hQ:Q () s):wpAny M A (letOwnedTupleGo tg (.ref it) u) Q E s:=by
  unfold letOwnedTupleGo
  cases tg <;> first
    | exact wpAny_pure hQ
    | (cases u <;> first
        | exact wpAny_pure hQ
        | (refine wpAny_bind (wpAny_load ho ?_)
           rw [hc,hd]
           show wpAny M A (if (["enumerate","zip","dict_itemiterator","dict_reverseitemiterator","odict_iterator","itertools.zip_longest","itertools.pairwise"].contains n&&vs[0]?==some (rawInt _))=true then _ else _) Q E s
           rw [if_neg (by intro h;rw [hn,Bool.false_and] at h;cases h)]
           exact wpAny_pure hQ))
def Itl (K:PySem.W.Frag) (a:Addr):It:=
  ⟨fun i H=>∃ xs x,SqL K H a xs/\xs[i]?=some x,fun i H x H'=>H'=H/\∀ xs,SqL K H a xs->xs[i]?=some x,fun i H=>∃ xs,SqL K H a xs/\xs.length<=i⟩
def Itt (K:PySem.W.Frag) (a:Addr):It:=
  ⟨fun i H=>∃ xs x,SqT K H a xs/\xs[i]?=some x,fun i H x H'=>H'=H/\∀ xs,SqT K H a xs->xs[i]?=some x,fun i H=>∃ xs,SqT K H a xs/\xs.length<=i⟩
def Itr (lo:Int) (n:Nat):It:=⟨fun i _=>i<n,fun i H x H'=>H'=H/\x=.int (lo+i),fun i _=>n<=i⟩
theorem turn_list {P:Program}{w:World}{K:PySem.W.Frag}{tg:Expr} (a it:Addr):Turn P w K tg (Itl K a) [it] it (fun i h=>h.IsListIter it a i) where
  mem:=by simp
  obj:=fun i h st b hb=>by
    have e:b=it:=by simpa using hb
    subst e
    obtain ⟨o,e,c,d⟩:=st
    exact⟨o,e,fun v z=>by rw [d] at z;cases z⟩
  keep:=fun i h h' st k=>st.at fun o e=>k it (by simp) o e
  item:=by
    intro X hP hw hK hc i pins s σ H E I hf st hg
    subst hP hw hK
    obtain ⟨xs,x,hq,hx⟩:=hg
    obtain ⟨its,rv,p,hz⟩:=I.list hq
    obtain ⟨u,hu,ru⟩:=rv.get hx
    obtain ⟨f0,f1,f2,f3,f4,f5⟩:=hf it (by simp)
    refine wpAny_pyNext_list_item st p.isList (x:=u) (by simpa using hu) fun h' st' sb=>?_
    have I1:Inv X pins σ H { s with heap:=h' }:=I.turned (t':=s.toks) (fun b o hb e=>(sb.2 b hb).trans e) f0 f1 f3 f4 f5
    obtain ⟨o,e,c,d⟩:=id st'
    exact⟨u,rfl,go_of (s:={ s with heap:=h' }) e c d (by decide) ⟨x,H,I1,ru,⟨rfl,fun ys hy=>by rw [I.list_inj hy hq];exact hx⟩,st',fun b hb=>(hf b hb).1⟩⟩
  done:=by
    intro X hP hw hK hc i pins s σ H E I hf st hg
    subst hP hw hK
    obtain ⟨xs,hq,hx⟩:=hg
    obtain ⟨its,rv,p,hz⟩:=I.list hq
    obtain ⟨f0,f1,f2,f3,f4,f5⟩:=hf it (by simp)
    have hl:=rv.length
    exact wpAny_pyNext_list_end (I.ok.hd hc) st p.isList (by simp;omega) fun h' eb=>⟨rfl,I.turned (t':=s.toks) (fun b o hb e=>eb b o hb e) f0 f1 f3 f4 f5⟩
  self:=fun _ _ _ _ _ st h=>wpAny_pyIter_listiter st h
theorem turn_tuple {P:Program}{w:World}{K:PySem.W.Frag}{tg:Expr} (a it:Addr):Turn P w K tg (Itt K a) [it] it (fun i h=>h.IsTupleIter it a i) where
  mem:=by simp
  obj:=fun i h st b hb=>by
    have e:b=it:=by simpa using hb
    subst e
    obtain ⟨o,e,c,d⟩:=st
    exact⟨o,e,fun v z=>by rw [d] at z;cases z⟩
  keep:=fun i h h' st k=>st.at fun o e=>k it (by simp) o e
  item:=by
    intro X hP hw hK hc i pins s σ H E I hf st hg
    subst hP hw hK
    obtain ⟨xs,x,hq,hx⟩:=hg
    obtain ⟨its,rv,p,hz⟩:=I.tuple hq
    obtain ⟨u,hu,ru⟩:=rv.get hx
    obtain ⟨f0,f1,f2,f3,f4,f5⟩:=hf it (by simp)
    refine wpAny_pyNext_tuple_item st (show s.heap.IsTuple a its.toArray from p) (x:=u) (by simpa using hu) fun h' st' sb=>?_
    have I1:Inv X pins σ H { s with heap:=h' }:=I.turned (t':=s.toks) (fun b o hb e=>(sb.2 b hb).trans e) f0 f1 f3 f4 f5
    obtain ⟨o,e,c,d⟩:=id st'
    exact⟨u,rfl,go_of (s:={ s with heap:=h' }) e c d (by decide) ⟨x,H,I1,ru,⟨rfl,fun ys hy=>by rw [I.tuple_inj hy hq];exact hx⟩,st',fun b hb=>(hf b hb).1⟩⟩
  done:=by
    intro X hP hw hK hc i pins s σ H E I hf st hg
    subst hP hw hK
    obtain ⟨xs,hq,hx⟩:=hg
    obtain ⟨its,rv,p,hz⟩:=I.tuple hq
    obtain ⟨f0,f1,f2,f3,f4,f5⟩:=hf it (by simp)
    have hl:=rv.length
    exact wpAny_pyNext_tuple_end (I.ok.hd hc) st (show s.heap.IsTuple a its.toArray from p) (by simp;omega) fun h' eb=>⟨rfl,I.turned (t':=s.toks) (fun b o hb e=>eb b o hb e) f0 f1 f3 f4 f5⟩
  self:=fun _ _ _ _ _ st h=>wpAny_pyIter_tupleiter st h
theorem turn_range {P:Program}{w:World}{K:PySem.W.Frag}{tg:Expr} (it:Addr) (lo:Int) (n:Nat):Turn P w K tg (Itr lo n) [it] it (fun i h=>IsRangeIter h it (lo+(i:Nat)*1) ((n:Int) - (i:Nat)) 1) where
  mem:=by simp
  obj:=fun i h st b hb=>by
    have e:b=it:=by simpa using hb
    subst e
    exact⟨_,st,fun v z=>by
      have z':Data.fields _=Data.cell v:=z
      cases z'⟩
  keep:=fun i h h' st k=>k it (by simp) _ st
  item:=by
    intro X hP hw hK hc i pins s σ H E I hf st hg
    subst hP hw hK
    obtain ⟨f0,f1,f2,f3,f4,f5⟩:=hf it (by simp)
    have W:=Walks.range (prog:=X.prog) (w:=X.w) (I.ok.hd hc) it lo 1 n
    refine W.item i s _ _ hg st fun v h' tk hv st' kk=>?_
    obtain ⟨t,rfl⟩:=hv
    have I1:Inv X pins σ H { s with heap:=h',toks:=tk }:=I.turned (fun b o hb e=>kk b o (by simpa using hb) e) f0 f1 f3 f4 f5
    refine⟨_,rfl,go_of (s:={ s with heap:=h',toks:=tk }) (n:="range_iterator") st' rfl rfl (by decide) ⟨.int (lo+i),H,I1,⟨t,?_⟩,⟨rfl,rfl⟩,st',fun b hb=>(hf b hb).1⟩⟩
    rw [Int.mul_one]
  done:=by
    intro X hP hw hK hc i pins s σ H E I hf st hg
    subst hP hw hK
    obtain ⟨f0,f1,f2,f3,f4,f5⟩:=hf it (by simp)
    exact wpAny_pyNext_range_end (I.ok.hd hc) st (by have:n<=i:=hg;omega) fun h' eb=>⟨rfl,I.turned (t':=s.toks) (fun b o hb e=>eb b o hb e) f0 f1 f3 f4 f5⟩
  self:=fun _ _ _ _ _ st h=>wpAny_pyIter_rangeiter st h
end L2
namespace L2
open PySem PySem.Spec PyProof.Rows
section
variable {X:Cx}{tg:Expr}
def iList (K:PySem.W.Frag) (tl:TE):TI:=fun σ H R=>tl σ H fun x H1=>∃ a,x=.ref a/\(∃ xs,SqL K H1 a xs)/\R (Itl K a) H1
def iTup (K:PySem.W.Frag) (tl:TE):TI:=fun σ H R=>tl σ H fun x H1=>∃ a,x=.ref a/\(∃ xs,SqT K H1 a xs)/\R (Itt K a) H1
theorem pi_list {l:Expr}{tl:TE} (hl:PE X l tl):PI X tg l (iList X.K tl):=by
  intro pins s σ H R I h
  refine thn (hl pins s σ H _ I h) fun v s1 ⟨x,H1,I1,r1,q1⟩=>?_
  obtain ⟨a,e,⟨xs,hq⟩,q⟩:=q1
  subst e
  cases r1
  obtain ⟨its,rv,p,hz⟩:=I1.list hq
  refine wpAny_pyIter_list p.isList ?_
  refine⟨s1.heap.objs.size,[s1.heap.objs.size],_,_,H1,rfl,I1.kept (t':=s1.toks) fun b o e=>Heap.get?_push_of_some _ e,turn_list a _,⟨_,Heap.get?_push_size _ rfl,rfl,rfl⟩,fun b hb=>?_,q⟩
  have e:b=s1.heap.objs.size:=by simpa using hb
  subst e
  exact I1.fpOk (Nat.le_refl _) (I1.hok.fresh (Nat.le_refl _))
theorem pi_tup {l:Expr}{tl:TE} (hl:PE X l tl):PI X tg l (iTup X.K tl):=by
  intro pins s σ H R I h
  refine thn (hl pins s σ H _ I h) fun v s1 ⟨x,H1,I1,r1,q1⟩=>?_
  obtain ⟨a,e,⟨xs,hq⟩,q⟩:=q1
  subst e
  cases r1
  obtain ⟨its,rv,p,hz⟩:=I1.tuple hq
  refine wpAny_pyIter_tuple (show s1.heap.IsTuple a its.toArray from p) ?_
  refine⟨s1.heap.objs.size,[s1.heap.objs.size],_,_,H1,rfl,I1.kept (t':=s1.toks) fun b o e=>Heap.get?_push_of_some _ e,turn_tuple a _,⟨_,Heap.get?_push_size _ rfl,rfl,rfl⟩,fun b hb=>?_,q⟩
  have e:b=s1.heap.objs.size:=by simpa using hb
  subst e
  exact I1.fpOk (Nat.le_refl _) (I1.hok.fresh (Nat.le_refl _))
theorem range_it {pins:List (Addr × Obj)}{σ:St}{H:Hp}{s:Shared}{R:It->Hp->Prop}{E:Value->Shared->Prop}{lo hi:Int}{t u v:Tok}{tk:Nat} (I:Inv X pins σ H s) (h1:-(2 ^ 62)<=lo) (h2:lo<2 ^ 62) (h3:-(2 ^ 62)<=hi) (h4:hi<2 ^ 62)
    (q:R (Itr lo (hi - lo).toNat) H):wpAny (model X.prog X.w) X.A (pyIter (.ref s.heap.objs.size)) (PIE X pins σ tg R) E { s with heap:=s.heap.push { cls:=.type "range",data:=.fields #[.int lo t,.int hi u,.int 1 v] },toks:=tk }:=by
  refine wpAny_pyIter_range (IsRange.new ..) (small_one h1 h2 h3 h4) ?_
  have I1:Inv X pins σ H { s with heap:=s.heap.push { cls:=.type "range",data:=.fields #[.int lo t,.int hi u,.int 1 v] },toks:=tk }:=I.kept fun b o e=>Heap.get?_push_of_some _ e
  refine⟨(s.heap.push { cls:=.type "range",data:=.fields #[.int lo t,.int hi u,.int 1 v] }).objs.size,[(s.heap.push { cls:=.type "range",data:=.fields #[.int lo t,.int hi u,.int 1 v] }).objs.size],_,_,H,rfl,
    I1.kept (t':=tk) fun b o e=>Heap.get?_push_of_some _ e,turn_range _ lo (hi - lo).toNat,?_,fun b hb=>?_,q⟩
  · have e1:lo+((0:Nat):Int)*1=lo:=by simp
    have e2:(((hi - lo).toNat:Nat):Int) - ((0:Nat):Int)=Builtin.Range.rangeSize lo hi 1:=by rw [rangeSize_one];split <;> omega
    show IsRangeIter _ _ (lo+((0:Nat):Int)*1) ((((hi - lo).toNat:Nat):Int) - ((0:Nat):Int)) 1
    rw [e1,e2]
    exact Heap.get?_push_size _ rfl
  · have e:b=(s.heap.push { cls:=.type "range",data:=.fields #[.int lo t,.int hi u,.int 1 v] }).objs.size:=by simpa using hb
    subst e
    exact I1.fpOk (Nat.le_refl _) (I1.hok.fresh (Nat.le_refl _))
def iRng1 (ta:TA):TI:=fun σ H R=>ta σ H fun vs H1=>∃ j:Int,vs=[.int j]/\-(2 ^ 62)<=j/\j<2 ^ 62/\R (Itr 0 j.toNat) H1
theorem pi_range1 {a:Expr}{ta:TA}{p pos:Pos} (hg:Gl X "range") (hm:X.mg "range"=none) (ha:PA X [a] ta) (hs:starEach [a] X.env=[(false,eval a X.env)]:=by rfl):PI X tg (.Call (.Name "range" p) [a] [] pos) (iRng1 ta):=by
  intro pins s σ H R I h
  refine Call_ (ld_blt I hg hm boot_range (PyProof.Rows.callWith_type1 (thn (ha pos pins s σ H _ I h) fun us s1 ⟨vs,H1,I1,r1,q1⟩=>?_) hs rfl))
  obtain ⟨j,e,q1,q2,q⟩:=q1
  subst e
  cases r1 with
  | cons r rr=>
    cases rr
    obtain ⟨t,rfl⟩:=r
    exact call_range_1 (range_it I1 (by omega) (by omega) q1 q2 (by simpa using q))
def tFor (wi:TI) (g:TG) (tb:TS):TS:=fun D σ H=>wi σ H fun J H1=>∃ W:Nat->Nat->St->Hp->Prop,(∃ m,W 0 m σ H1)/\∀ i m σ H,W i m σ H ->
  (J.stop i H/\D.nx σ H) \/ (J.go i H/\∃ N:St->Hp->Prop,(∀ σ' H',N σ' H'->∃ m',m'<m/\W (i+1) m' σ' H')/\∀ x H',J.yld i H x H'->g x σ H' fun σ2 H2=>tb { D with nx:=N,ct:=N,bk:=D.nx } σ2 H2)
def pinsAt (fp:List Addr) (h:Heap):List (Addr × Obj):=fp.filterMap fun b=>(h.get? b).map fun o=>(b,o)
theorem mem_pinsAt {fp:List Addr}{h:Heap}{b:Addr}{o:Obj} (hb:b∈fp) (e:h.get? b=some o):(b,o)∈pinsAt fp h:=List.mem_filterMap.mpr ⟨b,hb,by rw [e];rfl⟩
theorem of_pinsAt {fp:List Addr}{h:Heap}{p:Addr × Obj} (hp:p∈pinsAt fp h):p.1∈fp/\h.get? p.1=some p.2:=by
  obtain ⟨b,hb,e⟩:=List.mem_filterMap.mp hp
  cases q:h.get? b with
  | none=>rw [q] at e;cases e
  | some o=>
    rw [q] at e
    have e':(b,o)=p:=Option.some.inj e
    subst e'
    exact⟨hb,q⟩
theorem Inv.pinned {pins:List (Addr × Obj)}{σ:St}{H:Hp}{s:Shared}{fp:List Addr} (I:Inv X pins σ H s) (hf:∀ b∈fp,FpOk X pins H b) (ho:∀ b∈fp,∃ o,s.heap.get? b=some o/\∀ v,o.data≠.cell v):Inv X (pins++pinsAt fp s.heap) σ H s:=
  I.pins_of fun p hp=>(List.mem_append.mp hp).elim (fun z=>I.pin p (List.mem_append_right _ z)) fun z=>by
    obtain ⟨hb,e⟩:=of_pinsAt z
    obtain ⟨f0,f1,f2,_⟩:=hf p.1 hb
    obtain ⟨o,e',d⟩:=ho p.1 hb
    rw [e] at e';cases e'
    exact⟨e,f0,f1,f2,d⟩
theorem Inv.unpinned {pins pl:List (Addr × Obj)}{σ:St}{H:Hp}{s:Shared} (I:Inv X (pins++pl) σ H s):Inv X pins σ H s:=I.pins_of fun p hp=>I.pin p (List.mem_append_right _ (List.mem_append_left _ hp))
theorem ps_for {iter:Expr}{body:List Stmt}{wi:TI}{g:TG}{tb:TS}{pos:Pos} (hp:PassesOwn (model X.prog X.w) X.A X.env X.xe) (hc:X.calm=true) (hi:PI X tg iter wi) (hg:PG X tg g) (hb:PSs X body tb)
    (hs:∀ x,foldedSetIterable iter X.env x=pure x:=by intro _;rfl):PS X (.For tg iter body [] pos) (tFor wi g tb):=by
  intro pins s σ H D I h
  refine wpAny_For (thn (hi pins s σ H _ I h) fun v s1 h1=>thn h1 fun itv s2 h2=>?_) hs
  obtain ⟨it,fp,tn,J,H2,e,I2,T,st2,f2,W,⟨m0,w0⟩,turn⟩:=h2
  subst e
  have stat:∀ {H':Hp},(∀ b∈fp,H' b=none)->∀ b∈fp,FpOk X pins H' b:=fun hn b hb=>⟨hn b hb,(f2 b hb).2⟩
  refine codeAny_forLoop_any (fun n s'=>∃ i σ' H',Inv X pins σ' H' s'/\tn i s'.heap/\(∀ b∈fp,H' b=none)/\W i n σ' H') ?_ m0 ⟨0,σ,H2,I2,st2,fun b hb=>(f2 b hb).1,w0⟩
  rintro n s3 ⟨i,σ3,H3,I3,st3,fr3,w3⟩
  rcases turn i n σ3 H3 w3 with ⟨stop,qn⟩ | ⟨go,N,hN,step⟩
  · refine wpAny_passesOwn hp (thn (T.done X rfl rfl rfl hc i pins s3 σ3 H3 X.xe I3 (stat fr3) st3 stop) fun r s4 ⟨hr,I4⟩=>?_)
    subst hr
    exact wpAny_execs_nil ⟨σ3,H3,I4,qn⟩
  · refine wpAny_passesOwn hp (thn (T.item X rfl rfl rfl hc i pins s3 σ3 H3 X.xe I3 (stat fr3) st3 go) fun r s4 ⟨u,hr,h4⟩=>?_)
    subst hr
    refine wpAny_passesOwn hp (thn h4 fun _ s5 ⟨x,H5,I5,r5,y5,st5,fr5⟩=>?_)
    have I5':=I5.pinned (stat fr5) (T.obj _ _ st5)
    refine wpAny_passesOwn hp (thn (hg _ s5 σ3 H5 x u _ I5' r5 (step x H5 y5)) fun _ s6 ⟨σ6,H6,I6,q6⟩=>?_)
    refine wpAny_passesOwn hp (thn (hb _ s6 σ6 H6 _ I6 q6) fun f s7 q7=>?_)
    have again:∀ {σ7:St}{H7:Hp},Inv X (pins++pinsAt fp s5.heap) σ7 H7 s7->N σ7 H7->∃ m,m<n/\∃ i σ' H',Inv X pins σ' H' s7/\tn i s7.heap/\(∀ b∈fp,H' b=none)/\W i m σ' H':=fun {σ7 H7} I7 n7=>by
      obtain ⟨m',hm,w7⟩:=hN σ7 H7 n7
      refine⟨m',hm,i+1,σ7,H7,I7.unpinned,T.keep _ _ _ st5 fun b hb o e=>(I7.pin (b,o) (List.mem_append_right _ (List.mem_append_right _ (mem_pinsAt hb e)))).1,fun b hb=>?_,w7⟩
      obtain ⟨o,e,d⟩:=T.obj _ _ st5 b hb
      exact (I7.pin (b,o) (List.mem_append_right _ (List.mem_append_right _ (mem_pinsAt hb e)))).2.1
    cases f with
    | next=>obtain ⟨σ7,H7,I7,n7⟩:=q7;exact again I7 n7
    | cont=>obtain ⟨σ7,H7,I7,n7⟩:=q7;exact again I7 n7
    | brk=>obtain ⟨σ7,H7,I7,q7⟩:=q7;exact⟨σ7,H7,I7.unpinned,q7⟩
    | ret v=>obtain ⟨x7,σ7,H7,I7,r7,q7⟩:=q7;exact⟨x7,σ7,H7,I7.unpinned,r7,q7⟩
end
theorem for_list {K:PySem.W.Frag}{a:Addr}{xs:List V}{g:TG}{tb:TS}{D:Ends}{σ:St}{H:Hp} (Pv:Nat->St->Hp->Prop) (h0:Pv 0 σ H) (hl:∀ i σ H,i<=xs.length->Pv i σ H->SqL K H a xs)
    (hs:∀ i x σ H,xs[i]?=some x->Pv i σ H->g x σ H fun σ2 H2=>tb { D with nx:=Pv (i+1),ct:=Pv (i+1),bk:=D.nx } σ2 H2) (hd:∀ σ H,Pv xs.length σ H->D.nx σ H) :
    ∃ W:Nat->Nat->St->Hp->Prop,(∃ m,W 0 m σ H)/\∀ i m σ H,W i m σ H ->
      ((Itl K a).stop i H/\D.nx σ H) \/ ((Itl K a).go i H/\∃ N:St->Hp->Prop,(∀ σ' H',N σ' H'->∃ m',m'<m/\W (i+1) m' σ' H')/\∀ x H',(Itl K a).yld i H x H'->g x σ H' fun σ2 H2=>tb { D with nx:=N,ct:=N,bk:=D.nx } σ2 H2):=by
  refine⟨fun i m σ H=>m=xs.length - i/\i<=xs.length/\Pv i σ H,⟨xs.length,by simp,Nat.zero_le _,h0⟩,?_⟩
  rintro i m σ H ⟨rfl,hi,p⟩
  have q:=hl i σ H hi p
  by_cases hlt:i<xs.length
  · refine .inr ⟨⟨xs,xs[i],q,by simp [hlt]⟩,Pv (i+1),fun σ' H' p'=>⟨xs.length - (i+1),by omega,rfl,hlt,p'⟩,fun x H' y=>?_⟩
    obtain ⟨e,y⟩:=y
    subst e
    exact hs i x σ _ (y xs q) p
  · have e:i=xs.length:=by omega
    subst e
    exact .inl ⟨⟨xs,q,Nat.le_refl _⟩,hd σ H p⟩
theorem for_range {lo:Int}{n:Nat}{g:TG}{tb:TS}{D:Ends}{σ:St}{H:Hp} (Pv:Nat->St->Hp->Prop) (h0:Pv 0 σ H)
    (hs:∀ i σ H,i<n->Pv i σ H->g (.int (lo+i)) σ H fun σ2 H2=>tb { D with nx:=Pv (i+1),ct:=Pv (i+1),bk:=D.nx } σ2 H2) (hd:∀ σ H,Pv n σ H->D.nx σ H) :
    ∃ W:Nat->Nat->St->Hp->Prop,(∃ m,W 0 m σ H)/\∀ i m σ H,W i m σ H ->
      ((Itr lo n).stop i H/\D.nx σ H) \/ ((Itr lo n).go i H/\∃ N:St->Hp->Prop,(∀ σ' H',N σ' H'->∃ m',m'<m/\W (i+1) m' σ' H')/\∀ x H',(Itr lo n).yld i H x H'->g x σ H' fun σ2 H2=>tb { D with nx:=N,ct:=N,bk:=D.nx } σ2 H2):=by
  refine⟨fun i m σ H=>m=n - i/\i<=n/\Pv i σ H,⟨n,by simp,Nat.zero_le _,h0⟩,?_⟩
  rintro i m σ H ⟨rfl,hi,p⟩
  by_cases hlt:i<n
  · refine .inr ⟨hlt,Pv (i+1),fun σ' H' p'=>⟨n - (i+1),by omega,rfl,hlt,p'⟩,fun x H' y=>?_⟩
    obtain ⟨e,y⟩:=y
    subst e y
    exact hs i σ _ hlt p
  · have e:i=n:=by omega
    subst e
    exact .inl ⟨Nat.le_refl _,hd σ H p⟩
theorem while_by {c:TT}{tb:TS}{D:Ends}{σ:St}{H:Hp} (Pv:St->Hp->Prop) (μ:St->Hp->Nat) (h0:Pv σ H)
    (hs:∀ σ H,Pv σ H->c σ H fun b H1=>if b=true then tb { D with nx:=fun σ' H'=>Pv σ' H'/\μ σ' H'<μ σ H,ct:=fun σ' H'=>Pv σ' H'/\μ σ' H'<μ σ H,bk:=D.nx } σ H1 else D.nx σ H1)
    (mono:∀ σ H Q Q',(∀ b H1,Q b H1->Q' b H1)->c σ H Q->c σ H Q'):tWhile c tb D σ H:=by
  refine⟨fun m σ H=>m=μ σ H/\Pv σ H,⟨_,rfl,h0⟩,?_⟩
  rintro m σ H ⟨rfl,p⟩
  refine mono σ H _ _ (fun b H1 q=>?_) (hs σ H p)
  cases b with
  | true=>exact⟨_,fun σ' H' ⟨p',l⟩=>⟨_,l,rfl,p'⟩,q⟩
  | false=>exact q
end L2
namespace L2
open PySem PySem.Spec PyProof.Rows
abbrev R2:=V->V->Hp->VK->Prop
def OpR (X:Cx) (f:Value->Value->Sem Value) (r:R2):Prop:=
  ∀ (pins:List (Addr × Obj)) (s:Shared) (σ:St) (H:Hp) (x y:V) (v u:Value) (Q:VK),Inv X pins σ H s->RelV x v->RelV y u->r x y H Q ->
    wpAny (model X.prog X.w) X.A (f v u) (EP X pins σ Q) X.xe s
def CallR (X:Cx) (f:Value) (r:List V->Hp->VK->Prop):Prop:=
  ∀ (pins:List (Addr × Obj)) (s:Shared) (σ:St) (H:Hp) (xs:List V) (us:List Value) (Q:VK),Inv X pins σ H s->Vals xs us->r xs H Q ->
    wpAny (model X.prog X.w) X.A (call f us) (EP X pins σ Q) X.xe s
def tOp (r:R2) (ta tb:TE):TE:=fun σ H Q=>ta σ H fun x H1=>tb σ H1 fun y H2=>r x y H2 Q
def rI (C:Int->Int->Prop) (g:Int->Int->V):R2:=fun x y H Q=>∃ i j,x=.int i/\y=.int j/\C i j/\Q (g i j) H
def rI0 (g:Int->Int->V):R2:=fun x y H Q=>∃ i j,x=.int i/\y=.int j/\Q (g i j) H
section
variable {X:Cx}{a b c:Expr}{ta tb tc:TE}{pos:Pos}
theorem binT (ha:PE X a ta) (hb:PE X b tb) {pins:List (Addr × Obj)}{s:Shared}{σ:St}{H:Hp}{R:V->V->Hp->Prop} (I:Inv X pins σ H s)
    (h:ta σ H fun x H1=>tb σ H1 fun y H2=>R x y H2) {Q:Value->Shared->Prop}{f:Value->Value->Sem Value}
    (hf:∀ v u s2 x y H2,Inv X pins σ H2 s2->RelV x v->RelV y u->R x y H2->wpAny (model X.prog X.w) X.A (f v u) Q X.xe s2) :
    wpAny (model X.prog X.w) X.A (eval a X.env) (fun v s₁=>wpAny (model X.prog X.w) X.A (eval b X.env) (fun u s₂=>wpAny (model X.prog X.w) X.A (f v u) Q X.xe s₂) X.xe s₁) X.xe s:=by
  refine thn (ha pins s σ H _ I h) fun v s1 ⟨x,H1,I1,r1,q1⟩=>?_
  refine thn (hb pins s1 σ H1 _ I1 q1) fun u s2 ⟨y,H2,I2,r2,q2⟩=>?_
  exact hf v u s2 x y H2 I2 r1 r2 q2
theorem pe_op {op:Operator}{r:R2} (ho:OpR X (binaryOp op) r) (ha:PE X a ta) (hb:PE X b tb):PE X (.BinOp a op b pos) (tOp r ta tb):=by
  intro pins s σ H Q I h
  exact wpAny_BinOp (binT ha hb I h fun v u s2 x y H2 I2 rx ry q=>ho pins s2 σ H2 x y v u Q I2 rx ry q)
theorem opI {f:Value->Value->Sem Value}{C:Int->Int->Prop}{g:Int->Int->Int}
    (rule:∀ (i j:Int) (t u:Tok) (s:Shared) (Q:Value->Shared->Prop) (E:Value->Shared->Prop),C i j->Q (.int (g i j) s.toks) { s with toks:=s.toks+1 }->wpAny (model X.prog X.w) X.A (f (.int i t) (.int j u)) Q E s) :
    OpR X f (rI C fun i j=>.int (g i j)):=by
  intro pins s σ H x y v u Q I rx ry h
  obtain ⟨i,j,rfl,rfl,hc,q⟩:=h
  obtain ⟨t,rfl⟩:=rx
  obtain ⟨t',rfl⟩:=ry
  exact rule i j t t' s _ _ hc ⟨.int (g i j),H,I.tok _,⟨_,rfl⟩,q⟩
theorem opI0 {f:Value->Value->Sem Value}{g:Int->Int->Int}
    (rule:∀ (i j:Int) (t u:Tok) (s:Shared) (Q:Value->Shared->Prop) (E:Value->Shared->Prop),Q (.int (g i j) s.toks) { s with toks:=s.toks+1 }->wpAny (model X.prog X.w) X.A (f (.int i t) (.int j u)) Q E s) :
    OpR X f (rI0 fun i j=>.int (g i j)):=by
  intro pins s σ H x y v u Q I rx ry h
  obtain ⟨i,j,rfl,rfl,q⟩:=h
  obtain ⟨t,rfl⟩:=rx
  obtain ⟨t',rfl⟩:=ry
  exact rule i j t t' s _ _ ⟨.int (g i j),H,I.tok _,⟨_,rfl⟩,q⟩
theorem opB0 {f:Value->Value->Sem Value}{g:Int->Int->Bool}
    (rule:∀ (i j:Int) (t u:Tok) (s:Shared) (Q:Value->Shared->Prop) (E:Value->Shared->Prop),Q (.bool (g i j)) s->wpAny (model X.prog X.w) X.A (f (.int i t) (.int j u)) Q E s) :
    OpR X f (rI0 fun i j=>.bl (g i j)):=by
  intro pins s σ H x y v u Q I rx ry h
  obtain ⟨i,j,rfl,rfl,q⟩:=h
  obtain ⟨t,rfl⟩:=rx
  obtain ⟨t',rfl⟩:=ry
  exact rule i j t t' s _ _ ⟨.bl (g i j),H,I,rfl,q⟩
def CDiv (i j:Int):Prop:=0<j/\j<1073741824
def CMul (i j:Int):Prop:=(-(2 ^ 64)<i/\i<2 ^ 64) \/ (-(2 ^ 64)<j/\j<2 ^ 64)
theorem CMul.ok {i j:Int} (h:CMul i j):IntMulOk i j:=by
  rcases h with ⟨h1,h2⟩ | ⟨h1,h2⟩
  · exact .of_left (intBits_le_64 h1 h2)
  · exact .of_right (intBits_le_64 h1 h2)
theorem op_add:OpR X (binaryOp .Add) (rI0 fun i j=>.int (i+j)):=opI0 fun _ _ _ _ _ _ _ q=>add_int q
theorem op_sub:OpR X (binaryOp .Sub) (rI0 fun i j=>.int (i - j)):=opI0 fun _ _ _ _ _ _ _ q=>sub_int q
theorem op_mul:OpR X (binaryOp .Mult) (rI CMul fun i j=>.int (i*j)):=opI fun _ _ _ _ _ _ _ hc q=>mul_int q hc.ok
theorem op_fdiv:OpR X (binaryOp .FloorDiv) (rI CDiv fun i j=>.int (i / j)):=opI fun i j _ _ _ _ _ hc q=>by
  have h1:(0:Int)<j:=hc.1
  have h2:j<1073741824:=hc.2
  exact floordiv_int (by omega) (by rw [Int.fdiv_eq_ediv_of_nonneg i (by omega)];exact q) (.inl (PyProof.noPylong_small (by omega)))
theorem op_mod:OpR X (binaryOp .Mod) (rI (fun _ j=>0<j) fun i j=>.int (i % j)):=opI fun i j _ _ _ _ _ hc q=>by
  have h1:(0:Int)<j:=hc
  exact mod_int' (by omega) (by rw [Int.fmod_eq_emod_of_nonneg i (by omega)];exact q)
end
def scal:V->V->Bool
  | .non,.non=>true | .non,.int _=>true | .int _,.non=>true | .non,.bl _=>true | .bl _,.non=>true | .non,.str _=>true | .str _,.non=>true
  | .int _,.int _=>true | .bl _,.bl _=>true | .str _,.str _=>true | .byt _,.byt _=>true
  | .int _,.str _=>true | .str _,.int _=>true | .bl _,.str _=>true | .str _,.bl _=>true
  | _,_=>false
def rEq:R2:=fun x y H Q=>scal x y=true/\Q (.bl (decide (x=y))) H
def rNe:R2:=fun x y H Q=>scal x y=true/\Q (.bl (!decide (x=y))) H
theorem dec_int {i j:Int}:decide (V.int i=V.int j)=(i==j):=by
  rw [Bool.eq_iff_iff]
  simp
theorem dec_bl {i j:Bool}:decide (V.bl i=V.bl j)=(i==j):=by
  rw [Bool.eq_iff_iff]
  simp
theorem dec_str {i j:Str}:decide (V.str i=V.str j)=(i==j):=by
  rw [Bool.eq_iff_iff]
  simp
theorem dec_byt {i j:Array UInt8}:decide (V.byt i=V.byt j)=(i.toList==j.toList):=by
  rw [Bool.eq_iff_iff]
  cases i
  cases j
  simp
section
variable {X:Cx}{a b c:Expr}{ta tb tc:TE}{pos:Pos}
theorem fin_bl {pins:List (Addr × Obj)}{σ:St}{H:Hp}{s:Shared}{Q:VK}{k k':Bool} (I:Inv X pins σ H s) (q:Q (.bl k) H) (e:k=k'):EP X pins σ Q (.bool k') s:=by
  subst e
  exact⟨.bl k,H,I,rfl,q⟩
theorem op_eq:OpR X (compareOp .Eq) rEq:=by
  intro pins s σ H x y v u Q I rx ry h
  obtain ⟨hs,q⟩:=h
  cases x with
  | non=>
    cases rx
    cases y with
    | non=>cases ry;exact PySem.EqNone.eq_none_none (fin_bl I q (by simp))
    | bl j=>cases ry;exact PySem.EqNone.eq_none_bool (fin_bl I q (by simp))
    | int j=>obtain ⟨t',rfl⟩:=ry;exact PySem.EqNone.eq_none_int (fin_bl I q (by simp))
    | str j=>obtain ⟨t',rfl⟩:=ry;exact PySem.EqNone.eq_none_str (fin_bl I q (by simp))
    | _=>exact absurd (show false=true from hs) Bool.false_ne_true
  | bl i=>
    cases rx
    cases y with
    | non=>cases ry;exact PySem.EqNone.eq_bool_none (fin_bl I q (by simp))
    | bl j=>cases ry;exact eq_bool (fin_bl I q dec_bl)
    | str j=>obtain ⟨t',rfl⟩:=ry;exact PySem.EqMixed.eq_bool_str (fin_bl I q (by simp))
    | _=>exact absurd (show false=true from hs) Bool.false_ne_true
  | int i=>
    obtain ⟨t,rfl⟩:=rx
    cases y with
    | non=>cases ry;exact PySem.EqNone.eq_int_none (fin_bl I q (by simp))
    | int j=>obtain ⟨t',rfl⟩:=ry;exact eq_int (fin_bl I q dec_int)
    | str j=>obtain ⟨t',rfl⟩:=ry;exact PySem.EqMixed.eq_int_str (fin_bl I q (by simp))
    | _=>exact absurd (show false=true from hs) Bool.false_ne_true
  | str i=>
    obtain ⟨t,rfl⟩:=rx
    cases y with
    | non=>cases ry;exact PySem.EqNone.eq_str_none (fin_bl I q (by simp))
    | bl j=>cases ry;exact PySem.EqMixed.eq_str_bool (fin_bl I q (by simp))
    | int j=>obtain ⟨t',rfl⟩:=ry;exact PySem.EqMixed.eq_str_int (fin_bl I q (by simp))
    | str j=>obtain ⟨t',rfl⟩:=ry;exact eq_str (fin_bl I q dec_str)
    | _=>exact absurd (show false=true from hs) Bool.false_ne_true
  | byt i=>
    obtain ⟨t,rfl⟩:=rx
    cases y with
    | byt j=>obtain ⟨t',rfl⟩:=ry;exact PySem.W.eq_bytes (fin_bl I q dec_byt)
    | _=>exact absurd (show false=true from hs) Bool.false_ne_true
  | _=>cases y <;> exact absurd (show false=true from hs) Bool.false_ne_true
theorem op_ne:OpR X (compareOp .NotEq) rNe:=by
  intro pins s σ H x y v u Q I rx ry h
  obtain ⟨hs,q⟩:=h
  cases x with
  | non=>
    cases rx
    cases y with
    | non=>cases ry;exact PySem.EqNone.ne_none_none (fin_bl I q (by simp))
    | bl j=>cases ry;exact PySem.EqNone.ne_none_bool (fin_bl I q (by simp))
    | int j=>obtain ⟨t',rfl⟩:=ry;exact PySem.EqNone.ne_none_int (fin_bl I q (by simp))
    | str j=>obtain ⟨t',rfl⟩:=ry;exact PySem.EqNone.ne_none_str (fin_bl I q (by simp))
    | _=>exact absurd (show false=true from hs) Bool.false_ne_true
  | bl i=>
    cases rx
    cases y with
    | non=>cases ry;exact PySem.EqNone.ne_bool_none (fin_bl I q (by simp))
    | bl j=>cases ry;exact ne_bool (fin_bl I q (congrArg not dec_bl))
    | str j=>obtain ⟨t',rfl⟩:=ry;exact PySem.EqMixed.ne_bool_str (fin_bl I q (by simp))
    | _=>exact absurd (show false=true from hs) Bool.false_ne_true
  | int i=>
    obtain ⟨t,rfl⟩:=rx
    cases y with
    | non=>cases ry;exact PySem.EqNone.ne_int_none (fin_bl I q (by simp))
    | int j=>obtain ⟨t',rfl⟩:=ry;exact ne_int (fin_bl I q (congrArg not dec_int))
    | str j=>obtain ⟨t',rfl⟩:=ry;exact PySem.EqMixed.ne_int_str (fin_bl I q (by simp))
    | _=>exact absurd (show false=true from hs) Bool.false_ne_true
  | str i=>
    obtain ⟨t,rfl⟩:=rx
    cases y with
    | non=>cases ry;exact PySem.EqNone.ne_str_none (fin_bl I q (by simp))
    | bl j=>cases ry;exact PySem.EqMixed.ne_str_bool (fin_bl I q (by simp))
    | int j=>obtain ⟨t',rfl⟩:=ry;exact PySem.EqMixed.ne_str_int (fin_bl I q (by simp))
    | str j=>obtain ⟨t',rfl⟩:=ry;exact ne_str (fin_bl I q (congrArg not dec_str))
    | _=>exact absurd (show false=true from hs) Bool.false_ne_true
  | byt i=>
    obtain ⟨t,rfl⟩:=rx
    cases y with
    | byt j=>obtain ⟨t',rfl⟩:=ry;exact PySem.W.ne_bytes (fin_bl I q (congrArg not dec_byt))
    | _=>exact absurd (show false=true from hs) Bool.false_ne_true
  | _=>cases y <;> exact absurd (show false=true from hs) Bool.false_ne_true
theorem op_lt:OpR X (compareOp .Lt) (rI0 fun i j=>.bl (decide (i<j))):=opB0 fun _ _ _ _ _ _ _ q=>lt_int q
theorem op_le:OpR X (compareOp .LtE) (rI0 fun i j=>.bl (decide (i<=j))):=opB0 fun _ _ _ _ _ _ _ q=>le_int q
theorem op_gt:OpR X (compareOp .Gt) (rI0 fun i j=>.bl (decide (j<i))):=opB0 fun _ _ _ _ _ _ _ q=>gt_int q
theorem op_ge:OpR X (compareOp .GtE) (rI0 fun i j=>.bl (decide (j<=i))):=opB0 fun _ _ _ _ _ _ _ q=>ge_int q
theorem op_isN:OpR X (compareOp .Is) (fun x y H Q=>y=.non/\Q (.bl (decide (x=.non))) H):=by
  intro pins s σ H x y v u Q I rx ry h
  obtain ⟨rfl,q⟩:=h
  cases ry
  refine is_none_gen (fin_bl I q ?_)
  cases x <;> first
    | (cases rx;rfl)
    | (obtain ⟨t,rfl⟩:=rx;rfl)
theorem op_notN:OpR X (compareOp .IsNot) (fun x y H Q=>y=.non/\Q (.bl (!decide (x=.non))) H):=by
  intro pins s σ H x y v u Q I rx ry h
  obtain ⟨rfl,q⟩:=h
  cases ry
  refine isnot_none_gen (fin_bl I q ?_)
  cases x <;> first
    | (cases rx;rfl)
    | (obtain ⟨t,rfl⟩:=rx;rfl)
theorem nomark (b:Expr) {op:CmpOp} (h:op≠.In:=by decide) (h2:op≠.NotIn:=by decide):behindInMarks op b=false:=by
  have e1:(op==CmpOp.In)=false:=by cases op <;> first | rfl | exact absurd rfl h
  have e2:(op==CmpOp.NotIn)=false:=by cases op <;> first | rfl | exact absurd rfl h2
  cases b <;> simp [behindInMarks,e1,e2]
theorem pe_cmpR {op:CmpOp}{r:R2} (ho:OpR X (compareOp op) r) (ha:PE X a ta) (hb:PE X b tb) (hm:behindInMarks op b=false):PE X (.Compare a [op] [b] pos) (tOp r ta tb):=by
  intro pins s σ H Q I h
  exact wpAny_Compare1 (binT ha hb I h fun v u s2 x y H2 I2 rx ry q=>ho pins s2 σ H2 x y v u Q I2 rx ry q) hm
def tTest (t:TE):TT:=fun σ H Q=>t σ H fun x H'=>∃ k,x=.bl k/\Q k H'
theorem pt_cmpR {op:CmpOp}{r:R2} (ho:OpR X (compareOp op) r) (ha:PE X a ta) (hb:PE X b tb) (hm:behindInMarks op b=false):PT X (.Compare a [op] [b] pos) (tTest (tOp r ta tb)):=by
  intro pins s σ H Q I h
  refine wpAny_isTrue_Compare1 (thn (ha pins s σ H _ I h) fun v s1 ⟨x,H1,I1,r1,q1⟩=>thn (hb pins s1 σ H1 _ I1 q1) fun u s2 ⟨y,H2,I2,r2,q2⟩=>
    thn (ho pins s2 σ H2 x y v u _ I2 r1 r2 q2) fun c s3 ⟨z,H3,I3,r3,k,e,q3⟩=>?_) hm
  subst e
  cases r3
  exact wpAny_truthy_bool ⟨H3,I3,q3⟩
theorem line63:(sizeLine:Nat)<2 ^ 63:=by rw [sizeLine_eq];decide
theorem vals1 {x:V}{us:List Value} (r:Vals [x] us):∃ u,us=[u]/\RelV x u:=by
  cases r with
  | cons r1 r2=>cases r2;exact⟨_,rfl,r1⟩
theorem vals2 {x y:V}{us:List Value} (r:Vals [x,y] us):∃ u w',us=[u,w']/\RelV x u/\RelV y w':=by
  cases r with
  | cons r1 r2=>
    cases r2 with
    | cons r3 r4=>cases r4;exact⟨_,_,rfl,r1,r3⟩
theorem call_abs:CallR X (.builtin "abs") (fun xs H Q=>∃ i,xs=[.int i]/\Q (.int (if i<0 then -i else i)) H):=by
  intro pins s σ H xs us Q I r h
  obtain ⟨i,rfl,q⟩:=h
  obtain ⟨u,rfl,t,rfl⟩:=vals1 r
  exact call_abs_int fun u tk=>⟨.int (if i<0 then -i else i),H,I.tok _,⟨_,rfl⟩,q⟩
end
end L2
namespace L2
open PySem PySem.Spec PyProof.Rows
structure ObjM (h:Heap) (x dx C:Addr) (mA:Str->Option Value):Prop where
  obj:h.get? x=some (PySem.W.instObj C dx)
  ns:h.Ns1 dx mA
  ne:dx≠x
theorem lookIn_ns {h:Heap}{dx:Addr}{mA:Str->Option Value} (n:h.Ns1 dx mA):∃ od,h.get? dx=some od/\∀ name,PySem.W.lookIn name od=some (mA name):=by
  obtain ⟨o,es,ep,ho,hd,hk,_,hm⟩:=n
  refine⟨o,ho,fun name=>?_⟩
  have e:=hm name
  unfold nsFind findBy at e
  rw [<- Array.find?_toList] at e
  unfold PySem.W.lookIn
  rw [hd]
  dsimp only
  split
  · rename_i y q
    rw [q] at e
    exact congrArg some e
  · rename_i q
    rw [q] at e
    have a:es.toList.any (·.refKey)=false:=by
      rw [List.any_eq_false]
      intro y hy
      obtain ⟨z,t,hkey⟩:=hk y (Array.mem_toList_iff.mp hy)
      simp [DictEntry.refKey,hkey]
    have a':¬ es.toList.any (·.refKey)=true:=by rw [a];exact Bool.false_ne_true
    rw [if_neg a']
    exact congrArg some e
theorem ObjM.look {h:Heap}{x dx C:Addr}{mA:Str->Option Value} (I:ObjM h x dx C mA):∃ od,PySem.W.InstAt h x (PySem.W.instObj C dx) C (some od)/\∀ name,PySem.W.lookIn name od=some (mA name):=
  let ⟨od,ho,hl⟩:=lookIn_ns I.ns
  ⟨od,⟨I.obj,rfl,rfl,ho⟩,hl⟩
section
variable {prog:Program}{w:World}{A:Around}{E:Value->Shared->Prop}{s:Shared}{K:PySem.W.Frag}{x dx C f:Addr}{mA:Str->Option Value}{name:Str}{v:Value}
theorem get_map {expr:Bool}{Q:Value->Shared->Prop} (X:K.In s.heap) (I:ObjM s.heap x dx C mA) (hg:PySem.W.plainGet K C name=true) (hh:PySem.W.hasDictIn K C=true)
    (ha:PySem.W.findIn K (.ref C) name=some none) (hv:mA name=some v) (hv':PySem.W.handedIn v=true) (h:Q v { s with toks:=s.toks+1 }) :
    wpAny (model prog w) A (getAttr (.ref x) name expr) Q E s:=by
  obtain ⟨od,J,hl⟩:=I.look
  exact PySem.W.get_value X J (PySem.W.plainGet_of hg).1 (PySem.W.findObj_own hh ha rfl (by rw [hl,hv])) hv' h
theorem set_map {ns:List Str}{Q:Unit->Shared->Prop} (X:K.In s.heap) (I:ObjM s.heap x dx C mA)
    (hs:PySem.W.findIn K (.ref C) "__setattr__"=some (some (.builtin "object.__setattr__"))) (hp:PySem.W.plainOver K C=true) (ht:PySem.W.takerIn K C name=some none) (hh:PySem.W.hasDictIn K C=true)
    (hw:PySem.Within mA ns) (hsz:ns.length<=sizeLine)
    (h:∀ h',ObjM h' x dx C (fun y=>if y=name then some v else mA y)->Heap.SameBut dx s.heap h'->Q () { s with heap:=h',toks:=s.toks+2 }) :
    wpAny (model prog w) A (setAttr (.ref x) name v) Q E s:=by
  obtain ⟨od,J,hl⟩:=I.look
  refine PySem.W.set_plain X J hs (PySem.W.osa_open (s:={ s with toks:=s.toks+1 }) (r:=none) X J hp ht fun b=>?_)
  obtain ⟨cd,hc,hd'⟩:=PySem.W.any_some hh
  have hx:s.heap.get? x=some ⟨.ref C,some dx,.plain,#[]⟩:=I.obj
  refine wpAny_bind (wpAny_pure (wpAny_bind (wpAny_bind (wpAny_loadPart hx (wpAny_bind (PySem.W.Looks.here (s:={ s with toks:=s.toks+1 }) (PySem.W.looks_clsIn X hc) ?_))))))
  rw [hd']
  refine wpAny_pure (a:=some dx) (wpAny_bind (wpAny_pure (wpAny_bind ?_)))
  refine wpAny_nsSet1 (s:={ s with toks:=s.toks+1 }) I.ns fun h' hn2 hs2=>?_
  obtain ⟨oD,esD,epD,hoD,hdD,hcD⟩:=hn2.count (PySem.Within.cons name v hw)
  refine wpAny_bind (wpAny_lookBehind hoD (by rw [hdD];exact pastItsLine_dict (Nat.le_trans hcD (by rw [List.length_cons];omega))) ?_)
  exact wpAny_pure (h _ ⟨(hs2.2 _ (Ne.symm I.ne)).trans I.obj,hn2,I.ne⟩ hs2)
theorem make_map {R:Result->Shared->Prop}{vs:List Value}{kw:List (Str × Value)} (X:K.In s.heap) (hm:PySem.W.makesIn K C=true)
    (hi:PySem.W.findIn K (.ref C) "__init__"=some (some (.ref f))) (hf:PySem.W.typeIn K (.ref f)=some (.type "function"))
    (h:codeAny (model prog w) (A.under (.builtin "type.__call__" ⟨.ref C::vs,kw⟩)) (.call (.ref f) ⟨.ref (s.heap.objs.size+1)::vs,kw⟩) (PySem.W.InitBack (s.heap.objs.size+1) R)
      { s with heap:=(s.heap.push PySem.W.emptyDict).push (PySem.W.instObj C s.heap.objs.size) }) :
    codeAny (model prog w) A (.call (.ref C) ⟨vs,kw⟩) R s:=by
  obtain ⟨hh,g,d,t,os⟩:=s
  exact PySem.W.make_core (PySem.W.makes_of X hm) (PySem.W.looks_findIn X hi) (fun self=>PySem.W.bind_fn X self hf) (.inl rfl) h
end
def putF (f:Str) (v:V):List (Str × V)->List (Str × V)
  | []=>[(f,v)]
  | (g,x)::r=>if g=f then (g,v)::r else (g,x)::putF f v r
theorem lookup_putF (f g:Str) (v:V):∀ fs:List (Str × V),(putF f v fs).lookup g=if g=f then some v else fs.lookup g
  | []=>by
    show List.lookup g [(f,v)]=_
    by_cases h:g=f
    · have hb:(g==f)=true:=beq_iff_eq.mpr h
      simp only [List.lookup,hb,if_pos h]
    · have hb:(g==f)=false:=beq_eq_false_iff_ne.mpr h
      simp only [List.lookup,hb,if_neg h]
  | (k,x)::r=>by
    have ih:=lookup_putF f g v r
    rw [show putF f v ((k,x)::r)=(if k=f then (k,v)::r else (k,x)::putF f v r) from rfl]
    by_cases hk:k=f
    · rw [if_pos hk]
      by_cases h:g=k
      · have hb:(g==k)=true:=beq_iff_eq.mpr h
        simp only [List.lookup,hb,if_pos (h.trans hk)]
      · have hb:(g==k)=false:=beq_eq_false_iff_ne.mpr h
        simp only [List.lookup,hb,if_neg (fun e:g=f=>h (e.trans hk.symm))]
    · rw [if_neg hk]
      by_cases h:g=k
      · have hb:(g==k)=true:=beq_iff_eq.mpr h
        simp only [List.lookup,hb,if_neg (fun e:g=f=>hk (h.symm.trans e))]
      · have hb:(g==k)=false:=beq_eq_false_iff_ne.mpr h
        simp only [List.lookup,hb]
        exact ih
theorem keys_putF (f:Str) (v:V):∀ fs:List (Str × V),f∈(putF f v fs).map (·.1)/\∀ g,g∈fs.map (·.1)->g∈(putF f v fs).map (·.1)
  | []=>⟨by simp [putF],fun g h=>by simp at h⟩
  | (k,x)::r=>by
    obtain ⟨i1,i2⟩:=keys_putF f v r
    rw [show putF f v ((k,x)::r)=(if k=f then (k,v)::r else (k,x)::putF f v r) from rfl]
    by_cases hk:k=f
    · rw [if_pos hk]
      subst hk
      exact⟨by simp,fun g h=>by simpa using h⟩
    · rw [if_neg hk]
      refine⟨?_,fun g h=>?_⟩
      · rw [List.map_cons]
        exact List.mem_cons_of_mem _ i1
      · rw [List.map_cons] at h ⊢
        rcases List.mem_cons.mp h with e | e
        · exact List.mem_cons.mpr (.inl e)
        · exact List.mem_cons_of_mem _ (i2 g e)
theorem length_putF (f:Str) (v:V):∀ fs:List (Str × V),(putF f v fs).length<=fs.length+1
  | []=>by simp [putF]
  | (k,x)::r=>by
    have ih:=length_putF f v r
    rw [show putF f v ((k,x)::r)=(if k=f then (k,v)::r else (k,x)::putF f v r) from rfl]
    by_cases hk:k=f
    · rw [if_pos hk,List.length_cons,List.length_cons];omega
    · rw [if_neg hk,List.length_cons,List.length_cons];omega
theorem RelO.some_of {v:V}{o:Option Value} (r:RelO (some v) o):∃ u,o=some u/\RelV v u:=by
  cases o with
  | none=>exact (show False from r).elim
  | some u=>exact⟨u,rfl,r⟩
theorem handed_of {v:V}{u:Value} (r:RelV v u):PySem.W.handedIn u=true:=by
  cases v with
  | non=>cases (show u=Value.none from r);rfl
  | bl b=>cases (show u=Value.bool b from r);rfl
  | int i=>obtain ⟨t,e⟩:=(show ∃ t,u=Value.int i t from r);cases e;rfl
  | str x=>obtain ⟨t,e⟩:=(show ∃ t,u=Value.str x t from r);cases e;rfl
  | byt b=>obtain ⟨t,e⟩:=(show ∃ t,u=Value.bytes b t from r);cases e;rfl
  | flt b=>obtain ⟨t,e⟩:=(show ∃ t,u=Value.float b t from r);cases e;rfl
  | ref a=>cases (show u=Value.ref a from r);rfl
  | ty n=>cases (show u=Value.type n from r);rfl
section
variable {P:Program}{w:World}{H H':Hp}{h h':Heap}{a C dx:Addr}{fs fs':List (Str × V)}
theorem ins_get (hok:HOk P w H h) (e:H a=some (.ins C dx fs)):∃ mA,ObjM h a dx C mA/\(∀ f,RelO (fs.lookup f) (mA f))/\PySem.Within mA (fs.map (·.1))/\fs.length<=1000/\H dx=some (.own a):=by
  obtain ⟨d,z,ne,ob,mA,n,r,q⟩:=(show ObjOk P w H h a (.ins C dx fs) from hok a _ e)
  exact⟨mA,⟨ob,n,ne⟩,r,q,z,d⟩
end
structure Cls (K:PySem.W.Frag) (C:Addr):Prop where
  pg:PySem.W.plainGet K C Str.empty=true
  hd:PySem.W.hasDictIn K C=true
  po:PySem.W.plainOver K C=true
  sa:PySem.W.findIn K (.ref C) "__setattr__"=some (some (.builtin "object.__setattr__"))
theorem Cls.get {K:PySem.W.Frag}{C:Addr} (c:Cls K C) (f:Str):PySem.W.plainGet K C f=true:=c.pg
def NoAttr (K:PySem.W.Frag) (C:Addr) (f:Str):Prop:=PySem.W.findIn K (.ref C) f=some none
theorem NoAttr.taker {K:PySem.W.Frag}{C:Addr}{f:Str} (n:NoAttr K C f):PySem.W.takerIn K C f=some none:=by
  unfold PySem.W.takerIn
  rw [show PySem.W.findIn K (.ref C) f=some none from n]
  rfl
section
variable {X:Cx}{pins:List (Addr × Obj)}{σ:St}{H:Hp}{s:Shared}{a C dx:Addr}{fs:List (Str × V)}{f:Str}{v:V}{A:Around}{E:Value->Shared->Prop}
theorem getattr_ok {b:Bool}{Q:Value->Shared->Prop} (I:Inv X pins σ H s) (e:H a=some (.ins C dx fs)) (c:Cls X.K C) (n:NoAttr X.K C f) (l:fs.lookup f=some v)
    (h:∀ u s',Inv X pins σ H s'->RelV v u->Q u s'):wpAny (model X.prog X.w) A (getAttr (.ref a) f b) Q E s:=by
  obtain ⟨mA,O,r,_,_,_⟩:=ins_get I.hok e
  obtain ⟨u,hu,ru⟩:=RelO.some_of (v:=v) (o:=mA f) (by rw [<- l];exact r f)
  exact get_map I.kIn O (c.get f) c.hd n hu (handed_of ru) (h u _ (I.tok _) ru)
theorem setattr_ok {y:V}{u:Value}{Q:Unit->Shared->Prop} (I:Inv X pins σ H s) (e:H a=some (.ins C dx fs)) (c:Cls X.K C) (n:NoAttr X.K C f) (hl:fs.length<1000) (ry:RelV y u)
    (h:∀ s',Inv X pins σ (upd H a (.ins C dx (putF f y fs))) s'->Q () s'):wpAny (model X.prog X.w) A (setAttr (.ref a) f u) Q E s:=by
  obtain ⟨mA,O,r,wi,_,ho⟩:=ins_get I.hok e
  have hz:(fs.map (·.1)).length<=sizeLine:=by rw [List.length_map,sizeLine_eq];omega
  refine set_map I.kIn O c.sa c.po n.taker c.hd wi hz fun h' O' sb=>h _ ?_
  have hd:∃ o,h'.get? dx=some o:=let ⟨o,_,_,e',_⟩:=O'.ns;⟨o,e'⟩
  refine I.write (x:=a) (e:=dx) (by rw [e];exact True.intro) (.inr ho) (fun b q hb z=>(sb.2 b hb).trans z) hd ?_
  refine⟨by rw [upd_ne O.ne];exact ho,?_,O.ne,O'.obj,_,O'.ns,fun g=>?_,fun g hg=>?_⟩
  · have:=length_putF f y fs;omega
  · show RelO ((putF f y fs).lookup g) (if g=f then some u else mA g)
    rw [lookup_putF]
    by_cases q:g=f
    · rw [if_pos q,if_pos q];exact ry
    · rw [if_neg q,if_neg q];exact r g
  · by_cases q:g=f
    · rw [q];exact (keys_putF f y fs).1
    · refine (keys_putF f y fs).2 g (wi g fun z=>hg ?_)
      show (if g=f then some u else mA g)=none
      rw [if_neg q];exact z
theorem Inv.made (I:Inv X pins σ H s):Inv X pins σ (upd (upd H s.heap.objs.size (.own (s.heap.objs.size+1))) (s.heap.objs.size+1) (.ins C s.heap.objs.size []))
    { s with heap:=(s.heap.push PySem.W.emptyDict).push (PySem.W.instObj C s.heap.objs.size) }:=by
  have e1:(s.heap.push PySem.W.emptyDict).get? s.heap.objs.size=some PySem.W.emptyDict:=Heap.get?_push_size s.heap rfl
  have e2:((s.heap.push PySem.W.emptyDict).push (PySem.W.instObj C s.heap.objs.size)).get? (s.heap.objs.size+1)=some (PySem.W.instObj C s.heap.objs.size):=by
    have:=Heap.get?_push_size (s.heap.push PySem.W.emptyDict) (o:=PySem.W.instObj C s.heap.objs.size) rfl
    rwa [Heap.size_push] at this
  have e3:(s.heap.push PySem.W.emptyDict).Ns s.heap.objs.size (fun _=>none):=⟨PySem.W.emptyDict,#[],_,e1,rfl,(fun e he=>absurd he (by simp)),fun _=>rfl⟩
  have I1:=I.laid (a:=s.heap.objs.size) (o:=.own (s.heap.objs.size+1)) (h':=s.heap.push PySem.W.emptyDict) (t':=s.toks) (fun b u q=>Heap.get?_push_of_some _ q) (Nat.le_refl _) ⟨_,e1⟩
  refine I1.laid (a:=s.heap.objs.size+1) (o:=.ins C s.heap.objs.size []) (t':=s.toks) (fun b u q=>Heap.get?_push_of_some _ q) (Nat.le_of_eq (Heap.size_push _ _)) ?_
  have ne:s.heap.objs.size≠s.heap.objs.size+1:=Nat.ne_of_lt (Nat.lt_succ_self _)
  refine⟨by rw [upd_ne ne,upd_same],Nat.zero_le _,ne,e2,fun _=>none,(Heap.Ns1.of_empty e3).at fun o q=>Heap.get?_push_of_some _ q,fun _=>True.intro,fun y hy=>absurd rfl hy⟩
theorem attr_of {prog:Program}{w:World}{env:Env}{e:Expr}{f:Str}{pos:Pos}{s:Shared}{Q:Value->Shared->Prop} (hb:attributeBase e f env (eval e env)=eval e env)
    (h:wpAny (model prog w) A (eval e env) (fun o s₁=>wpAny (model prog w) A (getAttr o f true) Q E s₁) E s):wpAny (model prog w) A (eval (.Attribute e f pos) env) Q E s:=
  Attribute_any_ h (by rw [arm_eval_Attribute,hb])
end
def tFld (K:PySem.W.Frag) (ta:TE) (f:Str):TE:=fun σ H Q=>ta σ H fun x H1=>∃ a C dx fs v,x=.ref a/\H1 a=some (.ins C dx fs)/\Cls K C/\NoAttr K C f/\fs.lookup f=some v/\Q v H1
def sFld (K:PySem.W.Frag) (ta tv:TE) (f:Str):TS:=fun D σ H=>tv σ H fun y H1=>ta σ H1 fun x H2=>∃ a C dx fs,x=.ref a/\H2 a=some (.ins C dx fs)/\Cls K C/\NoAttr K C f/\fs.length<1000 /\
  D.nx σ (upd H2 a (.ins C dx (putF f y fs)))
section
variable {X:Cx}{o e value:Expr}{f:Str}{pos pos' tpos:Pos}{ta tv:TE}
theorem pe_fld (he:PE X e ta) (hb:attributeBase e f X.env (eval e X.env)=eval e X.env):PE X (.Attribute e f pos) (tFld X.K ta f):=by
  intro pins s σ H Q I h
  refine attr_of hb (thn (he pins s σ H _ I h) fun u s1 ⟨x,H1,I1,rx,a,C,dx,fs,v,ex,ea,c,n,l,q⟩=>?_)
  subst ex
  obtain rfl:u=Value.ref a:=rx
  exact getattr_ok I1 ea c n l fun u' s2 I2 ru=>⟨v,H1,I2,ru,q⟩
theorem ps_fld (ha:PE X o ta) (hv:PE X value tv) (hs:swapsWith value (some (.Attribute o f pos')) pos.line X.env=pure false):PS X (.Assign [.Attribute o f pos'] value pos) (sFld X.K ta tv f):=by
  intro pins s σ H D I h
  refine plainObj_wpAny_Assign_Attribute (thn (hv pins s σ H _ I h) fun u s1 ⟨y,H1,I1,ry,q⟩=>thn (ha pins s1 σ H1 _ I1 q) fun ov s2 ⟨x,H2,I2,rx,a,C,dx,fs,ex,ea,c,n,l,q2⟩=>?_) hs
  subst ex
  obtain rfl:ov=Value.ref a:=rx
  exact setattr_ok I2 ea c n l ry fun s3 I3=>⟨σ,_,I3,q2⟩
end
end L2
namespace L2
open PySem PySem.Spec PyProof.Rows
structure Room (k:Nat) (A:Around):Prop where
  hd:A.handled=none
  dp:A.depth+3*k+5<recursionLimit
  un:A.units+16*k+200<cLine
theorem Room.mono {j k:Nat}{A:Around} (r:Room k A) (h:j<=k):Room j A:=⟨r.hd,by have:=r.dp;omega,by have:=r.un;omega⟩
theorem Room.deeper {k:Nat}{A:Around} (r:Room (k+1) A) (env:Env):Room k (A.deeper env):=
  ⟨r.hd,by have:=r.dp;show A.depth+1+3*k+5<_;omega,by have:=r.un;show A.units+3+16*k+200<_;omega⟩
theorem make_depth {A:Around}{C:Addr}{us:List Value}{kw:List (Str × Value)}:(A.under (.builtin "type.__call__" ⟨.ref C::us,kw⟩)).depth=A.depth+1:=by
  first | rfl | simp [Around.under,Code.weight,Code.isCreation,Code.isGuard,Code.isCaller,Code.frames,Code.isFrame,guardIds]
theorem make_units {A:Around}{C:Addr}{us:List Value}{kw:List (Str × Value)}:(A.under (.builtin "type.__call__" ⟨.ref C::us,kw⟩)).units=A.units+1:=by
  first | rfl | simp [Around.under,Code.cUnits,Code.frames,Code.isFrame]
theorem Room.make {k:Nat}{A:Around} (r:Room (k+1) A) (C:Addr) (us:List Value) (kw:List (Str × Value)):Room k (A.under (.builtin "type.__call__" ⟨.ref C::us,kw⟩)):=
  ⟨r.hd,by have:=r.dp;rw [make_depth];omega,by have:=r.un;rw [make_units];omega⟩
theorem Room.depth {k:Nat}{A:Around} (r:Room k A):A.depth<recursionLimit:=by have:=r.dp;omega
theorem Room.units {k:Nat}{A:Around} (r:Room k A):A.units+64<cLine:=by have:=r.un;omega
def tNil:TA:=fun _ H Q=>Q [] H
def tCons (ta:TE) (tr:TA):TA:=fun σ H Q=>ta σ H fun x H1=>tr σ H1 fun xs H2=>Q (x::xs) H2
section
variable {X:Cx}{e:Expr}{es:List Expr}{te:TE}{t:TA}{pos:Pos}
theorem pa_nil:PA X [] tNil:=fun _ _ _ _ H Q I h=>Calls.spliced_nil ⟨[],H,I,.nil,h⟩
theorem pa_cons (ha:PE X e te) (hr:PA X es t) (hs:starEach (e::es) X.env=(false,eval e X.env)::starEach es X.env:=by rfl):PA X (e::es) (tCons te t):=by
  intro pos pins s σ H Q I h
  rw [hs]
  show wpAny _ _ (spliced ((false,eval e X.env)::backTo pos (starEach es X.env))) _ _ s
  refine Calls.spliced_cons (thn (ha pins s σ H _ I h) fun u s1 ⟨x,H1,I1,r1,q1⟩=>?_)
  exact thn (hr pos pins s1 σ H1 _ I1 q1) fun us s2 ⟨xs,H2,I2,r2,q2⟩=>⟨x::xs,H2,I2,.cons r1 r2,q2⟩
def tTup (t:TA):TE:=fun σ H Q=>t σ H fun xs H1=>xs.length<=sizeLine/\∀ p,H1 p=none->Q (.ref p) (upd H1 p (.tup xs))
def tLst (t:TA):TE:=fun σ H Q=>t σ H fun xs H1=>xs.length<=sizeLine/\∀ p,H1 p=none->Q (.ref p) (upd H1 p (.lst xs))
theorem pe_tup {x1} (h:PA X es t):PE X (.Tuple es x1 pos) (tTup t):=by
  intro pins s σ H Q I hq
  refine wpAny_Tuple_spliced (thn (h pos pins s σ H _ I hq) fun us s1 ⟨xs,H1,I1,r,z,q⟩=>⟨by rw [<- r.length];exact z,?_⟩)
  have hf:H1 s1.heap.objs.size=none:=I1.hok.fresh (Nat.le_refl _)
  refine⟨.ref s1.heap.objs.size,upd H1 s1.heap.objs.size (.tup xs),I1.laid (t':=s1.toks) (fun b u e=>Heap.get?_push_of_some _ e) (Nat.le_refl _) ?_,rfl,q _ hf⟩
  exact⟨z,us,r,⟨_,Heap.get?_push_size _ rfl,rfl,_,rfl⟩⟩
theorem pe_lst (h:PA X es t):PE X (.List es pos) (tLst t):=by
  intro pins s σ H Q I hq
  refine wpAny_List_spliced (thn (h pos pins s σ H _ I hq) fun us s1 ⟨xs,H1,I1,r,z,q⟩=>⟨by rw [<- r.length];exact z,?_⟩)
  have hf:H1 s1.heap.objs.size=none:=I1.hok.fresh (Nat.le_refl _)
  refine⟨.ref s1.heap.objs.size,upd H1 s1.heap.objs.size (.lst xs),I1.laid (t':=s1.toks) (fun b u e=>Heap.get?_push_of_some _ e) (Nat.le_refl _) ?_,rfl,q _ hf⟩
  exact⟨z,us,0,r,Heap.get?_push_size _ rfl⟩
end
abbrev Sp:=List V->Hp->VK->XK->Prop
abbrev CXT:=List Env->Hp->Shared->XK->Value->Shared->Prop
structure Env0 (P:Program) (w:World) (K:PySem.W.Frag) (mg:Str->Option Value) (base:Heap) (A:Around) (outer:List Env) (s:Shared) (H:Hp):Prop where
  frames:A.frames=some outer
  mod:Mod K mg base
  bs:∀ b o,base.get? b=some o->s.heap.get? b=some o/\H b=none
  bsz:base.objs.size<=s.heap.objs.size
  funs:s.heap.FunFrames base outer
  frf:∀ b∈frs outer,H b=none
  hok:HOk P w H s.heap
  bare:AllBare s.gens
def CE (outer:List Env) (P:Program) (w:World) (H:Hp) (s:Shared) (Q:VK) (u:Value) (s':Shared):Prop:=
  ∃ v H',s'.os=s.os/\AllBare s'.gens/\Un (frs outer) [] H H' s.heap s'.heap/\HOk P w H' s'.heap/\RelV v u/\Q v H'
def CR (CX:CXT) (outer:List Env) (P:Program) (w:World) (H:Hp) (s:Shared) (Q:VK) (E:XK) (r:Result) (s':Shared):Prop:=
  match r with
  | .ok (.ret u)=>CE outer P w H s Q u s'
  | .ok _=>False
  | .error e=>CX outer H s E e s'
structure FnOk (P:Program) (w:World) (K:PySem.W.Frag) (mg:Str->Option Value) (base:Heap) (CX:CXT) (k:Nat) (f:Addr) (fd:FuncData) (ps:List Str) (sp:Sp):Prop where
  len:∀ vs H Q E,sp vs H Q E->vs.length=ps.length
  run:∀ (A:Around) (outer:List Env) (s:Shared) (H:Hp) (args:Args) (us:List Value) (vs:List V) (Q:VK) (E:XK),Room k A->Env0 P w K mg base A outer s H->BindsTo s fd args (ps.zip us)->Vals vs us->sp vs H Q E ->
    codeAny (model P w) A (.call (.ref f) args) (CR CX outer P w H s Q E) s
theorem Env0.make {P:Program}{w:World}{K:PySem.W.Frag}{mg:Str->Option Value}{base:Heap}{A:Around}{outer:List Env}{s:Shared}{H:Hp} (e:Env0 P w K mg base A outer s H) (C:Addr) (us:List Value) (kw:List (Str × Value)) :
    Env0 P w K mg base (A.under (.builtin "type.__call__" ⟨.ref C::us,kw⟩)) outer s H:=⟨by first | exact e.frames | (simpa [Around.under,Code.envs,Code.isFrame,pushEnvs] using e.frames),e.mod,e.bs,e.bsz,e.funs,e.frf,e.hok,e.bare⟩
section
variable {X:Cx}{pins:List (Addr × Obj)}{σ:St}{H:Hp}{s s':Shared}
theorem Inv.env0 (I:Inv X pins σ H s):Env0 X.prog X.w X.K X.mg X.base X.A X.stack s H:=
  ⟨I.ok.frames,I.ok.mod,I.bs,Nat.le_trans I.ok.bsz I.sz,I.stack,I.stkFree,I.hok,I.bare⟩
theorem Inv.after {Q:VK}{u:Value} (I:Inv X pins σ H s) (h:CE X.stack X.prog X.w H s Q u s'):EP X pins σ Q u s':=by
  obtain ⟨v,H',os,bare,un,hok,r,q⟩:=h
  obtain ⟨hh,g,d,t,os'⟩:=s'
  obtain rfl:os'=s.os:=os
  exact⟨v,H',I.call (h':=hh) (g':=g) (d':=d) (t':=t) (ch:=[]) un hok bare (fun b z=>absurd z (by simp)),r,q⟩
end
def tCall (sp:Sp) (dvs:List V) (E:XK) (t:TA):TE:=fun σ H Q=>t σ H fun vs H1=>sp (vs++dvs) H1 Q E
def tMake (C:Addr) (sp:Sp) (dvs:List V) (E:XK) (t:TA):TE:=fun σ H Q=>t σ H fun vs H1=>∀ x dx,H1 x=none->H1 dx=none->dx≠x ->
  sp (.ref x::(vs++dvs)) (upd (upd H1 dx (.own x)) x (.ins C dx [])) (fun v H2=>v=.non/\Q (.ref x) H2) E
def Binds (K:PySem.W.Frag) (fd:FuncData) (ps:List Str) (ds:List Value):Prop:=
  ∀ (s:Shared) (us:List Value),K.In s.heap->(us++ds).length=ps.length->BindsTo s fd ⟨us,[]⟩ (ps.zip (us++ds))
theorem Binds.all {K:PySem.W.Frag}{fd:FuncData}{ps:List Str} (h:∀ us:List Value,us.length=ps.length->bindArgs fd ⟨us,[]⟩=pure (ps.zip us)):Binds K fd ps []:=fun s us _ hl=>by
  rw [List.append_nil] at hl ⊢
  exact .of_eq (h us hl)
def Passes (CX:CXT) (X:Cx) (E:XK):Prop:=∀ (pins:List (Addr × Obj)) (σ:St) (H:Hp) (s:Shared) (e:Value) (s':Shared),Inv X pins σ H s->CX X.stack H s E e s'->X.xe e s'
section
variable {X:Cx}{CX:CXT}{k:Nat}{f C:Addr}{fd:FuncData}{ps:List Str}{sp:Sp}{dvs:List V}{ds:List Value}{E:XK}{x m:Str}{p pos apos:Pos}{e o:Expr}{es:List Expr}{ta:TE}{t:TA}
theorem run_fn {pins:List (Addr × Obj)}{σ:St}{H:Hp}{s:Shared}{Q:VK}{us:List Value}{vs:List V} (F:FnOk X.prog X.w X.K X.mg X.base CX k f fd ps sp) (hr:Room k X.A) (hb:Binds X.K fd ps ds) (hd:Vals dvs ds) (hx:Passes CX X E)
    (I:Inv X pins σ H s) (r:Vals vs us) (h:sp (vs++dvs) H Q E):wpAny (model X.prog X.w) X.A (call (.ref f) us) (EP X pins σ Q) X.xe s:=by
  have r2:Vals (vs++dvs) (us++ds):=r.append hd
  have hl:(us++ds).length=ps.length:=by rw [<- r2.length];exact F.len _ _ _ _ h
  refine wpAny_call (codeAny_mono (F.run X.A X.stack s H ⟨us,[]⟩ (us++ds) (vs++dvs) Q E hr I.env0 (hb s us I.kIn hl) r2 h) fun r s' hq=>?_)
  cases r with
  | error e=>exact hx pins σ H s e s' I hq
  | ok fl=>
    cases fl with
    | ret u=>exact I.after hq
    | next=>exact False.elim hq
    | brk=>exact False.elim hq
    | cont=>exact False.elim hq
theorem pe_call (F:FnOk X.prog X.w X.K X.mg X.base CX k f fd ps sp) (hr:Room k X.A) (hg:Gl X x) (hm:X.mg x=some (.ref f)) (hk:PySem.W.keepIn X.K (.ref f)=true) (hb:Binds X.K fd ps ds) (hd:Vals dvs ds) (hx:Passes CX X E)
    (ha:PA X (e::es) t) (hdb:(x==("__debug__":Str))=false:=by decide) (he:starEach (e::es) X.env=(false,eval e X.env)::starEach es X.env:=by rfl) (hpl:(backTo pos (starEach es X.env)).any (·.1)=false:=by rfl) :
    PE X (.Call (.Name x p) (e::es) [] pos) (tCall sp dvs E t):=by
  intro pins s σ H Q I h
  refine wpAny_Call_Name_kw (ld_glob I hg hm ?_ hdb)
  refine PySem.W.callWith_K (h₀:=X.base) I.ok.mod.kin hk (thn (ha pos pins s σ H _ I h) fun us s1 ⟨vs,H1,I1,r,q⟩=>⟨I1.kIn,?_⟩) he hpl
  exact run_fn F hr hb hd hx I1 r q
structure Mk (K:PySem.W.Frag) (C f:Addr):Prop where
  makes:PySem.W.makesIn K C=true
  init:PySem.W.findIn K (.ref C) "__init__"=some (some (.ref f))
  fn:PySem.W.isFn K (.ref f)=true
  kp:PySem.W.keepIn K (.ref C)=true
theorem run_make {pins:List (Addr × Obj)}{σ:St}{H:Hp}{s:Shared}{Q:VK}{us:List Value}{vs:List V} (M:Mk X.K C f) (F:FnOk X.prog X.w X.K X.mg X.base CX k f fd ps sp) (hr:Room (k+1) X.A) (hb:Binds X.K fd ps ds) (hd:Vals dvs ds)
    (hx:Passes CX X E) (I:Inv X pins σ H s) (r:Vals vs us)
    (h:∀ x dx,H x=none->H dx=none->dx≠x->sp (.ref x::(vs++dvs)) (upd (upd H dx (.own x)) x (.ins C dx [])) (fun v H2=>v=.non/\Q (.ref x) H2) E) :
    wpAny (model X.prog X.w) X.A (call (.ref C) us) (EP X pins σ Q) X.xe s:=by
  have hq:=h (s.heap.objs.size+1) s.heap.objs.size (I.hok.fresh (Nat.le_succ _)) (I.hok.fresh (Nat.le_refl _)) (Nat.ne_of_lt (Nat.lt_succ_self _))
  have I2:=Inv.made (C:=C) I
  have r2:Vals (V.ref (s.heap.objs.size+1)::(vs++dvs)) (Value.ref (s.heap.objs.size+1)::(us++ds)):=.cons rfl (r.append hd)
  have hl:(Value.ref (s.heap.objs.size+1)::us++ds).length=ps.length:=by
    have e:=r2.length
    rw [F.len _ _ _ _ hq] at e
    exact e.symm
  refine wpAny_call (make_map (f:=f) I.kIn M.makes M.init (beq_iff_eq.mp M.fn) (codeAny_mono (F.run _ X.stack _ _ ⟨Value.ref (s.heap.objs.size+1)::us,[]⟩ (Value.ref (s.heap.objs.size+1)::(us++ds)) _ _ E (hr.make C us [])
    (I2.env0.make C us []) (hb _ (Value.ref (s.heap.objs.size+1)::us) I2.kIn hl) r2 hq) fun r s' hq'=>?_))
  cases r with
  | error e=>exact hx pins σ _ _ e s' I2 hq'
  | ok fl=>
    cases fl with
    | ret u=>
      obtain ⟨v,H',I3,rv,ev,q3⟩:=I2.after hq'
      subst ev
      exact⟨rv,⟨V.ref (s.heap.objs.size+1),H',I3,rfl,q3⟩⟩
    | next=>exact False.elim hq'
    | brk=>exact False.elim hq'
    | cont=>exact False.elim hq'
theorem pe_make (M:Mk X.K C f) (F:FnOk X.prog X.w X.K X.mg X.base CX k f fd ps sp) (hr:Room (k+1) X.A) (hg:Gl X x) (hm:X.mg x=some (.ref C)) (hb:Binds X.K fd ps ds) (hd:Vals dvs ds) (hx:Passes CX X E)
    (ha:PA X (e::es) t) (hdb:(x==("__debug__":Str))=false:=by decide) (he:starEach (e::es) X.env=(false,eval e X.env)::starEach es X.env:=by rfl) (hpl:(backTo pos (starEach es X.env)).any (·.1)=false:=by rfl) :
    PE X (.Call (.Name x p) (e::es) [] pos) (tMake C sp dvs E t):=by
  intro pins s σ H Q I h
  refine wpAny_Call_Name_kw (ld_glob I hg hm ?_ hdb)
  refine PySem.W.callWith_K (h₀:=X.base) I.ok.mod.kin M.kp (thn (ha pos pins s σ H _ I h) fun us s1 ⟨vs,H1,I1,r,q⟩=>⟨I1.kIn,?_⟩) he hpl
  exact run_make M F hr hb hd hx I1 r q
theorem pe_make0 (M:Mk X.K C f) (F:FnOk X.prog X.w X.K X.mg X.base CX k f fd ps sp) (hr:Room (k+1) X.A) (hg:Gl X x) (hm:X.mg x=some (.ref C)) (hb:Binds X.K fd ps ds) (hd:Vals dvs ds) (hx:Passes CX X E)
    (hdb:(x==("__debug__":Str))=false:=by decide):PE X (.Call (.Name x p) [] [] pos) (tMake C sp dvs E tNil):=by
  intro pins s σ H Q I h
  refine wpAny_Call_Name_kw (ld_glob I hg hm ?_ hdb)
  exact PySem.W.callWith_K0 I.kIn M.kp (run_make (us:=[]) M F hr hb hd hx I .nil h)
end
structure FnScope (N P:List Str) (sc:Scope):Prop where
  kind:sc.kind=.function
  co:sc.isCoroutine=false
  gen:sc.isGenerator=false
  nd:N.Nodup
  pre:N.take P.length=P
  par:∀ x∈P,sc.names.lookup x=some .local \/ sc.names.lookup x=some .cell
  nofree:∀ y∈sc.names,y.2≠.free
theorem bindL_out {kindOf:Str->Option NameKind}{x:Str}:∀ {binds:List (Str × Value)}{m:Str->Option Value},(∀ v,(x,v) ∉ binds)->bindL kindOf binds m x=m x
  | [],_,_=>rfl
  | (n,v)::r,m,h=>by
    unfold bindL
    rw [bindL_out fun w hw=>h w (List.mem_cons_of_mem _ hw)]
    split
    · have:x≠n:=by rintro rfl;exact h v List.mem_cons_self
      simp [this]
    · rfl
theorem bindC_out {kindOf:Str->Option NameKind}{x:Str}:∀ {binds:List (Str × Value)}{m:Str->Option Value},(∀ v,(x,v) ∉ binds)->bindC kindOf binds m x=m x
  | [],_,_=>rfl
  | (n,v)::r,m,h=>by
    unfold bindC
    rw [bindC_out fun w hw=>h w (List.mem_cons_of_mem _ hw)]
    split
    · rfl
    · have:x≠n:=by rintro rfl;exact h v List.mem_cons_self
      simp [this]
theorem bindL_get {kindOf:Str->Option NameKind}{x:Str}{v:Value}:∀ {P:List Str}{vs:List Value}{i:Nat}{m:Str->Option Value},P.Nodup->P[i]?=some x->vs[i]?=some v->kindOf x=some .local ->
    bindL kindOf (P.zip vs) m x=some v
  | [],_,_,_,_,h,_,_=>by simp at h
  | _::_,[],_,_,_,_,h,_=>by simp at h
  | p::P,w::vs,0,m,nd,h1,h2,hk=>by
    simp at h1 h2;subst h1;subst h2
    show bindL kindOf ((p,w)::P.zip vs) m p=_
    unfold bindL
    rw [bindL_out fun v hv=>(List.nodup_cons.mp nd).1 (List.of_mem_zip hv).1,if_pos hk]
    simp
  | p::P,w::vs,i+1,m,nd,h1,h2,hk=>by
    show bindL kindOf ((p,w)::P.zip vs) m x=_
    unfold bindL
    exact bindL_get (i:=i) (List.nodup_cons.mp nd).2 (by simpa using h1) (by simpa using h2) hk
theorem bindC_get {kindOf:Str->Option NameKind}{x:Str}{v:Value}:∀ {P:List Str}{vs:List Value}{i:Nat}{m:Str->Option Value},P.Nodup->P[i]?=some x->vs[i]?=some v->kindOf x≠some .local ->
    bindC kindOf (P.zip vs) m x=some v
  | [],_,_,_,_,h,_,_=>by simp at h
  | _::_,[],_,_,_,_,h,_=>by simp at h
  | p::P,w::vs,0,m,nd,h1,h2,hk=>by
    simp at h1 h2;subst h1;subst h2
    show bindC kindOf ((p,w)::P.zip vs) m p=_
    unfold bindC
    rw [bindC_out fun v hv=>(List.nodup_cons.mp nd).1 (List.of_mem_zip hv).1,if_neg hk]
    simp
  | p::P,w::vs,i+1,m,nd,h1,h2,hk=>by
    show bindC kindOf ((p,w)::P.zip vs) m x=_
    unfold bindC
    exact bindC_get (i:=i) (List.nodup_cons.mp nd).2 (by simpa using h1) (by simpa using h2) hk
def start (N:List Str) (vs:List V):St:=vs.map some++List.replicate (N.length - vs.length) none
def cxOf (CX:CXT) (P:Program) (w:World) (K:PySem.W.Frag) (mg:Str->Option Value) (base:Heap) (N:List Str) (qual:Str) (scope:Scope) (f:Addr) (cd:Value) (A:Around) (outer:List Env) (s:Shared) (H:Hp) (E:XK):Cx where
  prog:=P
  w:=w
  K:=K
  mg:=mg
  base:=base
  A:=A.deeper (envOfC qual scope s.heap.objs.size f cd)
  N:=N
  s_0:=s
  H_0:=H
  env:=envOfC qual scope s.heap.objs.size f cd
  outer:=outer
  stack:=envOfC qual scope s.heap.objs.size f cd::outer
  ex:=[]
  calm:=true
  fn:=fun _=>true
  pn:=[]
  xe:=fun e s'=>wpAny (model P w) (A.deeper (envOfC qual scope s.heap.objs.size f cd)) (leaving (envOfC qual scope s.heap.objs.size f cd) e) (fun _ s''=>CX outer H s E e s'') (fun e' s''=>CX outer H s E e' s'') s'
theorem cell_has {sc:Scope}{n:Nat}{x:Str} (h:sc.names.lookup x=some .cell):∃ c,(cellsFrom n sc.names []).lookup x=some c:=by
  have q:=PySem.W.cellsFrom_some sc.names n [] (.inl h)
  exact Option.isSome_iff_exists.mp q
theorem inv_start {CX:CXT}{P:Program}{w:World}{K:PySem.W.Frag}{mg:Str->Option Value}{base:Heap}{N ps:List Str}{qual:Str}{scope:Scope}{f:Addr}{cd:Value}{A:Around}{outer:List Env}{s s1:Shared}{H:Hp}{E:XK}{us:List Value}{vs:List V}
    (S:FnScope N ps scope) (hd:A.handled=none) (e0:Env0 P w K mg base A outer s H) (hl:vs.length=ps.length) (r:Vals vs us)
    (x:InCallC s s.heap.objs.size (bindL (envOfC qual scope s.heap.objs.size f cd).kindOf (ps.zip us) fun _=>none) (cellsFrom (s.heap.objs.size+1) scope.names []) (bindC (envOfC qual scope s.heap.objs.size f cd).kindOf (ps.zip us) fun _=>none) s1) :
    Inv (cxOf CX P w K mg base N qual scope f cd A outer s H E) [] (start N vs) H s1:=by
  have hpl:ps.length<=N.length:=by have:=congrArg List.length S.pre;rw [List.length_take] at this;omega
  obtain ⟨h1,tk,rfl,hk⟩:=x.done
  have noA:∀ b:Addr,b ∉ (cxOf CX P w K mg base N qual scope f cd A outer s H E).ex:=fun b z=>absurd (show b∈([]:List Addr) from z) (by simp)
  refine⟨⟨e0.mod,S.kind,rfl,rfl,Nat.le_refl _,fun y z c h1 h2=>?_,fun y hy=>?_,fun y c _ h=>?_,fun _=>hd,Around.frames_deeper e0.frames,.inr ⟨rfl,rfl⟩,fun b z=>absurd z (noA b),e0.bs,e0.bsz,fun b _ _=>noA b,fun b z=>absurd z (noA b),e0.funs,e0.frf⟩,
    rfl,e0.bare,Un.kept hk,⟨_,x.toInCall.ns,fun i y v h1 h2 h3=>?_⟩,fun y c h=>⟨_,x.cell y c h⟩,e0.hok.fresh (Nat.le_refl _),fun y c h=>?_,fun p hp=>absurd (show p∈([]:List (Addr × Obj)) from hp) (by simp),e0.hok.kept hk,?_⟩
  · exact name_of_addr x.apart (PySem.mem_of_lookup h1) (PySem.mem_of_lookup h2)
  · have hy:scope.names.lookup y=some .cell \/ scope.names.lookup y=some .free:=hy
    rcases hy with hy | hy
    · exact cell_has hy
    · exact absurd rfl (S.nofree _ (PySem.mem_of_lookup hy))
  · exact Nat.le_of_lt (x.above y c (PySem.mem_of_lookup h))
  · have hi:i<vs.length:=by
      unfold start at h2
      by_cases hi:i<vs.length
      · exact hi
      · rw [List.getElem?_append_right (by simpa using hi)] at h2
        rw [List.getElem?_replicate] at h2
        split at h2 <;> cases h2
    have ha:vs[i]?=some v:=by
      unfold start at h2
      rw [List.getElem?_append_left (by simpa using hi),List.getElem?_map] at h2
      cases e:vs[i]? with
      | none=>rw [e] at h2;cases h2
      | some a=>rw [e] at h2;cases h2;rfl
    obtain ⟨u,hu,rv⟩:=r.get ha
    have hp:ps[i]?=some y:=by
      rw [<- S.pre,List.getElem?_take_of_lt (by omega)];exact h1
    have ndP:ps.Nodup:=by rw [<- S.pre];exact S.nd.sublist (List.take_sublist _ _)
    refine⟨u,rv,?_⟩
    rcases S.par y (List.mem_of_getElem? hp) with k | k
    · exact .inl ⟨k,bindL_get ndP hp hu k⟩
    · obtain ⟨c,e⟩:=cell_has (n:=s.heap.objs.size+1) k
      refine .inr ⟨.inl k,c,e,?_⟩
      have q:=x.cell y c e
      rw [bindC_get ndP hp hu (by show scope.names.lookup y≠_;rw [k];decide)] at q
      exact q
  · exact e0.hok.fresh (Nat.le_of_lt (x.above y c (PySem.mem_of_lookup h)))
  · unfold start
    show _=N.length
    rw [List.length_append,List.length_map,List.length_replicate]
    omega
theorem fn_of {CX:CXT}{P:Program}{w:World}{K:PySem.W.Frag}{mg:Str->Option Value}{base:Heap}{k:Nat}{f:Addr}{name qual:Str}{params:Arguments}{body:List Stmt}{scope:Scope}{dV kV doc pm cdv ct oc:Value}{an od:Option Addr}
    {osl:Array (Option Value)}{N ps:List Str}{sp:Sp} (lk:K.lookup f=some ⟨oc,od,.func (PySem.W.fnOf name qual params body scope dV kV doc pm an cdv ct),osl⟩) (hcd:PySem.W.codeIn K cdv qual=true) (S:FnScope N ps scope)
    (len:∀ vs H Q E,sp vs H Q E->vs.length=ps.length)
    (hbody:∀ (A:Around) (outer:List Env) (s:Shared) (H:Hp) (vs:List V) (Q:VK) (E:XK),Room k (A.deeper (envOfC qual scope s.heap.objs.size f cdv))->sp vs H Q E ->
      ∃ t,PSs (cxOf CX P w K mg base N qual scope f cdv A outer s H E) body t/\t { nx:=fun _ H'=>Q .non H',rt:=Q } (start N vs) H) :
    FnOk P w K mg base CX (k+1) f (PySem.W.fnOf name qual params body scope dV kV doc pm an cdv ct) ps sp:=by
  refine⟨len,fun A outer s H args us vs Q E hr e0 hb r hsp=>?_⟩
  have hl:=len _ _ _ _ hsp
  have KX:K.In s.heap:=e0.mod.kin.keeps fun b o e=>(e0.bs b o e).1
  have lim:s.heap.NoLimit:=e0.mod.nolimit.keeps fun b o e=>(e0.bs b o e).1
  have hkind:∀ y∈ps.zip us,scope.names.lookup y.1=some .local \/ (scope.names.lookup y.1=some .cell/\((cellsFrom (s.heap.objs.size+1) scope.names []).lookup y.1).isSome=true):=fun ⟨n,v⟩ hy=>by
    rcases S.par n (List.of_mem_zip hy).1 with q | q
    · exact .inl q
    · exact .inr ⟨q,PySem.W.cellsFrom_some _ _ _ (.inl q)⟩
  refine codeAny_call_function hr.depth (KX _ _ lk) rfl S.co S.gen rfl (PySem.W.codeRec_of KX hcd) (hb _ _ _ _ ?_)
  refine wpAny_newFunctionEnv_cells S.kind hkind fun env he s1 x=>?_
  subst he
  refine⟨lim.keeps x.toInCall.keep,codeAny_func ?_⟩
  obtain ⟨t,ht,hq⟩:=hbody A outer s H vs Q E (hr.deeper _) hsp
  have I:Inv (cxOf CX P w K mg base N qual scope f cdv A outer s H E) [] (start N vs) H s1:=inv_start S hr.hd e0 hl r x
  refine wpAny_mono (ht [] s1 (start N vs) H _ I hq) (fun fl s' hs=>?_) fun e s' hs=>hs
  have fin:∀ {σ':St}{H':Hp}{v:V}{u:Value},Inv (cxOf CX P w K mg base N qual scope f cdv A outer s H E) [] σ' H' s'->RelV v u->Q v H'->CE outer P w H s Q u s':=
    fun {σ' H' v u} J rv q=>⟨v,H',J.os,J.bare,J.base,J.hok,rv,q⟩
  cases fl with
  | ret u=>
    obtain ⟨v,σ',H',J,rv,q⟩:=hs
    exact fin J rv q
  | next=>
    obtain ⟨σ',H',J,q⟩:=hs
    exact fin (v:=V.non) (u:=Value.none) J rfl q
  | brk=>
    obtain ⟨_,_,_,q⟩:=hs
    exact False.elim q
  | cont=>
    obtain ⟨_,_,_,q⟩:=hs
    exact False.elim q
end L2
namespace L2
open PySem PySem.Spec PyProof.Rows
section
variable {X:Cx}{x:Str}{p pos:Pos}{e:Expr}{es:List Expr}{t:TA}{id T:String}{r:List V->Hp->VK->Prop}
def tCB (r:List V->Hp->VK->Prop) (t:TA):TE:=fun σ H Q=>t σ H fun vs H1=>r vs H1 Q
theorem pe_callB (hc:CallR X (.builtin id) r) (hg:Gl X x) (hm:X.mg x=none) (hv:bootBuiltins x=some (.builtin id)) (ha:PA X (e::es) t) (hn:x≠"__name__":=by decide) (hdb:(x==("__debug__":Str))=false:=by decide)
    (he:starEach (e::es) X.env=(false,eval e X.env)::starEach es X.env:=by rfl) (hpl:(backTo pos (starEach es X.env)).any (·.1)=false:=by rfl):PE X (.Call (.Name x p) (e::es) [] pos) (tCB r t):=by
  intro pins s σ H Q I h
  refine wpAny_Call_Name_kw (ld_blt I hg hm hv ?_ hn hdb)
  exact PyProof.Rows.callWith_builtin1 (thn (ha pos pins s σ H _ I h) fun us s1 ⟨vs,H1,I1,r1,q1⟩=>hc pins s1 σ H1 vs us Q I1 r1 q1) he hpl
theorem pe_callTy (hc:CallR X (.type T) r) (hg:Gl X x) (hm:X.mg x=none) (hv:bootBuiltins x=some (.type T)) (ha:PA X (e::es) t) (hn:x≠"__name__":=by decide) (hdb:(x==("__debug__":Str))=false:=by decide)
    (he:starEach (e::es) X.env=(false,eval e X.env)::starEach es X.env:=by rfl) (hpl:(backTo pos (starEach es X.env)).any (·.1)=false:=by rfl):PE X (.Call (.Name x p) (e::es) [] pos) (tCB r t):=by
  intro pins s σ H Q I h
  refine wpAny_Call_Name_kw (ld_blt I hg hm hv ?_ hn hdb)
  exact PyProof.Rows.callWith_type1 (thn (ha pos pins s σ H _ I h) fun us s1 ⟨vs,H1,I1,r1,q1⟩=>hc pins s1 σ H1 vs us Q I1 r1 q1) he hpl
end
end L2
namespace HT
open PySem PyProof.Rows
section
open PySem.SeqAt
open PySem.AutoSeq1 (wpAny_loadPart')
open PySem.MeetsSeq PySem.MeetsSeq2 PySem.MeetsSeq3
end
section
variable {prog:Program}{w:World}{A:Around}{E:Value->Shared->Prop}{s:Shared}
def sIx (n d:Nat):Option Int->Nat
  | none=>d
  | some v=>if v<0 then (v+(n:Int)).toNat else min v.toNat n
theorem sIx_none (n d:Nat):sIx n d none=d:=rfl
theorem sIx_nat (n d k:Nat):sIx n d (some (k:Int))=min k n:=by
  show (if (k:Int)<0 then ((k:Int)+(n:Int)).toNat else min (k:Int).toNat n)=min k n
  rw [if_neg (by omega),Int.toNat_natCast]
theorem sIx_le (n d:Nat) (hd:d<=n) (o:Option Int):sIx n d o<=n:=by
  cases o with
  | none=>exact hd
  | some v=>
    show (if v<0 then (v+(n:Int)).toNat else min v.toNat n)<=n
    by_cases hv:v<0
    · rw [if_pos hv];omega
    · rw [if_neg hv];exact Nat.min_le_right _ _
theorem clip_eq (v:Int) (n d:Nat):(if v<0 then max (v+(n:Int)) 0 else min v (n:Int))=((sIx n d (some v):Nat):Int):=by
  show (if v<0 then max (v+(n:Int)) 0 else min v (n:Int))=(((if v<0 then (v+(n:Int)).toNat else min v.toNat n):Nat):Int)
  by_cases hv:v<0
  · simp only [if_pos hv];omega
  · simp only [if_neg hv];omega
theorem adjust_gen (lo hi:Option Int) (n:Nat):Builtin.Slice.sliceAdjust lo hi 1 (n:Int)=(((sIx n 0 lo:Nat):Int),((sIx n n hi:Nat):Int)):=by
  have h1:¬ ((1:Int)<0):=by omega
  unfold Builtin.Slice.sliceAdjust
  simp only [h1,if_false]
  refine Prod.ext ?_ ?_
  · cases lo with
    | none=>rfl
    | some v=>exact clip_eq v n 0
  · cases hi with
    | none=>rfl
    | some v=>exact clip_eq v n n
theorem places_gen (i j:Nat):Builtin.Slice.slicePlaces (i:Int) (j:Int) 1=j - i:=by
  unfold Builtin.Slice.slicePlaces
  have h1:(1:Int) > 0:=by omega
  simp only [h1,if_true,Int.ediv_one]
  split <;> omega
theorem slicePart_ {v:Value}{o:Option Int}{Q:Option Int->Shared->Prop} (p:IsPart v o) (h:Q o s):wpAny (model prog w) A (Builtin.Slice.slicePartIndex v) Q E s:=by
  cases p with
  | none=>exact slicePart_none h
  | int i t=>exact slicePart_int h
theorem sliceApplied_gen {sl:Addr}{vl vu:Value}{lo hi:Option Int}{n:Nat}{Q:Int × Int × Nat->Shared->Prop} (hs:s.heap.IsSliceOf sl vl vu .none) (pl:IsPart vl lo) (pu:IsPart vu hi)
    (h:Q (((sIx n 0 lo:Nat):Int),1,sIx n n hi - sIx n 0 lo) s):wpAny (model prog w) A (Builtin.Slice.sliceApplied (.ref sl) (pure (n:Int))) Q E s:=by
  obtain ⟨os,hos,hcs,hds⟩:=id hs
  unfold Builtin.Slice.sliceApplied Builtin.Slice.sliceFields
  refine wpAny_bind (wpAny_bind (wpAny_field hos hds (x:=vl) rfl (wpAny_bind (wpAny_field hos hds (x:=vu) rfl (wpAny_bind (wpAny_field hos hds (x:=.none) rfl (wpAny_pure ?_)))))))
  refine wpAny_bind (slicePart_none ?_)
  show wpAny _ _ (if ((1:Int)==0)=true then _ else _) _ _ s
  rw [if_neg (by decide)]
  refine wpAny_bind (slicePart_ pl (wpAny_bind (slicePart_ pu (wpAny_bind (wpAny_pure ?_)))))
  show wpAny _ _ (match Builtin.Slice.sliceAdjust lo hi 1 (n:Int) with | (lo,hi)=>pure (lo,(1:Int),Builtin.Slice.slicePlaces lo hi 1)) _ _ s
  rw [adjust_gen lo hi n]
  show wpAny _ _ (pure (((sIx n 0 lo:Nat):Int),(1:Int),Builtin.Slice.slicePlaces ((sIx n 0 lo:Nat):Int) ((sIx n n hi:Nat):Int) 1)) _ _ s
  rw [places_gen]
  exact wpAny_pure h
theorem pick_gen (xs:Array Value) (i k:Nat):((List.range k).filterMap fun (m:Nat)=>xs[((i:Int)+(m:Int)*1).toNat]?).toArray=((xs.toList.drop i).take k).toArray:=by
  have e:(fun (m:Nat)=>xs[((i:Int)+(m:Int)*1).toNat]?)=fun m=>xs[i+m]?:=by
    funext m
    have:((i:Int)+(m:Int)*1).toNat=i+m:=by omega
    rw [this]
  rw [e]
  have:=pick_run xs i k
  rw [List.filterMap_map] at this
  have e2:((fun x=>xs[x]?) ∘ fun x=>i+x)=fun m=>xs[i+m]?:=rfl
  rw [e2] at this
  rw [this]
theorem getItem_tuple_cut {t sl:Addr}{items:Array Value}{vl vu:Value}{lo hi:Option Int}{Q:Value->Shared->Prop} (ht:IsTup s.heap t items) (hs:s.heap.IsSliceOf sl vl vu .none) (pl:IsPart vl lo) (pu:IsPart vu hi)
    (hw:¬ (sIx items.size 0 lo=0/\sIx items.size items.size hi=items.size))
    (h:Q (.ref s.heap.objs.size) { s with heap:=s.heap.push { cls:=.type "tuple",data:=.seq ((items.toList.drop (sIx items.size 0 lo)).take (sIx items.size items.size hi - sIx items.size 0 lo)).toArray } })
    (hsz:items.size<=sizeLine):wpAny (model prog w) A (getItem (.ref t) (.ref sl)) Q E s:=by
  have htake:sizeOk (.seq ((items.toList.drop (sIx items.size 0 lo)).take (sIx items.size items.size hi - sIx items.size 0 lo)).toArray):=by
    show ((items.toList.drop (sIx items.size 0 lo)).take (sIx items.size items.size hi - sIx items.size 0 lo)).toArray.size<=sizeLine
    rw [List.size_toArray,List.length_take,List.length_drop,Array.length_toList]
    omega
  have hj:sIx items.size items.size hi<=items.size:=sIx_le _ _ (Nat.le_refl _) hi
  obtain ⟨os,hos,hcs,hds⟩:=id hs
  have hTs:s.TypeIs (.ref sl) "slice":=⟨os,hos,hcs⟩
  unfold getItem
  try with_reducible refine wpAny_holding ?_
  first | refine wpAny_bind (wpAny_pure ?_) | skip
  refine wpAny_bind (wpAny_sequenceKey ht.typeIs (by decide) ?_)
  refine wpAny_bind (wpAny_callSpecial?_slot (name:=Str.ofString "__getitem__") ht.typeIs PyProof.Rows.slot_tuple_getitem
    (wpAny_call_entry PyProof.Rows.slot_tuple_getitem ht.typeIs entry_tuple_getitem ?_ (args_tuple_getitem _ _)))
  show wpAny _ _ (Builtin.Tuple.tupleItemsOf (.ref t) >>= _) _ _ s
  refine wpAny_bind (tupleItemsOf_ ht ?_)
  refine wpAny_bind (wpAny_typeOf hTs ?_)
  rw [if_pos (by decide)]
  refine wpAny_bind (sliceApplied_gen hs pl pu ?_)
  have hno:¬ ((((sIx items.size 0 lo:Nat):Int)==0&&(1:Int)==1&&(sIx items.size items.size hi - sIx items.size 0 lo)==items.size)=true):=by
    intro q
    rw [Bool.and_eq_true,Bool.and_eq_true] at q
    have q1:((sIx items.size 0 lo:Nat):Int)=0:=eq_of_beq q.1.1
    have q2:sIx items.size items.size hi - sIx items.size 0 lo=items.size:=eq_of_beq q.2
    exact hw ⟨by omega,by omega⟩
  show wpAny _ _ (if (((sIx items.size 0 lo:Nat):Int)==0&&(1:Int)==1&&(sIx items.size items.size hi - sIx items.size 0 lo)==items.size)=true then _ else _) _ _ s
  rw [if_neg hno,pick_gen]
  first
    | exact wpAny_bind (m:=Builtin.Tuple.tupleExact _) (wpAny_newObj_type (wpAny_pure ⟨_,rfl,wpAny_pure h⟩) htake)
    | exact wpAny_bind (m:=Builtin.Tuple.tupleExact _) (wpAny_newObj_type (wpAny_bind (wpAny_pure (wpAny_pure ⟨_,rfl,wpAny_pure h⟩))) htake)
    | exact wpAny_bind (wpAny_bind (m:=Builtin.Tuple.tupleExact _) (wpAny_newObj_type (wpAny_pure (wpAny_pure ⟨_,rfl,wpAny_pure h⟩)) htake))
    | exact wpAny_bind (wpAny_bind (m:=Builtin.Tuple.tupleExact _) (wpAny_newObj_type (wpAny_pure ⟨_,rfl,wpAny_pure h⟩) htake))
end
end HT
namespace L2
open PySem PySem.Spec PyProof.Rows
abbrev TO:=St->Hp->(Option Int->Hp->Prop)->Prop
def PO (X:Cx) (e:Option Expr) (t:TO):Prop:=
  ∀ (pins:List (Addr × Obj)) (s:Shared) (σ:St) (H:Hp) (Q:Option Int->Hp->Prop),Inv X pins σ H s->t σ H Q ->
    wpAny (model X.prog X.w) X.A (evalPart e X.env) (fun u s'=>∃ o H',Inv X pins σ H' s'/\IsPart u o/\Q o H') X.xe s
def tNoPart:TO:=fun _ H Q=>Q none H
def tPart (t:TE):TO:=fun σ H Q=>t σ H fun x H1=>∃ i,x=.int i/\Q (some i) H1
theorem intsAre_of {ns:List Int}:∀ {us:List Value},Vals (ns.map V.int) us->IntsAre us ns:=by
  induction ns with
  | nil=>intro us r;rw [List.map_nil] at r;cases r;exact .nil
  | cons n ns ih=>
    intro us r
    rw [List.map_cons] at r
    cases r with
    | cons r1 r2=>
      obtain ⟨t,e⟩:=r1
      subst e
      exact .cons n t (ih r2)
section
variable {X:Cx}{e:Expr}{te:TE}{lo hi:Option Expr}{tl th:TO}{pos p2:Pos}
theorem po_none:PO X none tNoPart:=by
  intro pins s σ H Q I h
  rw [evalPart_none]
  exact wpAny_pure ⟨none,H,I,.none,h⟩
theorem po_some (h:PE X e te):PO X (some e) (tPart te):=by
  intro pins s σ H Q I hw
  rw [evalPart_some]
  refine thn (h pins s σ H _ I hw) fun u s1 ⟨x,H1,I1,r1,q1⟩=>?_
  obtain ⟨i,rfl,q⟩:=q1
  obtain ⟨t,rfl⟩:=r1
  exact⟨some i,H1,I1,.int i t,q⟩
def SlR (X:Cx) (r:V->Option Int->Option Int->Hp->VK->Prop):Prop:=
  ∀ (pins:List (Addr × Obj)) (s:Shared) (σ:St) (H:Hp) (x:V) (v vl vu:Value) (lo hi:Option Int) (sl:Addr) (Q:VK),Inv X pins σ H s->RelV x v->s.heap.IsSliceOf sl vl vu .none->IsPart vl lo->IsPart vu hi->r x lo hi H Q ->
    ∃ T id,typeLookup (.type T) "__getitem__"=pure (some (.builtin id))/\s.TypeIs v T/\wpAny (model X.prog X.w) X.A (getItem v (.ref sl)) (EP X pins σ Q) X.xe s
def tSl (r:V->Option Int->Option Int->Hp->VK->Prop) (te:TE) (tl th:TO):TE:=fun σ H Q=>te σ H fun x H1=>tl σ H1 fun l H2=>th σ H2 fun u H3=>r x l u H3 Q
theorem pe_slice {r:V->Option Int->Option Int->Hp->VK->Prop} (hr:SlR X r) (he:PE X e te) (hl:PO X lo tl) (hu:PO X hi th):PE X (.Subscript e (.Slice lo hi none p2) pos) (tSl r te tl th):=by
  intro pins s σ H Q I h
  refine Subscript_ (thn (he pins s σ H _ I h) fun v s1 ⟨x,H1,I1,r1,q1⟩=>?_)
  refine wpAny_Slice (thn (hl pins s1 σ H1 _ I1 q1) fun vl s2 ⟨l,H2,I2,pl,q2⟩=>thn (hu pins s2 σ H2 _ I2 q2) fun vu s3 ⟨u,H3,I3,pu,q3⟩=>?_)
  rw [evalPart_none]
  refine wpAny_pure ?_
  have I4:Inv X pins σ H3 { s3 with heap:=s3.heap.push { cls:=.type "slice",data:=.fields #[vl,vu,.none] } }:=I3.kept (t':=s3.toks) fun b ob q=>Heap.get?_push_of_some _ q
  obtain ⟨T,id,hT,ht,hg⟩:=hr pins { s3 with heap:=s3.heap.push { cls:=.type "slice",data:=.fields #[vl,vu,.none] } } σ H3 x v vl vu l u s3.heap.objs.size Q I4 r1 (Heap.IsSliceOf.new ..) pl pu q3
  show wpAny (model X.prog X.w) X.A (subscriptTail e (.Slice lo hi none p2) v (.ref s3.heap.objs.size)) (EP X pins σ Q) X.xe { s3 with heap:=s3.heap.push { cls:=.type "slice",data:=.fields #[vl,vu,.none] } }
  exact tail_any (ops:=[.ref s3.heap.objs.size,v]) ht hT hg (by with_unfolding_all rfl)
def cutV (xs:List V) (lo hi:Option Int):List V:=(xs.drop (HT.sIx xs.length 0 lo)).take (HT.sIx xs.length xs.length hi - HT.sIx xs.length 0 lo)
theorem cutV_length (xs:List V) (lo hi:Option Int):(cutV xs lo hi).length<=xs.length:=by
  unfold cutV
  rw [List.length_take,List.length_drop]
  omega
def rSlT (K:PySem.W.Frag):V->Option Int->Option Int->Hp->VK->Prop:=fun x lo hi H Q=>∃ a xs,x=.ref a/\SqT K H a xs /\
  ¬ (HT.sIx xs.length 0 lo=0/\HT.sIx xs.length xs.length hi=xs.length)/\∀ p,H p=none->Q (.ref p) (upd H p (.tup (cutV xs lo hi)))
theorem sl_tup:SlR X (rSlT X.K):=by
  intro pins s σ H x v vl vu lo hi sl Q I rx hs pl pu h
  obtain ⟨a,xs,rfl,hx,hw,q⟩:=h
  cases rx
  obtain ⟨its,r,ht,hz⟩:=I.tuple hx
  have hlen:its.toArray.size=xs.length:=by rw [List.size_toArray];exact r.length.symm
  refine⟨"tuple",_,PyProof.Rows.slot_tuple_getitem.lookup,ht.typeIs,?_⟩
  refine HT.getItem_tuple_cut ht hs pl pu (by rw [hlen];exact hw) ?_ (by rw [hlen];exact hz)
  rw [hlen]
  refine⟨.ref s.heap.objs.size,_,I.laid (t':=s.toks) (o:=.tup (cutV xs lo hi)) (fun b ob q=>Heap.get?_push_of_some _ q) (Nat.le_refl _) ?_,rfl,q _ (I.hok.fresh (Nat.le_refl _))⟩
  exact⟨Nat.le_trans (cutV_length xs lo hi) hz,_,(r.drop (HT.sIx xs.length 0 lo)).take (HT.sIx xs.length xs.length hi - HT.sIx xs.length 0 lo),IsTup.new _ _⟩
end
end L2
namespace L2
open PySem PySem.Spec PyProof.Rows
def ixN (n:Nat) (i:Int):Option Nat:=if 0<=i then (if i<n then some i.toNat else none) else if -(n:Int)<=i then some (i+n).toNat else none
def atI {α:Type} (xs:List α) (i:Int):Option α:=(ixN xs.length i).bind fun j=>xs[j]?
theorem ixN_seq {n:Nat}{i:Int}{j:Nat} (h:ixN n i=some j):seqIndex? i n=some j/\j<n/\-(n:Int)<=i/\i<n:=by
  unfold ixN at h
  by_cases h0:0<=i
  · rw [if_pos h0] at h
    by_cases h1:i<n
    · rw [if_pos h1] at h
      have e:i.toNat=j:=Option.some.inj h
      exact⟨by rw [seqIndex_of h0 h1,e],by omega,by omega,h1⟩
    · rw [if_neg h1] at h;cases h
  · rw [if_neg h0] at h
    by_cases h1:-(n:Int)<=i
    · rw [if_pos h1] at h
      have e:(i+n).toNat=j:=Option.some.inj h
      exact⟨by rw [seqIndex_neg (by omega) h1,e],by omega,h1,by omega⟩
    · rw [if_neg h1] at h;cases h
theorem atI_get {α:Type}{xs:List α}{i:Int}{v:α} (h:atI xs i=some v):∃ j,seqIndex? i xs.length=some j/\xs[j]?=some v/\j<xs.length/\-(xs.length:Int)<=i/\i<xs.length:=by
  unfold atI at h
  cases e:ixN xs.length i with
  | none=>rw [e] at h;cases h
  | some j=>
    rw [e] at h
    obtain ⟨h1,h2,h3,h4⟩:=ixN_seq e
    exact⟨j,h1,h,h2,h3,h4⟩
theorem atI_nat {α:Type}{xs:List α}{j:Nat}{v:α} (h:xs[j]?=some v):atI xs (j:Int)=some v:=by
  have hj:j<xs.length:=(List.getElem?_eq_some_iff.mp h).1
  have e:ixN xs.length (j:Int)=some j:=by
    unfold ixN
    rw [if_pos (by omega),if_pos (by omega)];simp
  unfold atI;rw [e];exact h
def PlainIx (b:Expr):Prop:=∀ o i,subscripted b false o i=operate [o,i] (getItem o i)
def IxR (X:Cx) (r:R2):Prop:=
  ∀ (value slice:Expr) (pins:List (Addr × Obj)) (s:Shared) (σ:St) (H:Hp) (x y:V) (v u:Value) (Q:VK),Inv X pins σ H s->RelV x v->RelV y u->r x y H Q ->
    subscripted slice false v u=operate [v,u] (getItem v u)->wpAny (model X.prog X.w) X.A (subscriptTail value slice v u) (EP X pins σ Q) X.xe s
def MtR (X:Cx) (id:String) (r:V->List V->Hp->VK->Prop):Prop:=
  ∀ (pins:List (Addr × Obj)) (s:Shared) (σ:St) (H:Hp) (x:V) (xs:List V) (v:Value) (us:List Value) (Q:VK),Inv X pins σ H s->RelV x v->Vals xs us->r x xs H Q ->
    wpAny (model X.prog X.w) X.A (call (.builtin id) (v::us)) (EP X pins σ Q) X.xe s
section
variable {X:Cx}{a b:Expr}{ta tb:TE}{pos:Pos}
theorem pe_ix {r:R2} (hr:IxR X r) (ha:PE X a ta) (hb:PE X b tb) (hs:PlainIx b):PE X (.Subscript a b pos) (tOp r ta tb):=by
  intro pins s σ H Q I h
  exact Subscript_ (binT ha hb I h fun v u s2 x y H2 I2 rx ry q=>hr a b pins s2 σ H2 x y v u Q I2 rx ry q (hs _ _))
def rIxL (K:PySem.W.Frag):R2:=fun x y H Q=>∃ p xs i v,x=.ref p/\y=.int i/\SqL K H p xs/\atI xs i=some v/\Q v H
def rIxT (K:PySem.W.Frag):R2:=fun x y H Q=>∃ p xs i v,x=.ref p/\y=.int i/\SqT K H p xs/\atI xs i=some v/\Q v H
theorem ix_list:IxR X (rIxL X.K):=by
  intro value slice pins s σ H x y v u Q I rx ry h hs
  obtain ⟨p,xs,i,z,rfl,rfl,hq,he,q⟩:=h
  cases rx
  obtain ⟨t,rfl⟩:=ry
  obtain ⟨its,r,pl,hz⟩:=I.list hq
  obtain ⟨j,h1,h2,h3,h4,h5⟩:=atI_get he
  obtain ⟨w,ew,rw'⟩:=r.get h2
  have hl:=r.length
  have hn:=line63
  have fin:EP X pins σ Q w s:=⟨z,H,I,rw',q⟩
  by_cases h0:0<=i
  · have hj:i.toNat=j:=by
      rw [seqIndex_of h0 h5] at h1
      exact Option.some.inj h1
    exact item_listR pl.isList h0 (by omega) (by rw [hj];simpa using ew) fin hs
  · have hj:(i+(its.toArray.size:Int)).toNat=j:=by
      rw [seqIndex_neg (by omega) h4] at h1
      rw [List.size_toArray,<- hl]
      exact Option.some.inj h1
    exact subscriptTail_builtinR (x:=w) pl.isList.typeIs slot_list_getitem.lookup
      (wpAny_getItem_list_neg (Q:=fun r s'=>r=w/\EP X pins σ Q r s') pl.isList (by omega) (by rw [List.size_toArray] <;> omega) (by omega) (by rw [hj];simpa using ew) ⟨rfl,fin⟩) hs
theorem ix_tup:IxR X (rIxT X.K):=by
  intro value slice pins s σ H x y v u Q I rx ry h hs
  obtain ⟨p,xs,i,z,rfl,rfl,hq,he,q⟩:=h
  cases rx
  obtain ⟨t,rfl⟩:=ry
  obtain ⟨its,r,pl,hz⟩:=I.tuple hq
  obtain ⟨j,h1,h2,h3,h4,h5⟩:=atI_get he
  obtain ⟨w,ew,rw'⟩:=r.get h2
  have hl:=r.length
  have hn:=line63
  have fin:EP X pins σ Q w s:=⟨z,H,I,rw',q⟩
  exact subscriptTail_builtinR (x:=w) pl.typeIs slot_tuple_getitem.lookup
    (getItem_tuple (j:=j) (Q:=fun r s'=>r=w/\EP X pins σ Q r s') pl (by omega) (by omega) (by rw [List.size_toArray,<- hl];exact h1) (by simpa using ew) ⟨rfl,fin⟩) hs
theorem slice_bounds (lo hi:Option Int) (n:Nat):(sliceBounds lo hi none n).1=((HT.sIx n 0 lo:Nat):Int)/\(sliceBounds lo hi none n).2.1=((HT.sIx n n hi:Nat):Int)/\(sliceBounds lo hi none n).2.2=1:=by
  refine⟨?_,?_,rfl⟩
  · cases lo with
    | none=>simp [sliceBounds,HT.sIx]
    | some i=>
      simp only [sliceBounds,HT.sIx,Option.getD_none,show (1:Int) > 0 by decide,if_true]
      by_cases h:i<0
      · simp only [h,if_true] <;> omega
      · simp only [h,if_false] <;> omega
  · cases hi with
    | none=>simp [sliceBounds,HT.sIx]
    | some i=>
      simp only [sliceBounds,HT.sIx,Option.getD_none,show (1:Int) > 0 by decide,if_true]
      by_cases h:i<0
      · simp only [h,if_true] <;> omega
      · simp only [h,if_false] <;> omega
theorem slicePick_cut (its:List Value) (lo hi:Option Int):slicePick its.toArray lo hi none=((its.drop (HT.sIx its.length 0 lo)).take (HT.sIx its.length its.length hi - HT.sIx its.length 0 lo)).toArray:=by
  obtain ⟨h1,h2,h3⟩:=slice_bounds lo hi its.toArray.size
  unfold slicePick
  rw [h1,h2,h3]
  simp only [sliceRange_one,pick_run,List.size_toArray] <;> rfl
def rSlL (K:PySem.W.Frag):V->Option Int->Option Int->Hp->VK->Prop:=fun x lo hi H Q=>∃ a xs,x=.ref a/\SqL K H a xs/\∀ p,H p=none->Q (.ref p) (upd H p (.lst (cutV xs lo hi)))
theorem sl_list:SlR X (rSlL X.K):=by
  intro pins s σ H x v vl vu lo hi sl Q I rx hs pl pu h
  obtain ⟨a,xs,rfl,hx,q⟩:=h
  cases rx
  obtain ⟨its,r,ht,hz⟩:=I.list hx
  have hlen:=r.length
  refine⟨"list",_,slot_list_getitem.lookup,ht.isList.typeIs,?_⟩
  refine wpAny_getItem_list_slice ht.isList hs pl pu .none (by simp) ?_ (by rw [List.size_toArray] <;> omega)
  rw [slicePick_cut,<- hlen]
  refine⟨.ref s.heap.objs.size,_,I.laid (t':=s.toks) (o:=.lst (cutV xs lo hi)) (fun b ob q=>Heap.get?_push_of_some _ q) (Nat.le_refl _) ?_,rfl,q _ (I.hok.fresh (Nat.le_refl _))⟩
  exact⟨Nat.le_trans (cutV_length xs lo hi) hz,_,0,(r.drop (HT.sIx xs.length 0 lo)).take (HT.sIx xs.length xs.length hi - HT.sIx xs.length 0 lo),Heap.get?_push_size _ rfl⟩
def flatV:V->Bool
  | .non=>true
  | .bl _=>true
  | .int _=>true
  | .str _=>true
  | _=>false
def eqV:V->V->Bool
  | .non,.non=>true
  | .bl a,.bl b=>a==b
  | .bl a,.int b=>(if a then 1 else 0)==b
  | .int a,.bl b=>a==(if b then 1 else 0)
  | .int a,.int b=>a==b
  | .str a,.str b=>a==b
  | _,_=>false
theorem eqAt_V {A:Around}{s:Shared}{y x:V}{u v:Value} (ry:RelV y u) (rx:RelV x v) (fy:flatV y=true) (fx:flatV x=true):SeqAt.EqAt A s u v (eqV y x):=by
  cases y with
  | non=>
    cases ry
    cases x with
    | non=>cases rx;exact SeqAt.EqAt.same _
    | bl b=>cases rx;exact SeqAt.EqAt.none_bool b
    | int b=>obtain ⟨t,rfl⟩:=rx;exact SeqAt.EqAt.none_int b t
    | str b=>obtain ⟨t,rfl⟩:=rx;exact SeqAt.EqAt.none_str b t
    | _=>exact absurd (show false=true from fx) Bool.false_ne_true
  | bl a=>
    cases ry
    cases x with
    | non=>cases rx;exact SeqAt.EqAt.bool_none a
    | bl b=>cases rx;exact SeqAt.EqAt.bool_bool a b
    | int b=>obtain ⟨t,rfl⟩:=rx;exact SeqAt.EqAt.bool_int a b t
    | str b=>obtain ⟨t,rfl⟩:=rx;exact SeqAt.EqAt.bool_str a b t
    | _=>exact absurd (show false=true from fx) Bool.false_ne_true
  | int a=>
    obtain ⟨t',rfl⟩:=ry
    cases x with
    | non=>cases rx;exact SeqAt.EqAt.int_none a t'
    | bl b=>cases rx;exact SeqAt.EqAt.int_bool a t' b
    | int b=>obtain ⟨t,rfl⟩:=rx;exact SeqAt.EqAt.int_int a t' b t
    | str b=>obtain ⟨t,rfl⟩:=rx;exact SeqAt.EqAt.int_str a t' b t
    | _=>exact absurd (show false=true from fx) Bool.false_ne_true
  | str a=>
    obtain ⟨t',rfl⟩:=ry
    cases x with
    | non=>cases rx;exact SeqAt.EqAt.str_none a t'
    | bl b=>cases rx;exact SeqAt.EqAt.str_bool a t' b
    | int b=>obtain ⟨t,rfl⟩:=rx;exact SeqAt.EqAt.str_int a t' b t
    | str b=>obtain ⟨t,rfl⟩:=rx;exact SeqAt.EqAt.str_str a t' b t
    | _=>exact absurd (show false=true from fx) Bool.false_ne_true
  | _=>exact absurd (show false=true from fy) Bool.false_ne_true
def eqU (x:V) (u:Value):Bool:=match u with
  | .none=>eqV .non x
  | .bool b=>eqV (.bl b) x
  | .int i _=>eqV (.int i) x
  | .str z _=>eqV (.str z) x
  | _=>false
theorem eqU_of {x y:V}{u:Value} (r:RelV y u) (f:flatV y=true):eqU x u=eqV y x:=by
  cases y with
  | non=>cases r;rfl
  | bl b=>cases r;rfl
  | int i=>obtain ⟨t,rfl⟩:=r;rfl
  | str z=>obtain ⟨t,rfl⟩:=r;rfl
  | _=>exact absurd (show false=true from f) Bool.false_ne_true
theorem any_eqU {x:V}:∀ {xs:List V}{us:List Value},Vals xs us->xs.all flatV=true->us.any (eqU x)=xs.any fun y=>eqV y x
  | _,_,.nil,_=>rfl
  | y::xs,u::us,.cons r t,f=>by
    rw [List.all_cons,Bool.and_eq_true] at f
    rw [List.any_cons,List.any_cons,eqU_of r f.1,any_eqU t f.2]
theorem mem_eqAt {A:Around}{s:Shared}{x:V}{v:Value} (rx:RelV x v) (fx:flatV x=true):∀ {xs:List V}{us:List Value},Vals xs us->xs.all flatV=true->∀ u∈us,SeqAt.EqAt A s u v (eqU x u)
  | _,_,.nil,_=>fun u hu=>by cases hu
  | y::xs,u::us,.cons r t,f=>fun u' hu=>by
    rw [List.all_cons,Bool.and_eq_true] at f
    rcases List.mem_cons.mp hu with rfl | hu
    · rw [eqU_of r f.1];exact eqAt_V r rx f.1 fx
    · exact mem_eqAt rx fx t f.2 u' hu
def inV (x:V) (xs:List V):Bool:=xs.any fun y=>eqV y x
def rIn (K:PySem.W.Frag) (neg:Bool):R2:=fun x y H Q=>∃ p xs,y=.ref p/\(SqL K H p xs \/ SqT K H p xs)/\flatV x=true/\xs.all flatV=true/\Q (.bl (if neg then !inV x xs else inV x xs)) H
theorem op_in_seq:OpR X (compareOp .In) (rIn X.K false):=by
  intro pins s σ H x y v u Q I rx ry h
  obtain ⟨p,xs,rfl,hq,fx,fs,q⟩:=h
  cases ry
  rcases hq with hq | hq
  · obtain ⟨its,r,pl,hz⟩:=I.list hq
    refine SeqAt.in_listAt (eqU x) pl.isList (fun w hw=>mem_eqAt rx fx r fs w (by simpa using hw)) ⟨.bl _,H,I,rfl,?_⟩
    rw [show its.toArray.any (eqU x)=its.any (eqU x) by simp,any_eqU r fs]
    exact q
  · obtain ⟨its,r,pl,hz⟩:=I.tuple hq
    refine SeqAt.in_tupleAt (eqU x) pl (fun w hw=>mem_eqAt rx fx r fs w (by simpa using hw)) ⟨.bl _,H,I,rfl,?_⟩
    rw [show its.toArray.any (eqU x)=its.any (eqU x) by simp,any_eqU r fs]
    exact q
theorem op_notIn_seq:OpR X (compareOp .NotIn) (rIn X.K true):=by
  intro pins s σ H x y v u Q I rx ry h
  obtain ⟨p,xs,rfl,hq,fx,fs,q⟩:=h
  cases ry
  rcases hq with hq | hq
  · obtain ⟨its,r,pl,hz⟩:=I.list hq
    refine SeqAt.notIn_listAt (eqU x) pl.isList (fun w hw=>mem_eqAt rx fx r fs w (by simpa using hw)) ⟨.bl _,H,I,rfl,?_⟩
    rw [show its.toArray.any (eqU x)=its.any (eqU x) by simp,any_eqU r fs]
    exact q
  · obtain ⟨its,r,pl,hz⟩:=I.tuple hq
    refine SeqAt.notIn_tupleAt (eqU x) pl (fun w hw=>mem_eqAt rx fx r fs w (by simpa using hw)) ⟨.bl _,H,I,rfl,?_⟩
    rw [show its.toArray.any (eqU x)=its.any (eqU x) by simp,any_eqU r fs]
    exact q
theorem call_len_seq:CallR X (.builtin "len") (fun xs H Q=>∃ p ys,xs=[.ref p]/\(SqL X.K H p ys \/ SqT X.K H p ys)/\Q (.int ys.length) H):=by
  intro pins s σ H xs us Q I r h
  obtain ⟨p,ys,rfl,hq,q⟩:=h
  obtain ⟨u,rfl,rx⟩:=vals1 r
  cases rx
  have hn:=line63
  rcases hq with hq | hq
  · obtain ⟨its,r',pl,hz⟩:=I.list hq
    have hlen:=r'.length
    exact Calls.call_len_list pl.isList (by simp only [List.size_toArray] <;> omega) ⟨.int ys.length,H,I.tok _,⟨s.toks+1,by rw [List.size_toArray,hlen]⟩,q⟩
  · obtain ⟨its,r',pl,hz⟩:=I.tuple hq
    have hlen:=r'.length
    exact len_tuple pl (by simp only [List.size_toArray] <;> omega) ⟨.int ys.length,H,I.tok _,⟨s.toks+1,by rw [List.size_toArray,hlen]⟩,q⟩
theorem call_list_of:CallR X (.type "list") (fun xs H Q=>∃ p ys,xs=[.ref p]/\(SqL X.K H p ys \/ SqT X.K H p ys)/\∀ l,H l=none->Q (.ref l) (upd H l (.lst ys))):=by
  intro pins s σ H xs us Q I r h
  obtain ⟨p,ys,rfl,hq,q⟩:=h
  obtain ⟨u,rfl,rx⟩:=vals1 r
  cases rx
  have fin:∀ (its:List Value),Vals ys its->ys.length<=sizeLine->∀ (h':Heap) (c':Nat),(∀ b o',s.heap.get? b=some o'->h'.get? b=some o') ->
      h'.get? s.heap.objs.size=some { cls:=.type "list",dict:=none,data:=.seq its.toArray c',slots:=#[] }->EP X pins σ Q (.ref s.heap.objs.size) { s with heap:=h' }:=fun its r' hz h' c' kp e=>
    ⟨.ref s.heap.objs.size,_,I.laid (t':=s.toks) kp (Nat.le_refl _) (show ObjOk X.prog X.w _ h' _ (.lst ys) from ⟨hz,its,c',r',e⟩),rfl,q _ (I.hok.fresh (Nat.le_refl _))⟩
  rcases hq with hq | hq
  · obtain ⟨its,r',pl,hz⟩:=I.list hq
    have hlen:=r'.length
    obtain ⟨o,ho,hc,n,hd⟩:=pl.isList
    exact call_list_seq p (.inl rfl) ho hc hd (fun h' c' kp e=>fin its r' hz h' c' kp e) (by simp only [List.size_toArray] <;> omega)
  · obtain ⟨its,r',pl,hz⟩:=I.tuple hq
    have hlen:=r'.length
    obtain ⟨o,ho,hc,n,hd⟩:=pl
    exact call_list_seq p (.inr rfl) ho hc hd (fun h' c' kp e=>fin its r' hz h' c' kp e) (by simp only [List.size_toArray] <;> omega)
theorem call_tuple_of:CallR X (.type "tuple") (fun xs H Q=>∃ p ys,xs=[.ref p]/\((SqL X.K H p ys/\∀ l,H l=none->Q (.ref l) (upd H l (.tup ys))) \/ (SqT X.K H p ys/\Q (.ref p) H))):=by
  intro pins s σ H xs us Q I r h
  obtain ⟨p,ys,rfl,h⟩:=h
  obtain ⟨u,rfl,rx⟩:=vals1 r
  cases rx
  rcases h with ⟨hq,q⟩ | ⟨hq,q⟩
  · obtain ⟨its,r',pl,hz⟩:=I.list hq
    have hlen:=r'.length
    refine call_tuple_list pl.isList (fun h' kp=>?_) (by simp only [List.size_toArray] <;> omega)
    have I1:Inv X pins σ H { s with heap:=h' }:=I.kept (t':=s.toks) kp
    have I2:Inv X pins σ (upd H h'.objs.size (.tup ys)) { s with heap:=h'.push { cls:=.type "tuple",data:=.seq its.toArray } }:=
      I1.laid (t':=s.toks) (fun b o e=>Heap.get?_push_of_some _ e) (Nat.le_refl _) (show ObjOk X.prog X.w _ _ _ (.tup ys) from ⟨hz,its,r',IsTup.new _ _⟩)
    exact⟨.ref h'.objs.size,_,I2,rfl,q _ (I1.hok.fresh (Nat.le_refl _))⟩
  · obtain ⟨its,r',pl,hz⟩:=I.tuple hq
    exact call_tuple_same pl ⟨.ref p,H,I,rfl,q⟩
def tyV (K:PySem.W.Frag) (T:String) (x:V) (H:Hp):Prop:=match x with
  | .str _=>T="str"
  | .int _=>T="int"
  | .ref p=>(T="list"/\∃ xs,SqL K H p xs) \/ (T="tuple"/\∃ o,K.lookup p=some o/\o.cls=.type "tuple"/\o.dict=none) \/
      (T="dict"/\((∃ kvs,H p=some (.dK kvs)) \/ ∃ kvs,H p=some (.dT kvs))) \/ (T="set"/\∃ S n,H p=some (.set S n))
  | _=>False
theorem tyV_is {pins:List (Addr × Obj)}{σ:St}{H:Hp}{s:Shared}{T:String}{x:V}{v:Value} (I:Inv X pins σ H s) (r:RelV x v) (ty:tyV X.K T x H) :
    s.TypeIs v T/\∀ a,v=.ref a->∃ ob,s.heap.get? a=some ob/\ob.dict=none:=by
  cases x with
  | str z=>
    obtain ⟨t,rfl⟩:=r
    cases (show T="str" from ty)
    exact⟨typeIs_str s z t,fun _ e=>nomatch e⟩
  | int i=>
    obtain ⟨t,rfl⟩:=r
    cases (show T="int" from ty)
    exact⟨typeIs_int s i t,fun _ e=>nomatch e⟩
  | ref p=>
    cases r
    rcases ty with ⟨rfl,xs,hq⟩ | ⟨rfl,o,hk,hc,hd⟩ | ⟨rfl,hk⟩ | ⟨rfl,S,n,hk⟩
    · obtain ⟨its,_,pl,_⟩:=I.list hq
      refine⟨pl.isList.typeIs,fun a e=>?_⟩
      cases e
      obtain ⟨o,n,e,c,hd,_⟩:=pl
      exact⟨o,e,hd⟩
    · refine⟨⟨o,I.kIn p o hk,hc⟩,fun a e=>?_⟩
      cases e
      exact⟨o,I.kIn _ o hk,hd⟩
    · have z:∃ o,s.heap.get? p=some o/\o.ExactDict:=by
        rcases hk with ⟨kvs,hk⟩ | ⟨kvs,hk⟩
        · obtain ⟨_,_,_,_,o,_,_,e,ex,_⟩:=I.hok p _ hk
          exact⟨o,e,ex⟩
        · obtain ⟨_,_,_,_,o,_,_,e,ex,_⟩:=I.hok p _ hk
          exact⟨o,e,ex⟩
      obtain ⟨o,e,ex⟩:=z
      refine⟨⟨o,e,ex.1⟩,fun a e2=>?_⟩
      cases e2
      exact⟨o,e,ex.2.1⟩
    · obtain ⟨o,_,_,_,e,ex,_⟩:=I.hok p _ hk
      refine⟨⟨o,e,ex.1⟩,fun a e2=>?_⟩
      cases e2
      exact⟨o,e,ex.2.1⟩
  | _=>exact False.elim ty
def tBM0 (K:PySem.W.Frag) (T:String) (r:V->List V->Hp->VK->Prop) (to:TE):TE:=fun σ H Q=>to σ H fun x H1=>tyV K T x H1/\r x [] H1 Q
def tBM (K:PySem.W.Frag) (T:String) (r:V->List V->Hp->VK->Prop) (to:TE) (t:TA):TE:=fun σ H Q=>to σ H fun x H1=>tyV K T x H1/\t σ H1 fun xs H2=>r x xs H2 Q
variable {o e:Expr}{es:List Expr}{to:TE}{t:TA}{name:Str}{apos cpos:Pos}{T id:String}{r:V->List V->Hp->VK->Prop}
theorem pe_bm0 (pa:PlainAttrs T) (slot:Slot T name id) (hty:typeOf (.builtin id)=pure (.type "method_descriptor")) (hm:MtR X id r) (ho:PE X o to)
    (hbase:attributeBase o name X.env (eval o X.env)=eval o X.env:=by rfl) (hline:(apos.endLine==cpos.line)=true:=by rfl):PE X (.Call (.Attribute o name apos) [] [] cpos) (tBM0 X.K T r to):=by
  intro pins s σ H Q I h
  refine wpAny_Call_method0_late hbase hline (thn (ho pins s σ H _ I h) fun v s1 ⟨x,H1,I1,r1,ty,q1⟩=>?_)
  obtain ⟨h1,h2⟩:=tyV_is I1 r1 ty
  exact⟨T,id,pa,slot,hty,h1,h2,Calls.callWith_builtin rfl (PySem.evalArgs_none (hm pins s1 σ H1 x [] v [] Q I1 r1 .nil q1))⟩
theorem pe_bm (pa:PlainAttrs T) (slot:Slot T name id) (hty:typeOf (.builtin id)=pure (.type "method_descriptor")) (hm:MtR X id r) (ho:PE X o to) (ha:PA X (e::es) t)
    (hbase:attributeBase o name X.env (eval o X.env)=eval o X.env:=by rfl)
    (hfew:((backTo cpos (starEach (e::es) X.env)).all (fun x=>!x.1)&&(backToKw cpos (keywordEach [] X.env)).all (fun x=>x.1.isSome)
     &&decide ((e::es).length+([]:List Keyword).length+(if ([]:List Keyword).isEmpty then 0 else 1)<30))=true:=by rfl)
    (hline:(apos.endLine==cpos.line)=true:=by rfl) (hs:starEach (e::es) X.env=(false,eval e X.env)::starEach es X.env:=by rfl) (hplain:(backTo cpos (starEach es X.env)).any (·.1)=false:=by rfl) :
    PE X (.Call (.Attribute o name apos) (e::es) [] cpos) (tBM X.K T r to t):=by
  intro pins s σ H Q I h
  refine wpAny_Call_method_late hbase hfew hline rfl (thn (ho pins s σ H _ I h) fun v s1 ⟨x,H1,I1,r1,ty,q1⟩=>?_)
  obtain ⟨h1,h2⟩:=tyV_is I1 r1 ty
  refine⟨T,id,pa,slot,hty,h1,h2,?_⟩
  have hA:=ha cpos pins s1 σ H1 _ I1 q1
  rw [hs] at hA ⊢
  refine Calls.callWith_builtin (by show (false||(backTo cpos (starEach es X.env)).any (·.1))=false;rw [hplain] <;> rfl) (Calls.evalArgs_plain ?_)
  exact thn hA fun us s2 ⟨vs,H2,I2,r2,q2⟩=>hm pins s2 σ H2 x vs v us Q I2 r1 r2 q2
end
end L2
namespace L2
open PySem PySem.Spec PyProof.Rows
def MtM (X:Cx) (id:String) (r:V->List V->Hp->VK->Prop):Prop:=
  ∀ (pins:List (Addr × Obj)) (s:Shared) (σ:St) (H:Hp) (x:V) (xs:List V) (v:Value) (us:List Value) (Q:VK),Inv X pins σ H s->RelV x v->Vals xs us->r x xs H Q ->
    wpAny (model X.prog X.w) X.A (call (.builtin id) (v::us)) (EP X pins σ Q) X.xe s
theorem Vals.one:∀ {x:V}{us:List Value},Vals [x] us->∃ u,us=[u]/\RelV x u
  | _,_,.cons r .nil=>⟨_,rfl,r⟩
theorem Vals.zero:∀ {us:List Value},Vals [] us->us=[]
  | _,.nil=>rfl
theorem Vals.reverse {xs:List V}{us:List Value} (h:Vals xs us):Vals xs.reverse us.reverse:=by
  induction h with
  | nil=>exact .nil
  | cons r t ih=>rw [List.reverse_cons,List.reverse_cons];exact Vals.append ih (.cons r .nil)
section
variable {X:Cx}{pins:List (Addr × Obj)}{σ:St}{H:Hp}{s:Shared}{l b:Addr}{xs ys zs:List V}
theorem Inv.lset {its its':List Value}{n:Nat}{f:Array Value->Array Value}{t':Nat} (I:Inv X pins σ H s) (hH:H l=some (.lst xs))
    (e:s.heap.get? l=some { cls:=.type "list",data:=.seq its.toArray n }) (hf:f its.toArray=its'.toArray) (hv:Vals ys its') (hz:ys.length<=sizeLine) :
    Inv X pins σ (upd H l (.lst ys)) { s with heap:=s.heap.update l (Obj.mapSeq f),toks:=t' }:=by
  have q:=PySem.IsL.update e f
  rw [hf] at q
  refine I.write (x:=l) (e:=l) (by rw [hH];exact trivial) (.inl rfl) (fun b' u hb hu=>(Heap.get?_update_other s.heap (Obj.mapSeq f) (Ne.symm hb)).trans hu) ⟨_,q⟩ ?_
  exact⟨hz,its',_,hv,q⟩
theorem Inv.lnew {its:List Value}{t':Nat} (I:Inv X pins σ H s) (hv:Vals ys its) (hz:ys.length<=sizeLine) :
    Inv X pins σ (upd H s.heap.objs.size (.lst ys)) { s with heap:=s.heap.push { cls:=.type "list",data:=.seq its.toArray },toks:=t' }:=
  I.laid (fun _ _ q=>Heap.get?_push_of_some _ q) (Nat.le_refl _) ⟨hz,its,0,hv,Heap.get?_push_size _ rfl⟩
theorem Inv.fresh (I:Inv X pins σ H s):H s.heap.objs.size=none:=I.hok.fresh (Nat.le_refl _)
theorem Inv.lstM (I:Inv X pins σ H s) (hH:H l=some (.lst xs)):xs.length<=sizeLine/\∃ (its:List Value) (n:Nat),Vals xs its/\xs.length=its.length/\s.heap.get? l=some { cls:=.type "list",data:=.seq its.toArray n }:=by
  obtain ⟨z,its,n,r,e⟩:=I.hok l _ hH
  exact⟨z,its,n,r,r.length,e⟩
theorem notLongL {n:Nat} (h:n<=sizeLine):Builtin.List.listTooLong n=false:=by
  unfold Builtin.List.listTooLong
  exact decide_eq_false (by omega)
end
section
variable {X:Cx}
def rAppend:V->List V->Hp->VK->Prop:=fun x vs H Q=>∃ l xs y,x=.ref l/\vs=[y]/\H l=some (.lst xs)/\xs.length<sizeLine/\Q .non (upd H l (.lst (xs++[y])))
theorem mt_append:MtM X "list.append" rAppend:=by
  intro pins s σ H x vs v us Q I rx rv h
  obtain ⟨l,xs,y,rfl,rfl,hH,hz,q⟩:=h
  cases rx
  obtain ⟨u,rfl,ru⟩:=rv.one
  obtain ⟨z,its,n,r,hl,e⟩:=I.lstM hH
  refine call_meets F.slot_list_append ⟨_,e,rfl⟩ F.entry_list_append (F.args_list_append_2 _ _) (PySem.list_append l its.toArray n u (by rw [List.size_toArray];omega)) ⟨e,?_⟩
  refine⟨.non,_,I.lset (its':=its++[u]) hH e (by simp) (r.append (.cons ru .nil)) ?_,rfl,q⟩
  rw [List.length_append,List.length_singleton]
  omega
def rExtend:V->List V->Hp->VK->Prop:=fun x vs H Q=>∃ l b xs zs,x=.ref l/\vs=[.ref b]/\H l=some (.lst xs)/\H b=some (.lst zs)/\xs.length+zs.length<=sizeLine/\Q .non (upd H l (.lst (xs++zs)))
theorem mt_extend:MtM X "list.extend" rExtend:=by
  intro pins s σ H x vs v us Q I rx rv h
  obtain ⟨l,b,xs,zs,rfl,rfl,hH,hB,hz,q⟩:=h
  cases rx
  obtain ⟨u,rfl,ru⟩:=rv.one
  cases ru
  obtain ⟨z,its,n,r,hl,e⟩:=I.lstM hH
  obtain ⟨z2,its2,n2,r2,hl2,e2⟩:=I.lstM hB
  have hsz:its.toArray.size+its2.toArray.size<=sizeLine:=by rw [List.size_toArray,List.size_toArray];omega
  have hlong:¬ (!its.toArray.isEmpty&&Builtin.List.listTooLong (its.toArray.size+its2.toArray.size))=true:=by
    rw [notLongL hsz,Bool.and_false]
    exact Bool.false_ne_true
  refine call_meets F.slot_list_extend ⟨_,e,rfl⟩ F.entry_list_extend (F.args_list_extend_2 _ _)
    (AutoSeq1.list_extend_list_list_0 l its.toArray n b its2.toArray n2 hlong (by rw [List.size_toArray];omega) (by omega)) ⟨e,e2,?_⟩
  refine⟨.non,_,I.lset (its':=its++its2) hH e (by simp) (r.append r2) ?_,rfl,q⟩
  rw [List.length_append]
  omega
def rReverse:V->List V->Hp->VK->Prop:=fun x vs H Q=>∃ l xs,x=.ref l/\vs=[]/\H l=some (.lst xs)/\Q .non (upd H l (.lst xs.reverse))
theorem mt_reverse:MtM X "list.reverse" rReverse:=by
  intro pins s σ H x vs v us Q I rx rv h
  obtain ⟨l,xs,rfl,rfl,hH,q⟩:=h
  cases rx
  have hus:=rv.zero
  subst hus
  obtain ⟨z,its,n,r,hl,e⟩:=I.lstM hH
  refine call_meets F.slot_list_reverse ⟨_,e,rfl⟩ F.entry_list_reverse (F.args_list_reverse_1 _) (AutoSeq1.list_reverse_list_0 l its.toArray n (by rw [List.size_toArray];omega)) ⟨e,?_⟩
  refine⟨.non,_,I.lset (its':=its.reverse) hH e (by simp) r.reverse ?_,rfl,q⟩
  rw [List.length_reverse]
  omega
def rCat:R2:=fun x y H Q=>∃ l b xs zs,x=.ref l/\y=.ref b/\H l=some (.lst xs)/\H b=some (.lst zs)/\xs.length+zs.length<=sizeLine/\∀ p,H p=none->Q (.ref p) (upd H p (.lst (xs++zs)))
theorem op_cat:OpR X (binaryOp .Add) rCat:=by
  intro pins s σ H x y v u Q I rx ry h
  obtain ⟨l,b,xs,zs,rfl,rfl,hH,hB,hz,q⟩:=h
  cases rx
  cases ry
  obtain ⟨z,its,n,r,hl,e⟩:=I.lstM hH
  obtain ⟨z2,its2,n2,r2,hl2,e2⟩:=I.lstM hB
  refine PySem.P.add_list e e2 ?_ (by rw [List.size_toArray,List.size_toArray];omega)
  have ea:its.toArray++its2.toArray=(its++its2).toArray:=by simp
  rw [ea]
  exact⟨.ref _,_,I.lnew (t':=s.toks) (r.append r2) (by rw [List.length_append];omega),rfl,q _ I.fresh⟩
end
end L2
namespace L2
open PySem PySem.Spec PyProof.Rows
theorem vals_of_ints:∀ {us:List Value}{ns:List Int},IntsAre us ns->Vals (ns.map V.int) us
  | _,_,.nil=>by rw [List.map_nil];exact Paired.nil
  | _,_,.cons n t h=>by rw [List.map_cons];exact Paired.cons (show RelV (V.int n) (Value.int n t) from ⟨t,rfl⟩) (vals_of_ints h)
mutual
inductive Dp (K:PySem.W.Frag) (H:Hp):V->PyData->Prop
  | non:Dp K H .non .none
  | bl (b:Bool):Dp K H (.bl b) (.bool b)
  | int (i:Int):Dp K H (.int i) (.int i)
  | str (x:Str):Dp K H (.str x) (.str x)
  | lst {a:Addr}{xs:List V}{ds:List PyData}:SqL K H a xs->DpAll K H xs ds->Dp K H (.ref a) (.list ds)
  | tup {a:Addr}{xs:List V}{ds:List PyData}:SqT K H a xs->DpAll K H xs ds->Dp K H (.ref a) (.tuple ds)
inductive DpAll (K:PySem.W.Frag) (H:Hp):List V->List PyData->Prop
  | nil:DpAll K H [] []
  | cons {v:V}{vs:List V}{d:PyData}{ds:List PyData}:Dp K H v d->DpAll K H vs ds->DpAll K H (v::vs) (d::ds)
end
section
variable {X:Cx}{pins:List (Addr × Obj)}{σ:St}{H:Hp}{s:Shared}
mutual
theorem Dp.reads (I:Inv X pins σ H s):∀ (d:PyData) (v:V) (u:Value),Dp X.K H v d->RelV v u->∃ as,Reads s.heap u d as
  | .none,_,_,h,r=>by
    cases h
    cases r
    exact⟨_,Reads.none⟩
  | .bool b,_,_,h,r=>by
    cases h
    cases r
    exact⟨_,Reads.bool b⟩
  | .int i,_,_,h,r=>by
    cases h
    obtain ⟨t,rfl⟩:=r
    exact⟨_,Reads.int i t⟩
  | .str x,_,_,h,r=>by
    cases h
    obtain ⟨t,rfl⟩:=r
    exact⟨_,Reads.str x t⟩
  | .list ds,_,_,h,r=>by
    cases h with
    | lst hs ha=>
      cases r
      obtain ⟨its,rv,⟨o,n,ho,hc,_,hd⟩,_⟩:=I.list hs
      obtain ⟨as,hr⟩:=Dp.readsAll I ds _ its ha rv
      exact⟨_,Reads.list ho hc hd hr⟩
  | .tuple ds,_,_,h,r=>by
    cases h with
    | tup hs ha=>
      cases r
      obtain ⟨its,rv,⟨o,ho,hc,n,hd⟩,_⟩:=I.tuple hs
      obtain ⟨as,hr⟩:=Dp.readsAll I ds _ its ha rv
      exact⟨_,Reads.tuple ho hc hd hr⟩
  | .dict _,_,_,h,_=>by cases h
theorem Dp.readsAll (I:Inv X pins σ H s):∀ (ds:List PyData) (vs:List V) (us:List Value),DpAll X.K H vs ds->Vals vs us->∃ as,ReadsAll s.heap us ds as
  | [],_,_,h,r=>by
    cases h
    cases r
    exact⟨_,ReadsAll.nil⟩
  | d::ds,_,_,h,r=>by
    cases h with
    | cons h1 h2=>
      cases r with
      | cons r1 r2=>
        obtain ⟨as,q1⟩:=Dp.reads I d _ _ h1 r1
        obtain ⟨bs,q2⟩:=Dp.readsAll I ds _ _ h2 r2
        exact⟨_,ReadsAll.cons q1 q2⟩
end
end
section
variable {X:Cx}
def rEqD (K:PySem.W.Frag):R2:=fun x y H Q=>∃ d e,Dp K H x d/\Dp K H y e/\SeqAt.shaped d=true/\SeqAt.shaped e=true/\Q (.bl (PyData.eqv d e)) H
theorem op_eqD (hu:X.A.units+64<cLine):OpR X (compareOp .Eq) (rEqD X.K):=by
  intro pins s σ H x y v u Q I rx ry h
  obtain ⟨d,e,hd,he,sd,se,q⟩:=h
  obtain ⟨as,r1⟩:=Dp.reads I d x v hd rx
  obtain ⟨bs,r2⟩:=Dp.reads I e y u he ry
  exact SeqAt.compareEq_shaped r1 r2 sd se hu ⟨.bl _,H,I,rfl,q⟩
end
end L2
namespace L2
open PySem PySem.Spec PyProof.Rows
abbrev CellAt (h:Heap) (c:Addr) (v:Option Value):Prop:=h.IsCell c v
def relS (scope sc:Scope):Scope:=
  { scope with names:=scope.names.map fun (n,k)=>if (k==.free&&sc.kind==.function&&sc.names.lookup n==some .cell) then (n,.cell) else (n,k) }
def cloFrom (cells:List (Str × Addr)):List (Str × NameKind)->List (Str × Addr)->List (Str × Addr)
  | [],acc=>acc
  | (n,k)::r,acc=>if k==.free then cloFrom cells r ((n,(cells.lookup n).getD 0)::acc) else cloFrom cells r acc
theorem closure_loop (env:Env) (f:Str × NameKind->List (Str × Addr)->Sem (ForInStep (List (Str × Addr))))
    (hf:∀ n k c,f (n,k) c=if k==.free then (do let a <- cellOf env n;pure (.yield ((n,a)::c))) else pure (.yield c)) :
    ∀ (names:List (Str × NameKind)) (acc:List (Str × Addr)),(∀ y∈names,y.2=.free->∃ c,env.cells.lookup y.1=some c)->forIn names acc f=pure (cloFrom env.cells names acc)
  | [],acc,_=>by rw [List.forIn_nil];rfl
  | (n,k)::r,acc,h=>by
    rw [List.forIn_cons,hf]
    have ih:=fun acc=>closure_loop env f hf r acc fun y hy=>h y (List.mem_cons_of_mem _ hy)
    unfold cloFrom
    by_cases hk:(k==NameKind.free)=true
    · rw [if_pos hk,if_pos hk]
      obtain ⟨c,hc⟩:=h (n,k) List.mem_cons_self (by simpa using hk)
      have e:cellOf env n=pure c:=by unfold cellOf;rw [hc]
      rw [e]
      have e2:(env.cells.lookup n).getD 0=c:=by rw [hc];rfl
      rw [e2]
      exact ih _
    · rw [if_neg hk,if_neg hk]
      exact ih _
theorem closure_ok {scope:Scope}{env:Env} (h:∀ y∈scope.names,y.2=.free->∃ c,env.cells.lookup y.1=some c):closureFor scope env=pure (cloFrom env.cells scope.names []):=by
  simp only [closureFor]
  rw [closure_loop env _ (fun n k c=>rfl) scope.names [] h]
  rfl
theorem mem_lookup {α:Type}:∀ {l:List (Str × α)}{n:Str}{c:α},(n,c)∈l->∃ c',l.lookup n=some c'
  | (k,v)::r,n,c,h=>by
    rw [List.lookup_cons]
    cases hb:n==k with
    | true=>exact⟨_,rfl⟩
    | false=>
      rcases List.mem_cons.mp h with e | h
      · cases e;simp at hb
      · exact mem_lookup h
theorem cloFrom_mem {cells:List (Str × Addr)}:∀ {names:List (Str × NameKind)}{acc:List (Str × Addr)}{n:Str}{c:Addr},(n,c)∈cloFrom cells names acc->(n,c)∈acc \/ ((n,.free)∈names/\c=(cells.lookup n).getD 0)
  | [],_,_,_,h=>.inl h
  | (m,k)::r,acc,n,c,h=>by
    unfold cloFrom at h
    split at h
    · rename_i hk
      have hk:k=.free:=by simpa using hk
      rcases cloFrom_mem h with h | ⟨h1,h2⟩
      · rcases List.mem_cons.mp h with e | h
        · cases e;exact .inr ⟨hk ▸ List.mem_cons_self,rfl⟩
        · exact .inl h
      · exact .inr ⟨List.mem_cons_of_mem _ h1,h2⟩
    · rcases cloFrom_mem h with h | ⟨h1,h2⟩
      · exact .inl h
      · exact .inr ⟨List.mem_cons_of_mem _ h1,h2⟩
theorem cloFrom_acc {cells:List (Str × Addr)}:∀ {names:List (Str × NameKind)}{acc:List (Str × Addr)}{p:Str × Addr},p∈acc->p∈cloFrom cells names acc
  | [],_,_,h=>h
  | (m,k)::r,acc,p,h=>by
    unfold cloFrom
    split
    · exact cloFrom_acc (List.mem_cons_of_mem _ h)
    · exact cloFrom_acc h
theorem cloFrom_has {cells:List (Str × Addr)}:∀ {names:List (Str × NameKind)}{acc:List (Str × Addr)}{n:Str},(n,.free)∈names->(n,(cells.lookup n).getD 0)∈cloFrom cells names acc
  | (m,k)::r,acc,n,h=>by
    unfold cloFrom
    rcases List.mem_cons.mp h with e | h
    · cases e
      exact cloFrom_acc List.mem_cons_self
    · split
      · exact cloFrom_has h
      · exact cloFrom_has h
theorem cells_mem:∀ {names:List (Str × NameKind)}{h:Heap}{acc:List (Str × Addr)}{x:Str}{c:Addr},(x,c)∈cellsFrom h.objs.size names acc ->
    (x,c)∈acc \/ ((x,.cell)∈names/\h.objs.size<=c/\CellAt (pushCells h names) c none)
  | [],_,_,_,_,h=>.inl h
  | (n,k)::r,h,acc,x,c,hm=>by
    unfold cellsFrom at hm
    unfold pushCells
    split at hm
    · rename_i hk
      rw [if_pos hk]
      have hk:k=.cell:=by simpa using hk
      rw [<- Heap.size_push h { cls:=.type "cell",data:=.cell none }] at hm
      rcases cells_mem hm with hm | ⟨h1,h2,h3⟩
      · rcases List.mem_cons.mp hm with e | hm
        · cases e
          exact .inr ⟨hk ▸ List.mem_cons_self,Nat.le_refl _,_,pushCells_keeps r _ _ _ (Heap.get?_push_size _ rfl),rfl⟩
        · exact .inl hm
      · rw [Heap.size_push] at h2
        exact .inr ⟨List.mem_cons_of_mem _ h1,Nat.le_of_succ_le h2,h3⟩
    · rename_i hk
      rw [if_neg hk]
      rcases cells_mem hm with hm | ⟨h1,h2,h3⟩
      · exact .inl hm
      · exact .inr ⟨List.mem_cons_of_mem _ h1,h2,h3⟩
theorem cells_acc:∀ {names:List (Str × NameKind)}{n:Nat}{acc:List (Str × Addr)}{p:Str × Addr},p∈acc->p∈cellsFrom n names acc
  | [],_,_,_,h=>h
  | (m,k)::r,n,acc,p,h=>by
    unfold cellsFrom
    split
    · exact cells_acc (List.mem_cons_of_mem _ h)
    · exact cells_acc h
theorem cells_has:∀ {names:List (Str × NameKind)}{n:Nat}{acc:List (Str × Addr)}{x:Str},(x,.cell)∈names->∃ c,(x,c)∈cellsFrom n names acc
  | (m,k)::r,n,acc,x,h=>by
    unfold cellsFrom
    rcases List.mem_cons.mp h with e | h
    · cases e
      exact⟨n,cells_acc List.mem_cons_self⟩
    · split
      · exact cells_has h
      · exact cells_has h
theorem cells_inj:∀ {names:List (Str × NameKind)}{h:Heap}{acc:List (Str × Addr)}{x y:Str}{c:Addr},(∀ p∈acc,p.2<h.objs.size)->(∀ x y c,(x,c)∈acc->(y,c)∈acc->x=y) ->
    (x,c)∈cellsFrom h.objs.size names acc->(y,c)∈cellsFrom h.objs.size names acc->x=y
  | [],_,_,_,_,_,_,hi,h1,h2=>hi _ _ _ h1 h2
  | (n,k)::r,h,acc,x,y,c,hl,hi,h1,h2=>by
    unfold cellsFrom at h1 h2
    split at h1
    · rename_i hk
      rw [if_pos hk] at h2
      rw [<- Heap.size_push h { cls:=.type "cell",data:=.cell none }] at h1 h2
      refine cells_inj (h:=h.push _) (fun p hp=>?_) (fun x y c a b=>?_) h1 h2
      · rw [Heap.size_push]
        rcases List.mem_cons.mp hp with rfl | hp
        · exact Nat.lt_succ_self _
        · exact Nat.lt_succ_of_lt (hl p hp)
      · rcases List.mem_cons.mp a with e | a <;> rcases List.mem_cons.mp b with e' | b
        · cases e;cases e';rfl
        · cases e;exact absurd (hl _ b) (Nat.lt_irrefl _)
        · cases e';exact absurd (hl _ a) (Nat.lt_irrefl _)
        · exact hi _ _ _ a b
    · rename_i hk
      rw [if_neg hk] at h2
      exact cells_inj hl hi h1 h2
theorem newEnv_comp {M:Model}{A:Around}{E:Value->Shared->Prop}{s:Shared}{scope:Scope}{globals:Addr}{closure:List (Str × Addr)}{qual:Str}{func:Option Addr}{code:Value}{around:Env}{builtins:Addr}{Q:Env->Shared->Prop}
    (h:Q (newEnv scope s.heap.objs.size globals (cellsFrom (s.heap.objs.size+1) scope.names closure) qual func code (some around) builtins)
      { s with heap:=pushCells (s.heap.push { cls:=.type "dict",data:=.dict #[] }) scope.names }) :
    wpAny M A (newFunctionEnv scope globals closure [] qual func code (some around) builtins) Q E s:=by
  simp only [newFunctionEnv,Option.isSome_some,if_true]
  refine wpAny_bind (wpAny_alloc ?_)
  refine wpAny_bind (wpAny_layCells _ (fun n k c=>rfl) scope.names closure _ _ ?_)
  rw [show ({ s with heap:=s.heap.push { cls:=.type "dict",data:=.dict #[] } }:Shared).heap.objs.size=s.heap.objs.size+1 from Heap.size_push ..]
  rw [List.forIn_nil]
  exact wpAny_bind (wpAny_pure (wpAny_pure h))
theorem lookup_relS {sc:Scope}:∀ {names:List (Str × NameKind)}{x:Str}{k:NameKind},
    (names.map fun (n,k)=>if (k==NameKind.free&&sc.kind==.function&&sc.names.lookup n==some .cell) then (n,NameKind.cell) else (n,k)).lookup x=some k ->
    ∃ k',names.lookup x=some k'/\(k=k' \/ (k'=.free/\k=.cell))
  | [],_,_,h=>by simp at h
  | (n,k₀)::r,x,k,h=>by
    have ih:=@lookup_relS sc r x k
    have h':List.lookup x ((if (k₀==NameKind.free&&sc.kind==.function&&sc.names.lookup n==some .cell)=true then (n,NameKind.cell) else (n,k₀))::(r.map _))=some k:=h
    cases hx:x==n with
    | true=>
      simp only [List.lookup_cons,hx]
      by_cases hc:(k₀==NameKind.free&&sc.kind==.function&&sc.names.lookup n==some .cell)=true
      · rw [if_pos hc] at h'
        simp only [List.lookup_cons,hx] at h'
        cases h'
        simp only [Bool.and_eq_true,beq_iff_eq] at hc
        exact⟨k₀,rfl,.inr ⟨hc.1.1,rfl⟩⟩
      · rw [if_neg hc] at h'
        simp only [List.lookup_cons,hx] at h'
        cases h'
        exact⟨_,rfl,.inl rfl⟩
    | false=>
      simp only [List.lookup_cons,hx]
      by_cases hc:(k₀==NameKind.free&&sc.kind==.function&&sc.names.lookup n==some .cell)=true
      · rw [if_pos hc] at h'
        simp only [List.lookup_cons,hx] at h'
        exact ih h'
      · rw [if_neg hc] at h'
        simp only [List.lookup_cons,hx] at h'
        exact ih h'
structure BlkOk (N:List Str) (sc scope:Scope) (own:List (Str × Nat)):Prop where
  kind:scope.kind=.function
  uniq:∀ y∈scope.names,scope.names.lookup y.1=some y.2
  ix:∀ p∈own,N[p.2]?=some p.1
  free:∀ y∈scope.names,y.2=.free->sc.names.lookup y.1=some .cell \/ sc.names.lookup y.1=some .free
  own:∀ y∈scope.names,y.2=.local \/ y.2=.cell->y.1∈own.map (·.1) \/ y.1 ∉ N
def wipe (σ:St):List Nat->St
  | []=>σ
  | v::vs=>(wipe σ vs).set v none
theorem wipe_length (σ:St):∀ vs:List Nat,(wipe σ vs).length=σ.length
  | []=>rfl
  | v::vs=>by unfold wipe;rw [List.length_set,wipe_length σ vs]
theorem wipe_some {σ:St}{i:Nat}{x:V}:∀ {vs:List Nat},(wipe σ vs)[i]?=some (some x)->σ[i]?=some (some x)/\i ∉ vs
  | [],h=>⟨h,by simp⟩
  | v::vs,h=>by
    unfold wipe at h
    by_cases hi:v=i
    · subst hi
      by_cases hv:v<(wipe σ vs).length
      · rw [List.getElem?_set_self hv] at h;cases h
      · rw [List.getElem?_eq_none (by simpa using hv)] at h;cases h
    · rw [List.getElem?_set_ne hi] at h
      obtain ⟨h1,h2⟩:=wipe_some h
      exact⟨h1,by simp only [List.mem_cons,not_or];exact⟨fun e=>hi e.symm,h2⟩⟩
abbrev Cx.blk (X:Cx) (s:Shared) (H:Hp) (scope:Scope) (cenv:Env) (fp:List Addr):Cx:={ X with s_0:=s,H_0:=H,env:=cenv,outer:=X.stack,ex:=fp,fn:=fun x=>scope.names.lookup x==some .cell,pn:=[],xe:=fun _ _=>False }
section
variable {X:Cx}{pins:List (Addr × Obj)}{σ:St}{H:Hp}{s:Shared}
theorem block_start {scope:Scope}{own:List (Str × Nat)}{fp:List Addr} (I:Inv X pins σ H s) (ok:BlkOk X.N X.env.scope scope own) (hN:X.N.Nodup) (hfp:∀ b∈fp,FpOk X pins H b/\b<s.heap.objs.size) :
    Inv (X.blk s H scope (compEnvC scope (cellsFrom (s.heap.objs.size+1) scope.names (cloFrom X.env.cells scope.names [])) s.heap.objs.size X.env) fp) [] (wipe σ (own.map (·.2))) H { s with heap:=pushCells (s.heap.push { cls:=.type "dict",data:=.dict #[] }) scope.names }:=by
  have hfree:∀ y∈scope.names,y.2=.free->∃ c,X.env.cells.lookup y.1=some c:=fun y hy e=>by
    rcases ok.free y hy e with k | k
    · exact I.ok.has _ (.inl k)
    · exact I.ok.has _ (.inr k)
  generalize hcenv:compEnvC scope (cellsFrom (s.heap.objs.size+1) scope.names (cloFrom X.env.cells scope.names [])) s.heap.objs.size X.env=cenv
  have kp:∀ b o,s.heap.get? b=some o->(pushCells (s.heap.push { cls:=.type "dict",data:=.dict #[] }) scope.names).get? b=some o:=fun b o e=>pushCells_keeps _ _ _ _ (Heap.get?_push_of_some _ e)
  have hL:cenv.locals=s.heap.objs.size:=by rw [<- hcenv];rfl
  have hcl:cenv.cells=cellsFrom (s.heap.objs.size+1) scope.names (cloFrom X.env.cells scope.names []):=by rw [<- hcenv];rfl
  have hsc:cenv.scope=relS scope X.env.scope:=by rw [<- hcenv];rfl
  rw [<- Heap.size_push s.heap { cls:=.type "dict",data:=.dict #[] }] at hcl
  have cm:∀ {y c},(y,c)∈cloFrom X.env.cells scope.names []->X.env.cells.lookup y=some c/\c<s.heap.objs.size:=fun {y c} hm=>by
    rcases cloFrom_mem hm with hm | ⟨h1,rfl⟩
    · cases hm
    · obtain ⟨c,hc⟩:=hfree _ h1 rfl
      rw [hc]
      obtain ⟨w,z⟩:=I.cell _ _ hc
      exact⟨rfl,z.lt⟩
  have mem:∀ {y c},cenv.cells.lookup y=some c->(X.env.cells.lookup y=some c/\c<s.heap.objs.size) \/ (s.heap.objs.size+1<=c/\CellAt (pushCells (s.heap.push { cls:=.type "dict",data:=.dict #[] }) scope.names) c none):=fun {y c} e=>by
    rw [hcl] at e
    rcases cells_mem (PySem.mem_of_lookup e) with hm | ⟨_,h2,h3⟩
    · exact .inl (cm hm)
    · rw [Heap.size_push] at h2;exact .inr ⟨h2,h3⟩
  have look:∀ {y},scope.names.lookup y=some .free->∃ c,cenv.cells.lookup y=some c/\X.env.cells.lookup y=some c:=fun {y} hl=>by
    have hy:(y,NameKind.free)∈scope.names:=PySem.mem_of_lookup hl
    obtain ⟨c',e'⟩:=mem_lookup (cells_acc (names:=scope.names) (n:=(s.heap.push { cls:=.type "dict",data:=.dict #[] }).objs.size) (cloFrom_has (cells:=X.env.cells) (acc:=[]) hy))
    rw [<- hcl] at e'
    refine⟨c',e',?_⟩
    rw [hcl] at e'
    rcases cells_mem (PySem.mem_of_lookup e') with hm | ⟨h1,_,_⟩
    · exact (cm hm).1
    · have:=ok.uniq _ h1
      rw [hl] at this;cases this
  have okB:(X.blk s H scope cenv fp).Ok:=by
    refine⟨I.ok.mod,by show cenv.scope.kind=_;rw [hsc];exact ok.kind,by show cenv.globals=_;rw [<- hcenv];exact I.ok.glob,by show cenv.builtins=_;rw [<- hcenv];exact I.ok.blt,by show s.heap.objs.size<=cenv.locals;rw [hL];exact Nat.le_refl _,
      fun y z c e1 e2=>?_,fun y hy=>?_,fun y c z e=>?_,I.ok.hd,I.ok.frames,.inl rfl,fun b hb=>⟨?_,fun y c e z=>?_⟩,I.bs,Nat.le_trans I.ok.bsz I.sz,fun b o e hb=>?_,fun b hb z=>?_,I.stack,I.stkFree⟩
    · have e1:cenv.cells.lookup y=some c:=e1
      have e2:cenv.cells.lookup z=some c:=e2
      rw [hcl] at e1 e2
      refine cells_inj (fun p hp=>?_) (fun y z c a b=>I.ok.inj y z c (cm a).1 (cm b).1) (PySem.mem_of_lookup e1) (PySem.mem_of_lookup e2)
      rw [Heap.size_push]
      exact Nat.lt_succ_of_lt (cm (y:=p.1) (c:=p.2) hp).2
    · show ∃ c,cenv.cells.lookup y=some c
      have key:∀ k,cenv.kindOf y=some k->(k=.cell \/ k=.free)->∃ c,cenv.cells.lookup y=some c:=fun k hk hk'=>by
        unfold Env.kindOf at hk
        rw [hsc] at hk
        obtain ⟨k',e,r⟩:=lookup_relS hk
        have:k'=.cell \/ k'=.free:=by
          rcases r with rfl | ⟨rfl,_⟩
          · exact hk'
          · exact .inr rfl
        rcases this with rfl | rfl
        · obtain ⟨c,hm⟩:=cells_has (n:=(s.heap.push { cls:=.type "dict",data:=.dict #[] }).objs.size) (acc:=cloFrom X.env.cells scope.names []) (PySem.mem_of_lookup e)
          obtain ⟨c',e'⟩:=mem_lookup hm
          exact⟨c',by rw [hcl];exact e'⟩
        · obtain ⟨c,h1,_⟩:=look e
          exact⟨c,h1⟩
      rcases hy with hy | hy
      · exact key _ hy (.inl rfl)
      · exact key _ hy (.inr rfl)
    · have z:(scope.names.lookup y==some NameKind.cell)=true:=z
      have z:scope.names.lookup y=some .cell:=by simpa using z
      have e:cenv.cells.lookup y=some c:=e
      rw [hcl] at e
      rcases cells_mem (PySem.mem_of_lookup e) with hm | ⟨_,h2,_⟩
      · rcases cloFrom_mem hm with hm | ⟨h1,_⟩
        · cases hm
        · have q:=ok.uniq _ h1
          rw [z] at q;cases q
      · rw [Heap.size_push] at h2
        exact Nat.le_of_succ_le h2
    · show b≠cenv.locals
      rw [hL];exact Nat.ne_of_lt (hfp b hb).2
    · have e:cenv.cells.lookup y=some c:=e
      rcases mem e with ⟨h1,_⟩ | ⟨h1,_⟩
      · exact (hfp b hb).1.2.2.2.2.1 y c h1 z
      · have h2:s.heap.objs.size+1<=b:=by rw [<- z];exact h1
        exact absurd (Nat.lt_of_lt_of_le (hfp b hb).2 (Nat.le_of_succ_le h2)) (Nat.lt_irrefl _)
    · rcases (hfp b hb).1.2.2.2.1 with z | z
      · exact I.ok.noex b o e z
      · exact absurd (Nat.lt_of_lt_of_le (Heap.lt_size e) (Nat.le_trans I.ok.bsz z)) (Nat.lt_irrefl _)
    · rcases List.mem_cons.mp (I.stkSub b z) with z | z
      · exact (hfp b hb).1.2.1 z
      · exact (hfp b hb).1.2.2.1 z
  refine⟨okB,rfl,I.bare,Un.kept kp,⟨fun _=>none,?_,fun i y av e1 e2 e3=>?_⟩,fun y c e=>?_,?_,fun y c e=>?_,fun p hp=>?_,I.hok.kept kp,by rw [wipe_length];exact I.len⟩
  · show Heap.Ns _ cenv.locals _
    rw [hL]
    exact Heap.Ns.keeps (Heap.Ns.new ..) fun b o e=>pushCells_keeps _ _ _ _ e
  · obtain ⟨e2,hne⟩:=wipe_some e2
    have hfr:scope.names.lookup y=some .free/\(cenv.kindOf y=some .cell \/ cenv.kindOf y=some .free):=by
      have key:∀ k,cenv.scope.names.lookup y=some k->k=.local \/ k=.cell \/ k=.free->scope.names.lookup y=some .free/\(cenv.kindOf y=some .cell \/ cenv.kindOf y=some .free):=fun k hk hk'=>by
        have hk0:=hk
        rw [hsc] at hk
        obtain ⟨k',e,r⟩:=lookup_relS hk
        have no:¬ (k'=.local \/ k'=.cell):=fun hh=>by
          rcases ok.own _ (PySem.mem_of_lookup e) hh with e' | e'
          · obtain ⟨p,hp,hpy⟩:=List.mem_map.mp e'
            have e3:=ok.ix p hp
            have:p.1=y:=hpy
            rw [this] at e3
            exact hne (List.mem_map.mpr ⟨p,hp,nodup_ix hN e3 e1⟩)
          · exact e' (List.mem_of_getElem? e1)
        rcases r with rfl | ⟨rfl,rfl⟩
        · rcases hk' with rfl | rfl | rfl
          · exact absurd (.inl rfl) no
          · exact absurd (.inr rfl) no
          · exact⟨e,.inr hk0⟩
        · exact⟨e,.inl hk0⟩
      have e3:Vis cenv.scope y:=e3
      rcases e3 with e3 | e3 | e3
      · exact key _ e3 (.inl rfl)
      · exact key _ e3 (.inr (.inl rfl))
      · exact key _ e3 (.inr (.inr rfl))
    obtain ⟨m,hn,hl⟩:=I.loc
    have hvis:Vis X.env.scope y:=(ok.free _ (PySem.mem_of_lookup hfr.1) rfl).elim (fun k=>.inr (.inl k)) (fun k=>.inr (.inr k))
    obtain ⟨w,r,q⟩:=hl i y av e1 e2 hvis
    refine⟨w,r,.inr ⟨hfr.2,?_⟩⟩
    obtain ⟨c,h1,h2⟩:=look hfr.1
    rcases q with ⟨k,_⟩ | ⟨_,c',e',z⟩
    · have k:X.env.scope.names.lookup y=some .local:=k
      rcases ok.free _ (PySem.mem_of_lookup hfr.1) rfl with k' | k' <;> rw [show X.env.scope.names.lookup y=_ from k'] at k <;> cases k
    · rw [h2] at e';cases e'
      exact⟨c,h1,z.keeps kp⟩
  · have e:cenv.cells.lookup y=some c:=e
    rcases mem e with ⟨h1,_⟩ | ⟨_,z⟩
    · obtain ⟨w,z⟩:=I.cell y c h1
      exact⟨w,z.keeps kp⟩
    · exact⟨_,z⟩
  · show H cenv.locals=none
    rw [hL];exact I.hok.fresh (Nat.le_refl _)
  · have e:cenv.cells.lookup y=some c:=e
    rcases mem e with ⟨h1,_⟩ | ⟨h1,_⟩
    · exact I.freeC y c h1
    · exact I.hok.fresh (Nat.le_of_succ_le h1)
  · exact absurd (show p∈([]:List (Addr × Obj))++[] from hp) (by simp)
theorem app_ok {E:Value->Shared->Prop}{D:Addr}{xs:List V}{y:V}{v:Value}{Q:Value->Shared->Prop} (I:Inv X pins σ H s) (hD:H D=some (.lst xs)) (hz:xs.length<sizeLine) (r:RelV y v)
    (h:∀ s',Inv X pins σ (upd H D (.lst (xs++[y]))) s'->Q .none s'):wpAny (model X.prog X.w) X.A (call (.builtin "list.append") [.ref D,v]) Q E s:=by
  obtain ⟨hz',its,n,ri,e⟩:=I.hok D _ hD
  have hl:=ri.length
  refine append_at (hsz:=by rw [List.size_toArray];omega) e fun h' sb ho'=>?_
  refine h { s with heap:=h' } (I.write (t':=s.toks) (by rw [hD];trivial) (.inl rfl) (fun b u hb q=>(sb.2 b hb).trans q) ⟨_,ho'⟩ ⟨by rw [List.length_append];exact hz,its++[v],n+1,ri.append (.cons r .nil),?_⟩)
  rw [ho']
  simp
def PTs (X:Cx) (ifs:List Expr) (t:TT):Prop:=
  ∀ (pins:List (Addr × Obj)) (s:Shared) (σ:St) (H:Hp) (Q:Bool->Hp->Prop),Inv X pins σ H s->t σ H Q ->
    wpAny (model X.prog X.w) X.A (forIn ifs true fun c r=>if r=true then do let ok <- isTrue c X.env (eval c X.env);pure (ForInStep.yield ok) else pure (ForInStep.yield r)) (TP X pins σ Q) X.xe s
def tYes:TT:=fun _ H Q=>Q true H
theorem pts_nil:PTs X [] tYes:=fun _ _ _ H _ I h=>wpAny_tests_nil ⟨H,I,h⟩
theorem pts_one {c:Expr}{t:TT} (h:PT X c t):PTs X [c] t:=fun pins s σ H Q I hw=>wpAny_tests_one (h pins s σ H Q I hw)
end
theorem thnF {α:Type}{t:Sem α}{Q Q':α->Shared->Prop}{M:Model}{A:Around}{E:Value->Shared->Prop}{s:Shared} (h:wpAny M A t Q (fun _ _=>False) s) (hQ:∀ a s,Q a s->Q' a s):wpAny M A t Q' E s:=wpAny_mono h hQ fun _ _ z=>False.elim z
theorem compLoop_any {prog:Program}{w:World}{A:Around}{R:Result->Shared->Prop}{s:Shared}{elt target iter:Expr}{ifs:List Expr}{scope:Scope}{pos:Pos}{it acc:Value}{env:Env} (I:Nat->Shared->Prop)
    (turn:∀ n s,I n s->wpAny (model prog w) A (pyNext it) (fun r s₁=>match r with
      | none=>R (.ok .next) s₁
      | some v=>wpAny (model prog w) A (letOwnedTupleGo target it v) (fun _ s₁'=>wpAny (model prog w) A (assign target env v) (fun _ s₂=>
          wpAny (model prog w) A (forIn ifs true fun c r=>if r=true then do let ok <- isTrue c env (eval c env);pure (ForInStep.yield ok) else pure (ForInStep.yield r)) (fun ok s₃=>
            if ok=true then wpAny (model prog w) A (eval elt env) (fun x s₄=>
              wpAny (model prog w) A (call (.builtin "list.append") [acc,x]) (fun _ s₅=>∃ m,m<n/\I m s₅) (notedBy (model prog w) A env fun e s'=>R (.error e) s') s₄) (notedBy (model prog w) A env fun e s'=>R (.error e) s') s₃
            else ∃ m,m<n/\I m s₃) (notedBy (model prog w) A env fun e s'=>R (.error e) s') s₂) (notedBy (model prog w) A env fun e s'=>R (.error e) s') s₁') (notedBy (model prog w) A env fun e s'=>R (.error e) s') s₁) (notedBy (model prog w) A env fun e s'=>R (.error e) s') s)
    (n:Nat) (h:I n s) :
    codeAny (model prog w) A (.compLoop (.ListComp elt [⟨target,iter,ifs,0⟩] scope pos) 0 it acc env) R s:=by
  refine codeAny_loop rfl I (fun n s hI=>?_) n h
  show wpAny _ A ((compTurn (.ListComp elt [⟨target,iter,ifs,0⟩] scope pos) 0 it acc env).onRaise (fun x=>do noteFrame x env;theTreesLotGoes x)) _ _ s
  refine wpAny_noted ?_
  rw [compTurn_list]
  refine wpAny_bind (wpAny_standAt (wpAny_bind (wpAny_mono (turn n s hI) (fun r s₁ h₁=>?_) fun _ _ h'=>h')))
  cases r with
  | none=>exact wpAny_pure h₁
  | some v=>
    refine wpAny_bind (wpAny_mono h₁ (fun _ s₁' h₁'=>?_) fun _ _ h'=>h')
    refine wpAny_bind (wpAny_mono h₁' (fun _ s₂ h₂=>wpAny_bind (wpAny_mono h₂ (fun ok s₃ h₃=>?_) fun _ _ h'=>h')) fun _ _ h'=>h')
    cases ok with
    | false=>exact wpAny_pure ⟨rfl,h₃⟩
    | true=>
      exact wpAny_bind (wpAny_bind (wpAny_mono h₃ (fun x s₄ h₄=>wpAny_bind (wpAny_mono h₄ (fun _ s₅ h₅=>wpAny_pure (wpAny_pure ⟨rfl,h₅⟩)) fun _ _ h'=>h')) fun _ _ h'=>h'))
section
variable {X:Cx}
def tLc (wi:TI) (g:TG) (tt:TT) (te:TE) (vs:List Nat):TE:=fun σ H Q=>wi σ H fun J H1=>∀ D,H1 D=none->∃ W:Nat->Nat->Hp->Prop,(∃ m,W 0 m (upd H1 D (.lst [])))/\∀ i m H,W i m H ->
  (J.stop i H/\Q (.ref D) H) \/ (J.go i H/\∃ Nx:Hp->Prop,(∀ H',Nx H'->∃ m',m'<m/\W (i+1) m' H')/\∀ x H',J.yld i H x H'->g x (wipe σ vs) H' fun σ2 H2=>wipe σ2 vs=wipe σ vs/\tt σ2 H2 fun b H3=>
    if b=true then te σ2 H3 fun y H4=>∃ acc,H4 D=some (.lst acc)/\acc.length<sizeLine/\Nx (upd H4 D (.lst (acc++[y]))) else Nx H3)
theorem lc_core {pins:List (Addr × Obj)}{s:Shared}{σ:St}{H:Hp}{Q:VK}{elt tg iter:Expr}{ifs:List Expr}{scope:Scope}{own:List (Str × Nat)}{pos pos':Pos}{wi:TI}{g:TG}{tt:TT}{te:TE}{use:Option (Value->Sem Unit)}{Qf:Value->Shared->Prop}
    (hc:X.calm=true) (hN:X.N.Nodup) (I:Inv X pins σ H s) (hi:PI X tg iter wi) (ok:BlkOk X.N X.env.scope scope own)
    (hg:∀ (s:Shared) (H:Hp) (C:Addr) (cl:List (Str × Addr)) (fp:List Addr),PG (X.blk s H scope (compEnvC scope cl C X.env) fp) tg g) (ht:∀ (s:Shared) (H:Hp) (C:Addr) (cl:List (Str × Addr)) (fp:List Addr),PTs (X.blk s H scope (compEnvC scope cl C X.env) fp) ifs tt)
    (he:∀ (s:Shared) (H:Hp) (C:Addr) (cl:List (Str × Addr)) (fp:List Addr),PE (X.blk s H scope (compEnvC scope cl C X.env) fp) elt te) (hs:∀ x,foldedSetIterable iter X.env x=pure x)
    (h:tLc wi g tt te (own.map (·.2)) σ H Q)
    (hRR:∀ D C s' m H',Inv X pins σ H' s'->Q (.ref D) H'->s'.heap.Ns C m->FpOk X pins H' C->compPost (model X.prog X.w) X.A X.xe use Qf (.ref D) C (.ok .next) s') :
    wpAny (model X.prog X.w) X.A (comprehension (.ListComp elt [⟨tg,iter,ifs,0⟩] scope pos) scope X.env pos' (newList []) false (eval iter X.env) use) Qf X.xe s:=by
  have hfree:∀ y∈scope.names,y.2=.free->∃ c,X.env.cells.lookup y.1=some c:=fun y hy e=>by
    rcases ok.free y hy e with k | k
    · exact I.ok.has _ (.inl k)
    · exact I.ok.has _ (.inr k)
  refine wpAny_comprehension_free (use:=use) rfl hs (closure_ok hfree) ok.kind (fun y hy e=>by rw [ok.uniq y hy,e])
    (thn (hi pins s σ H _ I h) fun xv s1 hx=>thn hx fun itv s2 h2=>?_)
  obtain ⟨it,fp,tn,J,H2,e,I2,T,st2,f2,q⟩:=h2
  subst e
  refine wpAny_newObj_type (newEnv_comp ?_) (by show 0<=sizeLine;decide)
  generalize hD:s2.heap.objs.size=D
  have hDn:H2 D=none:=I2.hok.fresh (Nat.le_of_eq hD)
  obtain ⟨W,⟨m0,w0⟩,turn⟩:=q D hDn
  generalize hs3:({ s2 with heap:=s2.heap.push { cls:=.type "list",data:=.seq ([]:List Value).toArray } }:Shared)=s3
  have I3:Inv X pins σ (upd H2 D (.lst [])) s3:=by
    rw [<- hs3]
    refine I2.laid (t':=s2.toks) (fun b o e=>Heap.get?_push_of_some _ e) (Nat.le_of_eq hD) ⟨Nat.zero_le _,[],0,.nil,?_⟩
    rw [<- hD]
    exact Heap.get?_push_size _ rfl
  have h3:s3.heap=s2.heap.push { cls:=.type "list",data:=.seq ([]:List Value).toArray }:=by rw [<- hs3]
  have sz:∀ b∈fp,b<s2.heap.objs.size:=fun b hb=>by
    obtain ⟨o,e,_⟩:=T.obj _ _ st2 b hb
    exact Heap.lt_size e
  have f3:∀ b∈fp,FpOk X pins (upd H2 D (.lst [])) b/\b<s3.heap.objs.size:=fun b hb=>by
    have hlt:=sz b hb
    refine⟨⟨?_,(f2 b hb).2⟩,by rw [h3,Heap.size_push];exact Nat.lt_succ_of_lt hlt⟩
    rw [upd_ne (by rw [<- hD];exact Nat.ne_of_lt hlt)]
    exact (f2 b hb).1
  have st3:tn 0 s3.heap:=T.keep _ _ _ st2 fun b _ o e=>by rw [h3];exact Heap.get?_push_of_some _ e
  have I4:=block_start I3 ok hN f3
  have pg:=hg s3 (upd H2 D (.lst [])) s3.heap.objs.size (cellsFrom (s3.heap.objs.size+1) scope.names (cloFrom X.env.cells scope.names [])) fp
  have pt:=ht s3 (upd H2 D (.lst [])) s3.heap.objs.size (cellsFrom (s3.heap.objs.size+1) scope.names (cloFrom X.env.cells scope.names [])) fp
  have pe:=he s3 (upd H2 D (.lst [])) s3.heap.objs.size (cellsFrom (s3.heap.objs.size+1) scope.names (cloFrom X.env.cells scope.names [])) fp
  show codeAny _ _ (.compStart (.ListComp elt [⟨tg,iter,ifs,0⟩] scope pos) 0 (.ref it) (.ref D) (compEnvC scope (cellsFrom (s3.heap.objs.size+1) scope.names (cloFrom X.env.cells scope.names [])) s3.heap.objs.size X.env)) (compPost (model X.prog X.w) X.A X.xe use Qf (.ref D) s3.heap.objs.size) { s3 with heap:=pushCells (s3.heap.push { cls:=.type "dict",data:=.dict #[] }) scope.names }
  have nfp:∀ b∈fp,(upd H2 D (.lst [])) b=none:=fun b hb=>(f3 b hb).1.1
  generalize hce:compEnvC scope (cellsFrom (s3.heap.objs.size+1) scope.names (cloFrom X.env.cells scope.names [])) s3.heap.objs.size X.env=ce at I4 pg pt pe ⊢
  have cL:ce.locals=s3.heap.objs.size:=by subst hce;rfl
  generalize hH3:upd H2 D (.lst [])=H3 at I3 I4 pg pt pe w0 nfp f3
  generalize hs4:({ s3 with heap:=pushCells (s3.heap.push { cls:=.type "dict",data:=.dict #[] }) scope.names }:Shared)=s4 at I4 ⊢
  have st4:tn 0 s4.heap:=T.keep _ _ _ st3 fun b _ o e=>by rw [<- hs4];exact pushCells_keeps _ _ _ _ (Heap.get?_push_of_some _ e)
  have stat:∀ {σ':St}{H':Hp}{s':Shared},Inv (X.blk s3 H3 scope ce fp) [] σ' H' s'->(∀ b∈fp,H' b=none)->∀ b∈fp,FpOk (X.blk s3 H3 scope ce fp) [] H' b:=fun {σ' H' s'} I' hn b hb=>
    ⟨hn b hb,(I'.ok.exf b hb).1,I'.ok.exfs b hb,.inl hb,fun x c e=>(I'.ok.exf b hb).2 x c e,fun p hp=>absurd (show p∈([]:List (Addr × Obj))++[] from hp) (by simp)⟩
  have loop:codeAny (model X.prog X.w) X.A (.compLoop (.ListComp elt [⟨tg,iter,ifs,0⟩] scope pos) 0 (.ref it) (.ref D) ce) (compPost (model X.prog X.w) X.A X.xe use Qf (.ref D) s3.heap.objs.size) s4:=by
    refine compLoop_any (fun n s'=>∃ i H',Inv (X.blk s3 H3 scope ce fp) [] (wipe σ (own.map (·.2))) H' s'/\tn i s'.heap/\(∀ b∈fp,H' b=none)/\W i n H') ?_ m0 ⟨0,H3,I4,st4,nfp,w0⟩
    rintro n s5 ⟨i,H5,I5,st5,n5,w5⟩
    rcases turn i n H5 w5 with ⟨stop,qq⟩ | ⟨go,Nx,hNx,step⟩
    · have td:=T.done (X.blk s3 H3 scope ce fp) rfl rfl rfl hc i [] s5 _ H5 (fun _ _=>False) I5 (stat I5 n5) st5 stop
      refine thnF td fun r s6 ⟨hr,I6⟩=>?_
      subst hr
      have I7:Inv X pins σ H5 s6:=I3.call' (ch:=fp) I6.os I6.base I6.hok I6.bare fun b hb=>⟨(f3 b hb).1.2.2.2.1,(f3 b hb).1.2.1,(f3 b hb).1.2.2.2.2.1,(f3 b hb).1.2.2.2.2.2⟩
      have nC:H5 s3.heap.objs.size=none:=by
        have z:H5 ce.locals=none:=I6.free
        rw [cL] at z
        exact z
      obtain ⟨m,hn,_⟩:=I6.loc
      have hn:s6.heap.Ns ce.locals m:=hn
      rw [cL] at hn
      exact hRR D s3.heap.objs.size s6 m H5 I7 qq hn (I3.fpOk (Nat.le_refl _) nC)
    · have ti:=T.item (X.blk s3 H3 scope ce fp) rfl rfl rfl hc i [] s5 _ H5 (fun _ _=>False) I5 (stat I5 n5) st5 go
      refine thnF ti fun r s6 ⟨u,hr,h6⟩=>?_
      subst hr
      refine thnF h6 fun _ s7 ⟨x,H7,I7,r7,y7,st7,n7⟩=>?_
      have I7':=I7.pinned (stat I7 n7) (T.obj _ _ st7)
      refine thnF (pg _ s7 _ H7 x u _ I7' r7 (step x H7 y7)) fun _ s8 ⟨σ8,H8,I8,hw8,q8⟩=>?_
      refine thnF (pt _ s8 σ8 H8 _ I8 q8) fun b s9 ⟨H9,I9,q9⟩=>?_
      have fin:∀ {s':Shared}{H':Hp},Inv (X.blk s3 H3 scope ce fp) ([]++pinsAt fp s7.heap) σ8 H' s'->Nx H'->∃ m,m<n/\∃ i H',Inv (X.blk s3 H3 scope ce fp) [] (wipe σ (own.map (·.2))) H' s'/\tn i s'.heap/\(∀ b∈fp,H' b=none)/\W i m H':=fun {s' H'} I' nx=>by
        obtain ⟨m',hm,w'⟩:=hNx H' nx
        have pin':∀ b∈fp,∀ o,s7.heap.get? b=some o->s'.heap.get? b=some o/\H' b=none:=fun b hb o e=>
          let z:=I'.pin (b,o) (List.mem_append_right _ (List.mem_append_right _ (mem_pinsAt hb e)))
          ⟨z.1,z.2.1⟩
        have hl:(wipe σ (own.map (·.2))).length=σ8.length:=by rw [<- hw8,wipe_length]
        refine⟨m',hm,i+1,H',(I'.unpinned (pins:=[])).weak hl (fun j v e=>?_),T.keep _ _ _ st7 fun b hb o e=>(pin' b hb o e).1,fun b hb=>?_,w'⟩
        · rw [<- hw8] at e
          exact (wipe_some e).1
        · obtain ⟨o,e,_⟩:=T.obj _ _ st7 b hb
          exact (pin' b hb o e).2
      cases b with
      | false=>
        simp only [Bool.false_eq_true,if_false] at q9 ⊢
        exact fin I9 q9
      | true=>
        simp only [if_true] at q9 ⊢
        refine thnF (pe _ s9 σ8 H9 _ I9 q9) fun z s10 ⟨yv,H10,I10,r10,acc,hD10,hz10,nx⟩=>?_
        exact app_ok (X:=X.blk s3 H3 scope ce fp) I10 hD10 hz10 r10 fun s11 I11=>fin I11 nx
  exact codeAny_compStart_list loop (T.self X.A 0 _ _ _ st4 loop)
theorem pe_lc {elt tg iter:Expr}{ifs:List Expr}{scope:Scope}{own:List (Str × Nat)}{pos:Pos}{wi:TI}{g:TG}{tt:TT}{te:TE} (hc:X.calm=true) (hN:X.N.Nodup) (hi:PI X tg iter wi) (ok:BlkOk X.N X.env.scope scope own)
    (hg:∀ (s:Shared) (H:Hp) (C:Addr) (cl:List (Str × Addr)) (fp:List Addr),PG (X.blk s H scope (compEnvC scope cl C X.env) fp) tg g) (ht:∀ (s:Shared) (H:Hp) (C:Addr) (cl:List (Str × Addr)) (fp:List Addr),PTs (X.blk s H scope (compEnvC scope cl C X.env) fp) ifs tt)
    (he:∀ (s:Shared) (H:Hp) (C:Addr) (cl:List (Str × Addr)) (fp:List Addr),PE (X.blk s H scope (compEnvC scope cl C X.env) fp) elt te) (hs:∀ x,foldedSetIterable iter X.env x=pure x:=by intro _;rfl) :
    PE X (.ListComp elt [⟨tg,iter,ifs,0⟩] scope pos) (tLc wi g tt te (own.map (·.2))):=by
  intro pins s σ H Q I h
  rw [eval_ListComp]
  refine lc_core hc hN I hi ok hg ht he hs h fun D C s' m H' I' q hn f=>⟨m,hn,fun h'' sb=>?_⟩
  obtain ⟨f0,f1,f2,f3,f4,f5⟩:=f
  exact⟨.ref D,H',I'.turned (t':=s'.toks) (fun b o hb e=>(sb.2 b hb).trans e) f0 f1 f3 f4 f5,rfl,q⟩
theorem ps_setLc {i:Nat}{y:Str}{py:Pos}{elt tg iter:Expr}{ifs:List Expr}{scope:Scope}{own:List (Str × Nat)}{pos spos:Pos}{wi:TI}{g:TG}{tt:TT}{te:TE} (hc:X.calm=true) (hN:X.N.Nodup) (hy:X.N[i]?=some y) (hyl:X.env.scope.names.lookup y=some .local)
    (hsw:swapsWith (.ListComp elt [⟨tg,iter,ifs,0⟩] scope pos) (some (.Name y py)) spos.line X.env=pure true) (hi:PI X tg iter wi) (ok:BlkOk X.N X.env.scope scope own)
    (hg:∀ (s:Shared) (H:Hp) (C:Addr) (cl:List (Str × Addr)) (fp:List Addr),PG (X.blk s H scope (compEnvC scope cl C X.env) fp) tg g) (ht:∀ (s:Shared) (H:Hp) (C:Addr) (cl:List (Str × Addr)) (fp:List Addr),PTs (X.blk s H scope (compEnvC scope cl C X.env) fp) ifs tt)
    (he:∀ (s:Shared) (H:Hp) (C:Addr) (cl:List (Str × Addr)) (fp:List Addr),PE (X.blk s H scope (compEnvC scope cl C X.env) fp) elt te) (hs:∀ x,foldedSetIterable iter X.env x=pure x:=by intro _;rfl) :
    PS X (.Assign [.Name y py] (.ListComp elt [⟨tg,iter,ifs,0⟩] scope pos) spos) (tAsg (tLc wi g tt te (own.map (·.2))) (gName i)):=by
  intro pins s σ H D I h
  rw [exec_Assign_Name_used _ _ _ _ hsw]
  refine wpAny_bind (wpAny_standAt (wpAny_bind ?_))
  show wpAny _ X.A (do let _ <- comprehension (.ListComp elt [⟨tg,iter,ifs,0⟩] scope pos) scope X.env (firstIterPos [⟨tg,iter,ifs,0⟩] pos) (newList []) false (eval iter X.env) (some (assign (.Name y py) X.env))) _ _ s
  have h:tLc wi g tt te (own.map (·.2)) σ H (fun x H1=>gName i x σ H1 D.nx):=h
  refine wpAny_bind (thn (lc_core (Qf:=fun _ s'=>SP X pins D .next s') hc hN I hi ok hg ht he hs h fun L C s' m H' I' q hn f=>?_) fun _ s' hq=>wpAny_pure (wpAny_pure hq))
  show wpAny _ _ (assign (.Name y py) X.env (.ref L)) _ _ _
  refine wpAny_assign_Name (store_ok2 (v:=V.ref L) I' hN hy (.inl hyl) rfl (fun s2 I2 ⟨a,sb,ha⟩=>?_) (.inr hyl))
  obtain ⟨f0,f1,f2,f3,f4,f5⟩:=f
  have haC:C≠a:=by
    rcases ha with z | z
    · rw [z];exact f1
    · exact fun e=>f4 y a z e.symm
  refine⟨m,hn.sameBut sb haC,fun h3 sb3=>?_⟩
  exact⟨_,H',I2.turned (t':=s2.toks) (fun b o hb e=>(sb3.2 b hb).trans e) f0 f1 f3 f4 f5,q⟩
theorem sw_true {elt:Expr}{gs:List Comprehension}{scope:Scope}{pos py:Pos}{y:Str}{l:Nat}{env:Env} (hk:env.scope.kind=.function) (hy:env.scope.names.lookup y=some .local) (hl:(py.line==pos.line)=true)
    (ha:(scope.names.any fun (n,k)=>n==y&&(k==.local||k==.cell))=false):swapsWith (.ListComp elt gs scope pos) (some (.Name y py)) l env=pure true:=by
  have ky:env.kindOf y=some .local:=hy
  have hb:env.blockKind=.function:=by unfold Env.blockKind;rw [hk];rfl
  unfold swapsWith
  simp only [hb,ky,ha,Expr.pos,hl]
  rfl
end
theorem lc_range {lo:Int}{n:Nat}{g:TG}{tt:TT}{te:TE}{vs:List Nat}{σ:St}{H1:Hp}{D:Addr}{Qd:Hp->Prop} (Pv:Nat->Hp->Prop) (h0:Pv 0 (upd H1 D (.lst [])))
    (hs:∀ i H,i<n->Pv i H->g (.int (lo+i)) (wipe σ vs) H fun σ2 H2=>wipe σ2 vs=wipe σ vs/\tt σ2 H2 fun b H3=>
      if b=true then te σ2 H3 fun y H4=>∃ acc,H4 D=some (.lst acc)/\acc.length<sizeLine/\Pv (i+1) (upd H4 D (.lst (acc++[y]))) else Pv (i+1) H3) (hd:∀ H,Pv n H->Qd H) :
    ∃ W:Nat->Nat->Hp->Prop,(∃ m,W 0 m (upd H1 D (.lst [])))/\∀ i m H,W i m H ->
      ((Itr lo n).stop i H/\Qd H) \/ ((Itr lo n).go i H/\∃ Nx:Hp->Prop,(∀ H',Nx H'->∃ m',m'<m/\W (i+1) m' H')/\∀ x H',(Itr lo n).yld i H x H'->g x (wipe σ vs) H' fun σ2 H2=>wipe σ2 vs=wipe σ vs/\tt σ2 H2 fun b H3=>
        if b=true then te σ2 H3 fun y H4=>∃ acc,H4 D=some (.lst acc)/\acc.length<sizeLine/\Nx (upd H4 D (.lst (acc++[y]))) else Nx H3):=by
  refine⟨fun i m H=>m=n - i/\i<=n/\Pv i H,⟨n,by simp,Nat.zero_le _,h0⟩,?_⟩
  rintro i m H ⟨rfl,hi,p⟩
  by_cases hlt:i<n
  · refine .inr ⟨hlt,Pv (i+1),fun H' p'=>⟨n - (i+1),by omega,rfl,hlt,p'⟩,fun x H' y=>?_⟩
    obtain ⟨e,y⟩:=y
    subst e y
    exact hs i _ hlt p
  · have e:i=n:=by omega
    subst e
    exact .inl ⟨Nat.le_refl _,hd H p⟩
theorem lc_list {K:PySem.W.Frag}{a:Addr}{xs:List V}{g:TG}{tt:TT}{te:TE}{vs:List Nat}{σ:St}{H1:Hp}{D:Addr}{Qd:Hp->Prop} (Pv:Nat->Hp->Prop) (h0:Pv 0 (upd H1 D (.lst []))) (hl:∀ i H,i<=xs.length->Pv i H->SqL K H a xs)
    (hs:∀ i x H,xs[i]?=some x->Pv i H->g x (wipe σ vs) H fun σ2 H2=>wipe σ2 vs=wipe σ vs/\tt σ2 H2 fun b H3=>
      if b=true then te σ2 H3 fun y H4=>∃ acc,H4 D=some (.lst acc)/\acc.length<sizeLine/\Pv (i+1) (upd H4 D (.lst (acc++[y]))) else Pv (i+1) H3) (hd:∀ H,Pv xs.length H->Qd H) :
    ∃ W:Nat->Nat->Hp->Prop,(∃ m,W 0 m (upd H1 D (.lst [])))/\∀ i m H,W i m H ->
      ((Itl K a).stop i H/\Qd H) \/ ((Itl K a).go i H/\∃ Nx:Hp->Prop,(∀ H',Nx H'->∃ m',m'<m/\W (i+1) m' H')/\∀ x H',(Itl K a).yld i H x H'->g x (wipe σ vs) H' fun σ2 H2=>wipe σ2 vs=wipe σ vs/\tt σ2 H2 fun b H3=>
        if b=true then te σ2 H3 fun y H4=>∃ acc,H4 D=some (.lst acc)/\acc.length<sizeLine/\Nx (upd H4 D (.lst (acc++[y]))) else Nx H3):=by
  refine⟨fun i m H=>m=xs.length - i/\i<=xs.length/\Pv i H,⟨xs.length,by simp,Nat.zero_le _,h0⟩,?_⟩
  rintro i m H ⟨rfl,hi,p⟩
  have q:=hl i H hi p
  by_cases hlt:i<xs.length
  · refine .inr ⟨⟨xs,xs[i],q,by simp [hlt]⟩,Pv (i+1),fun H' p'=>⟨xs.length - (i+1),by omega,rfl,hlt,p'⟩,fun x H' y=>?_⟩
    obtain ⟨e,y⟩:=y
    subst e
    exact hs i x _ (y xs q) p
  · have e:i=xs.length:=by omega
    subst e
    exact .inl ⟨⟨xs,q,Nat.le_refl _⟩,hd H p⟩
theorem lc_tup {K:PySem.W.Frag}{a:Addr}{xs:List V}{g:TG}{tt:TT}{te:TE}{vs:List Nat}{σ:St}{H1:Hp}{D:Addr}{Qd:Hp->Prop} (Pv:Nat->Hp->Prop) (h0:Pv 0 (upd H1 D (.lst []))) (hl:∀ i H,i<=xs.length->Pv i H->SqT K H a xs)
    (hs:∀ i x H,xs[i]?=some x->Pv i H->g x (wipe σ vs) H fun σ2 H2=>wipe σ2 vs=wipe σ vs/\tt σ2 H2 fun b H3=>
      if b=true then te σ2 H3 fun y H4=>∃ acc,H4 D=some (.lst acc)/\acc.length<sizeLine/\Pv (i+1) (upd H4 D (.lst (acc++[y]))) else Pv (i+1) H3) (hd:∀ H,Pv xs.length H->Qd H) :
    ∃ W:Nat->Nat->Hp->Prop,(∃ m,W 0 m (upd H1 D (.lst [])))/\∀ i m H,W i m H ->
      ((Itt K a).stop i H/\Qd H) \/ ((Itt K a).go i H/\∃ Nx:Hp->Prop,(∀ H',Nx H'->∃ m',m'<m/\W (i+1) m' H')/\∀ x H',(Itt K a).yld i H x H'->g x (wipe σ vs) H' fun σ2 H2=>wipe σ2 vs=wipe σ vs/\tt σ2 H2 fun b H3=>
        if b=true then te σ2 H3 fun y H4=>∃ acc,H4 D=some (.lst acc)/\acc.length<sizeLine/\Nx (upd H4 D (.lst (acc++[y]))) else Nx H3):=by
  refine⟨fun i m H=>m=xs.length - i/\i<=xs.length/\Pv i H,⟨xs.length,by simp,Nat.zero_le _,h0⟩,?_⟩
  rintro i m H ⟨rfl,hi,p⟩
  have q:=hl i H hi p
  by_cases hlt:i<xs.length
  · refine .inr ⟨⟨xs,xs[i],q,by simp [hlt]⟩,Pv (i+1),fun H' p'=>⟨xs.length - (i+1),by omega,rfl,hlt,p'⟩,fun x H' y=>?_⟩
    obtain ⟨e,y⟩:=y
    subst e
    exact hs i x _ (y xs q) p
  · have e:i=xs.length:=by omega
    subst e
    exact .inl ⟨⟨xs,q,Nat.le_refl _⟩,hd H p⟩
def blkC (N:List Str) (sc scope:Scope) (own:List (Str × Nat)):Bool:=
  (match scope.kind with | .function=>true | _=>false)&&(scope.names.all fun y=>decide (scope.names.lookup y.1=some y.2))&&(own.all fun p=>decide (N[p.2]?=some p.1)) &&
    (scope.names.all fun y=>match y.2 with
      | .free=>(match sc.names.lookup y.1 with | some .cell=>true | some .free=>true | _=>false)
      | .local=>decide (y.1∈own.map (·.1))||decide (y.1 ∉ N)
      | .cell=>decide (y.1∈own.map (·.1))||decide (y.1 ∉ N)
      | _=>true)
theorem blkOk_by {N:List Str}{sc scope:Scope}{own:List (Str × Nat)} (h:blkC N sc scope own=true):BlkOk N sc scope own:=by
  unfold blkC at h
  simp only [Bool.and_eq_true,List.all_eq_true,decide_eq_true_eq] at h
  obtain ⟨⟨⟨h1,h2⟩,h3⟩,h4⟩:=h
  refine⟨?_,h2,h3,fun y hy e=>?_,fun y hy e=>?_⟩
  · split at h1
    · assumption
    · cases h1
  · have q:=h4 y hy
    simp only [e] at q
    split at q <;> first | exact .inl (by assumption) | exact .inr (by assumption) | cases q
  · have q:=h4 y hy
    rcases e with e | e <;> (simp only [e,Bool.or_eq_true,decide_eq_true_eq] at q;exact q)
end L2
namespace L2
open PySem PySem.Spec PyProof.Rows
end L2
namespace L2
open PySem PySem.Spec PyProof.Rows
section
variable {κ:Type} [DecidableEq κ]
def valV (kvs:List (κ × V)) (k:κ):Option V:=(kvs.find? fun kv=>decide (kv.1=k)).map (·.2)
def putK (kvs:List (κ × V)) (k:κ) (v:V):List (κ × V):=
  if (kvs.any fun kv=>decide (kv.1=k))=true then kvs.map (fun kv=>if kv.1=k then (kv.1,v) else kv) else kvs++[(k,v)]
theorem valV_pos {p:κ × V}{r:List (κ × V)}{k:κ} (e:p.1=k):valV (p::r) k=some p.2:=by simp [valV,List.find?_cons,e]
theorem valV_neg {p:κ × V}{r:List (κ × V)}{k:κ} (e:¬ p.1=k):valV (p::r) k=valV r k:=by simp [valV,List.find?_cons,e]
theorem valV_any (k:κ):∀ kvs:List (κ × V),(kvs.any fun kv=>decide (kv.1=k))=(valV kvs k).isSome
  | []=>rfl
  | p::r=>by
    rw [List.any_cons]
    by_cases e:p.1=k
    · simp only [valV_pos e,decide_eq_true e,Bool.true_or,Option.isSome_some]
    · rw [valV_neg e,decide_eq_false e,Bool.false_or];exact valV_any k r
theorem length_putK (kvs:List (κ × V)) (k:κ) (v:V):(putK kvs k v).length<=kvs.length+1:=by
  unfold putK
  split
  · rw [List.length_map];omega
  · rw [List.length_append,List.length_cons,List.length_nil];omega
theorem putK_new {kvs:List (κ × V)}{k:κ} (v:V) (h:valV kvs k=none):putK kvs k v=kvs++[(k,v)]:=by
  unfold putK
  rw [valV_any,h]
  exact if_neg (by decide)
theorem RelO.isSome_eq {o:Option V}{u:Option Value} (r:RelO o u):o.isSome=u.isSome:=by
  cases o with
  | none=>cases u with
    | none=>rfl
    | some _=>exact (show False from r).elim
  | some _=>cases u with
    | none=>exact (show False from r).elim
    | some _=>rfl
theorem KV.val {kvs:List (κ × V)}{vs:List (κ × Value)} (r:KV kvs vs) (k:κ):RelO (valV kvs k) (valueAt vs k):=by
  unfold KV at r
  induction r with
  | nil=>exact True.intro
  | @cons p q ps qs h t ih=>
    obtain ⟨h1,h2⟩:=h
    by_cases e:p.1=k
    · have e':q.1=k:=h1.symm.trans e
      have b:valueAt (q::qs) k=some q.2:=by simp [valueAt,List.find?_cons,e']
      rw [valV_pos e,b];exact h2
    · have e':¬ q.1=k:=fun z=>e (h1.trans z)
      have b:valueAt (q::qs) k=valueAt qs k:=by simp [valueAt,List.find?_cons,e']
      rw [valV_neg e,b];exact ih
theorem KV.any {kvs:List (κ × V)}{vs:List (κ × Value)} (r:KV kvs vs) (k:κ):(kvs.any fun kv=>decide (kv.1=k))=vs.any fun kv=>decide (kv.1=k):=by
  unfold KV at r
  induction r with
  | nil=>rfl
  | cons h t ih=>rw [List.any_cons,List.any_cons,ih,h.1]
theorem KV.repl {kvs:List (κ × V)}{vs:List (κ × Value)} (r:KV kvs vs) (k:κ) {y:V}{u:Value} (ry:RelV y u) :
    KV (kvs.map fun kv=>if kv.1=k then (kv.1,y) else kv) (vs.map fun kv=>if kv.1=k then (kv.1,u) else kv):=by
  unfold KV at r ⊢
  induction r with
  | nil=>exact .nil
  | @cons p q ps qs h t ih=>
    rw [List.map_cons,List.map_cons]
    refine .cons ?_ ih
    obtain ⟨h1,h2⟩:=h
    by_cases e:p.1=k
    · rw [if_pos e,if_pos (h1.symm.trans e)];exact⟨h1,ry⟩
    · rw [if_neg e,if_neg (fun z=>e (h1.trans z))];exact⟨h1,h2⟩
theorem KV.put {kvs:List (κ × V)}{vs:List (κ × Value)} (r:KV kvs vs) (k:κ) {y:V}{u:Value} (ry:RelV y u):KV (putK kvs k y) (stored vs k u):=by
  unfold putK stored
  rw [r.any k]
  by_cases e:(vs.any fun kv=>decide (kv.1=k))=true
  · rw [if_pos e,if_pos e];exact r.repl k ry
  · rw [if_neg e,if_neg e];exact Paired.snoc r ⟨rfl,ry⟩
theorem KV.length {kvs:List (κ × V)}{vs:List (κ × Value)} (r:KV kvs vs):kvs.length=vs.length:=Paired.length r
end
theorem kV_is {P:Program}{w:World}{k:Key}{u:Value} (r:RelV (kV k) u):(mixKind P w).is k u=true:=by
  cases k with
  | inl i=>obtain ⟨t,e⟩:=(show ∃ t,u=Value.int i t from r);subst e;exact mixKind_int P w i t
  | inr x=>obtain ⟨t,e⟩:=(show ∃ t,u=Value.str x t from r);subst e;exact mixKind_str P w x t
theorem items_are {P:Program}{w:World}:∀ {ks:List Key}{us:List Value},Vals (ks.map kV) us->ItemsAre (mixKind P w) ks us
  | [],_,r=>by rw [List.map_nil] at r;cases r;exact .nil
  | k::ks,_,r=>by
    rw [List.map_cons] at r
    cases r with
    | cons h t=>exact .cons (kV_is h) (items_are t)
abbrev KT (H:Hp):List (List Key × V)->List (List Key × Addr × Value)->Prop:=Paired fun p q=>p.1=q.1/\H q.2.1=some (.tup (p.1.map kV))/\RelV p.2 q.2.2
theorem KT.val {H:Hp}{kvs:List (List Key × V)}{xs:List (List Key × Addr × Value)} (r:KT H kvs xs) (k:List Key):RelO (valV kvs k) ((atKey xs k).map (·.2)):=by
  induction r with
  | nil=>exact True.intro
  | @cons p q ps qs h t ih=>
    obtain ⟨h1,_,h2⟩:=h
    by_cases e:p.1=k
    · have e':q.1=k:=h1.symm.trans e
      have b:atKey (q::qs) k=some q.2:=by simp [atKey,List.find?_cons,e']
      rw [valV_pos e,b];exact h2
    · have e':¬ q.1=k:=fun z=>e (h1.trans z)
      have b:atKey (q::qs) k=atKey qs k:=by simp [atKey,List.find?_cons,e']
      rw [valV_neg e,b];exact ih
theorem KT.repl {H:Hp}{kvs:List (List Key × V)}{xs:List (List Key × Addr × Value)} (r:KT H kvs xs) (k:List Key) {y:V}{u:Value} (ry:RelV y u) :
    KT H (kvs.map fun kv=>if kv.1=k then (kv.1,y) else kv) (xs.map (putAt k u)):=by
  induction r with
  | nil=>exact .nil
  | @cons p q ps qs h t ih=>
    rw [List.map_cons,List.map_cons]
    refine .cons ?_ ih
    obtain ⟨h1,h2,h3⟩:=h
    unfold putAt
    by_cases e:p.1=k
    · rw [if_pos e,if_pos (h1.symm.trans e)];exact⟨h1,h2,ry⟩
    · rw [if_neg e,if_neg (fun z=>e (h1.trans z))];exact⟨h1,h2,h3⟩
theorem KT.put {H:Hp}{kvs:List (List Key × V)}{xs:List (List Key × Addr × Value)} (r:KT H kvs xs) (k:List Key) {b:Addr}{y:V}{u:Value} (hb:H b=some (.tup (k.map kV))) (ry:RelV y u) :
    KT H (putK kvs k y) (storedH xs k b u):=by
  have e:(kvs.any fun kv=>decide (kv.1=k))=(atKey xs k).isSome:=by
    rw [valV_any,(r.val k).isSome_eq,Option.isSome_map]
  unfold putK storedH
  rw [e]
  by_cases q:(atKey xs k).isSome=true
  · rw [if_pos q,if_pos q];exact r.repl k ry
  · rw [if_neg q,if_neg q];exact Paired.snoc r ⟨rfl,hb,ry⟩
theorem KT.keeps {H H':Hp}{kvs:List (List Key × V)}{xs:List (List Key × Addr × Value)} (r:KT H kvs xs) (ht:∀ b ys,H b=some (.tup ys)->H' b=some (.tup ys)):KT H' kvs xs:=
  Paired.mapP r fun _ _ z=>⟨z.1,ht _ _ z.2.1,z.2.2⟩
section
variable {P:Program}{w:World}{H:Hp}{h:Heap}{a:Addr}
theorem rd_of {u:HO} (ok:HOk P w H h) (e:Rd H a u):ObjOk P w H h a u:=e.ok ok
theorem dk_rd {kvs:List (Key × V)} (ok:HOk P w H h) (e:Rd H a (.dK kvs)):kvs.length<=sizeLine/\(a==sysModules)=false/\∃ vs,KV kvs vs/\h.DictOf (mixKind P w) a vs:=
  show ObjOk P w H h a (.dK kvs) from rd_of ok e
theorem dk_of {kvs:List (Key × V)} (ok:HOk P w H h) (e:H a=some (.dK kvs)):kvs.length<=sizeLine/\(a==sysModules)=false/\∃ vs,KV kvs vs/\h.DictOf (mixKind P w) a vs:=dk_rd ok (.inl e)
theorem key_of {ks:List Key} (ok:HOk P w H h) (e:H a=some (.tup (ks.map kV))):(tupleKind (mixKind P w)).is h ks a:=by
  obtain ⟨_,its,r,o,h1,h2,n,h3⟩:=(show ObjOk P w H h a (.tup (ks.map kV)) from ok a _ e)
  exact⟨o,its.toArray,n,h1,h2,h3,by simpa using items_are r⟩
theorem dt_rd {kvs:List (List Key × V)} (ok:HOk P w H h) (e:Rd H a (.dT kvs)):kvs.length<=sizeLine/\(a==sysModules)=false /\
    ∃ xs,KT H kvs xs/\h.DictOfH (tupleKind (mixKind P w)) a xs:=by
  obtain ⟨z,y,xs,r,o,es,ep,h1,h2,h3,h4,h5⟩:=(show ObjOk P w H h a (.dT kvs) from rd_of ok e)
  refine⟨z,y,xs,r,o,es,ep,h1,h2,h3,h4,fun x hx=>?_,h5⟩
  have all:∀ {l:List (List Key × V)}{m:List (List Key × Addr × Value)},KT H l m->∀ x∈m,(tupleKind (mixKind P w)).is h x.1 x.2.1:=by
    intro l m q
    induction q with
    | nil=>intro x hx;exact nomatch hx
    | @cons p q ps qs hq t ih=>
      intro x hx
      rcases List.mem_cons.mp hx with e | hx
      · subst e
        exact key_of ok (by rw [<- hq.1];exact hq.2.1)
      · exact ih x hx
  exact all r x hx
theorem dt_of {kvs:List (List Key × V)} (ok:HOk P w H h) (e:H a=some (.dT kvs)):kvs.length<=sizeLine/\(a==sysModules)=false /\
    ∃ xs,KT H kvs xs/\h.DictOfH (tupleKind (mixKind P w)) a xs:=dt_rd ok (.inl e)
end
def DGet (H:Hp) (a:Addr) (y:V) (r:Option V):Prop:=
  (∃ kvs k,Rd H a (.dK kvs)/\y=kV k/\r=valV kvs k) \/ ∃ kvs k b,Rd H a (.dT kvs)/\y=.ref b/\H b=some (.tup (k.map kV))/\r=valV kvs k
def DPut (H:Hp) (a:Addr) (y v:V) (H':Hp):Prop:=
  (∃ kvs k,H a=some (.dK kvs)/\y=kV k/\kvs.length<sizeLine/\H'=upd H a (.dK (putK kvs k v))) \/
  ∃ kvs k b,H a=some (.dT kvs)/\y=.ref b/\H b=some (.tup (k.map kV))/\kvs.length<sizeLine/\H'=upd H a (.dT (putK kvs k v))
theorem DGet.k {H:Hp}{a:Addr}{kvs:List (Key × V)}{k:Key} (e:H a=some (.dK kvs)):DGet H a (kV k) (valV kvs k):=.inl ⟨kvs,k,.inl e,rfl,rfl⟩
theorem DPut.k {H:Hp}{a:Addr}{kvs:List (Key × V)}{k:Key}{v:V} (e:H a=some (.dK kvs)) (hl:kvs.length<sizeLine):DPut H a (kV k) v (upd H a (.dK (putK kvs k v))):=.inl ⟨kvs,k,e,rfl,hl,rfl⟩
section
variable {X:Cx}{pins:List (Addr × Obj)}{σ:St}{H:Hp}{s:Shared}{a:Addr}{y v:V}{u r:Value}{o:Option V}{A:Around}{E:Value->Shared->Prop}
theorem Inv.big (I:Inv X pins σ H s):sysModules<s.heap.objs.size:=by
  have h:mainGlobals<s.heap.objs.size:=(I.mod.glob.keeps I.bk).lt
  exact Nat.lt_trans (by decide) h
theorem d_getItem {Q:Value->Shared->Prop} (hu:A.units+1<cLine) (I:Inv X pins σ H s) (g:DGet H a y (some v)) (ry:RelV y u) (h:∀ w' s',Inv X pins σ H s'->RelV v w'->Q w' s') :
    wpAny (model X.prog X.w) A (getItem (.ref a) u) Q E s:=by
  rcases g with ⟨kvs,k,e,ey,l⟩ | ⟨kvs,k,b,e,ey,eb,l⟩
  · subst ey
    obtain ⟨z,hd,vs,rel,dd⟩:=dk_rd I.hok e
    obtain ⟨w',hw,rw'⟩:=RelO.some_of (v:=v) (o:=valueAt vs k) (by rw [l];exact rel.val k)
    exact wpAny_getItem_of (kV_is ry) dd.mapOf hw (h w' _ (I.tok _) rw')
  · subst ey
    cases (show u=Value.ref b from ry)
    obtain ⟨z,hd,xs,rel,dd⟩:=dt_rd I.hok e
    obtain ⟨w',hw,rw'⟩:=RelO.some_of (v:=v) (o:=(atKey xs k).map (·.2)) (by rw [l];exact rel.val k)
    obtain ⟨p,hp,hp2⟩:=Option.map_eq_some_iff.mp hw
    refine wpAny_getItem_heap (tupleKind_room_in1 hu) (key_of I.hok eb) dd hp ?_
    rw [hp2]
    exact h w' _ (I.tok _) rw'
theorem d_notIn {Q:Value->Shared->Prop} (hu:A.units+1<cLine) (I:Inv X pins σ H s) (g:DGet H a y o) (ry:RelV y u) (h:∀ s',Inv X pins σ H s'->Q (.bool (!o.isSome)) s') :
    wpAny (model X.prog X.w) A (compareOp .NotIn u (.ref a)) Q E s:=by
  rcases g with ⟨kvs,k,e,ey,l⟩ | ⟨kvs,k,b,e,ey,eb,l⟩
  · subst ey
    obtain ⟨z,hd,vs,rel,dd⟩:=dk_rd I.hok e
    refine wpAny_notIn_of (kV_is ry) hd dd.mapOf ?_
    rw [<- (rel.val k).isSome_eq,<- l]
    exact h _ (I.tok _)
  · subst ey
    cases (show u=Value.ref b from ry)
    obtain ⟨z,hd,xs,rel,dd⟩:=dt_rd I.hok e
    refine wpAny_notIn_heap (tupleKind_room_in1 hu) (key_of I.hok eb) hd dd ?_
    have q:=(rel.val k).isSome_eq
    rw [Option.isSome_map] at q
    rw [<- q,<- l]
    exact h _ (I.tok _)
theorem d_write {h':Heap}{t':Nat}{ob:HO} (I:Inv X pins σ H s) (mu:Mut (H a)) (hs:Heap.SameBut a s.heap h') (he:∃ q,h'.get? a=some q) (new:ObjOk X.prog X.w (upd H a ob) h' a ob) :
    Inv X pins σ (upd H a ob) { s with heap:=h',toks:=t' }:=
  I.write (x:=a) (e:=a) mu (.inl rfl) (fun b q hb z=>(hs.2 b hb).trans z) he new
theorem dk_new {P:Program}{w:World}{H':Hp}{h':Heap}{kvs:List (Key × V)}{vs:List (Key × Value)} (z:kvs.length<=sizeLine) (hd:(a==sysModules)=false) (rel:KV kvs vs) (dd:h'.DictOf (mixKind P w) a vs) :
    ObjOk P w H' h' a (.dK kvs):=⟨z,hd,vs,rel,dd⟩
theorem d_setItem {H':Hp}{Q:Unit->Shared->Prop} (hu:A.units+1<cLine) (I:Inv X pins σ H s) (g:DPut H a y v H') (ry:RelV y u) (rv:RelV v r) (h:∀ s',Inv X pins σ H' s'->Q () s') :
    wpAny (model X.prog X.w) A (setItem (.ref a) u r) Q E s:=by
  rcases g with ⟨kvs,k,e,ey,l,eH⟩ | ⟨kvs,k,b,e,ey,eb,l,eH⟩
  · subst ey eH
    obtain ⟨z,hd,vs,rel,dd⟩:=dk_of I.hok e
    have hz:vs.length<=sizeLine:=by rw [<- rel.length];exact z
    have hl:(putK kvs k v).length<=sizeLine:=by have:=length_putK kvs k v;omega
    refine wpAny_setItem_pairs (hsz:=hz) (kV_is ry) dd fun h' dd' hs=>h _ ?_
    have he:∃ q,h'.get? a=some q:=let ⟨q,_,_,hq,_⟩:=dd';⟨q,hq⟩
    exact d_write I (by rw [e];exact True.intro) hs he (dk_new hl hd (rel.put k rv) dd')
  · subst ey eH
    cases (show u=Value.ref b from ry)
    obtain ⟨z,hd,xs,rel,dd⟩:=dt_of I.hok e
    have hz:xs.length<=sizeLine:=by rw [<- Paired.length rel];exact z
    have hl:(putK kvs k v).length<=sizeLine:=by have:=length_putK kvs k v;omega
    refine wpAny_setItem_heap (hsz:=hz) (tupleKind_room_in1 hu) (key_of I.hok eb) dd fun h' dd' hs=>h _ ?_
    obtain ⟨q,es,ep,hq,h2,h3,h4,_,h5⟩:=dd'
    refine d_write I (by rw [e];exact True.intro) hs ⟨q,hq⟩ ⟨hl,hd,_,(rel.put k eb rv).keeps fun c ys ec=>?_,q,es,ep,hq,h2,h3,h4,h5⟩
    rw [upd_ne (ne_of ec e (fun z=>nomatch z))]
    exact ec
end
section
variable {X:Cx}{pins:List (Addr × Obj)}{σ:St}{H:Hp}{s:Shared}{a:Addr}{kvs:List (Key × V)}{k:Key}{u:Value}{A:Around}{E:Value->Shared->Prop}
theorem d_len {Q:Value->Shared->Prop} (I:Inv X pins σ H s) (e:Rd H a (.dK kvs)) (h:∀ t s',Inv X pins σ H s'->Q (.int kvs.length t) s'):wpAny (model X.prog X.w) A (call (.builtin "len") [.ref a]) Q E s:=by
  obtain ⟨z,hd,vs,rel,dd⟩:=dk_rd I.hok e
  refine call_len_dict hd dd (by rw [<- rel.length];rw [sizeLine_eq] at z;omega) ?_
  rw [<- rel.length]
  exact h _ _ (I.tok _)
end
def NoSl (i:Expr):Prop:=∀ ov iv,subscripted i false ov iv=operate [ov,iv] (getItem ov iv)
theorem subD_of {prog:Program}{w:World}{A:Around}{E:Value->Shared->Prop}{s:Shared}{env:Env}{value slice:Expr}{pos:Pos}{T id:String}{Q:Value->Shared->Prop}
    (hl:typeLookup (.type T) "__getitem__"=pure (some (.builtin id))) (hs:NoSl slice)
    (h:wpAny (model prog w) A (eval value env) (fun o s₁=>wpAny (model prog w) A (eval slice env) (fun i s₂=>s₂.TypeIs o T/\wpAny (model prog w) A (getItem o i) Q E s₂) E s₁) E s) :
    wpAny (model prog w) A (eval (.Subscript value slice pos) env) Q E s:=by
  refine Subscript_ (wpAny_mono h (fun o s₁ h₁=>wpAny_mono h₁ (fun i s₂ h₂=>?_) fun _ _ x=>x) fun _ _ x=>x)
  obtain ⟨hT,h₂⟩:=h₂
  unfold subscriptTail
  refine wpAny_bind ?_
  rw [getitemInPython_of_ne hT.not_modules]
  refine wpAny_bind (wpAny_specialOf hT hl ?_)
  have fin:wpAny (model prog w) A (subscripted slice false o i) (fun r s₃=>wpAny (model prog w) A (letTemporaryGo value o r >>= fun _=>pure r) Q E s₃) E s₂:=by
    rw [hs o i]
    exact wpAny_operating (wpAny_mono h₂ (fun r s₃ h₃=>wpAny_bind (wpAny_letTemporaryGo (wpAny_pure h₃))) fun _ _ x=>x)
  first
    | exact wpAny_pure (wpAny_bind fin)
    | exact wpAny_bind (wpAny_pure (wpAny_bind fin))
    | exact wpAny_bind fin
theorem dict_typeIs {X:Cx}{pins:List (Addr × Obj)}{σ:St}{H:Hp}{s:Shared}{a:Addr}{y:V}{o:Option V} (I:Inv X pins σ H s) (g:DGet H a y o):s.TypeIs (.ref a) "dict":=by
  rcases g with ⟨kvs,k,e,_,_⟩ | ⟨kvs,k,b,e,_,_,_⟩
  · obtain ⟨_,_,vs,_,dd⟩:=dk_rd I.hok e
    exact dd.typeIs
  · obtain ⟨_,_,xs,_,dd⟩:=dt_rd I.hok e
    exact dd.typeIs
def tDGet (td ty:TE):TE:=fun σ H Q=>td σ H fun x H1=>ty σ H1 fun y H2=>∃ a v,x=.ref a/\DGet H2 a y (some v)/\Q v H2
def tDNotIn (ty td:TE):TE:=fun σ H Q=>ty σ H fun y H1=>td σ H1 fun x H2=>∃ a o,x=.ref a/\DGet H2 a y o/\Q (.bl (!o.isSome)) H2
def sDPut (td ty tv:TE):TS:=fun D σ H=>tv σ H fun v H1=>td σ H1 fun x H2=>ty σ H2 fun y H3=>∃ a H4,x=.ref a/\DPut H3 a y v H4/\D.nx σ H4
section
variable {X:Cx}{o i e value:Expr}{pos pos' tpos:Pos}{td ty tv:TE}
theorem pe_dget (hu:X.A.units+1<cLine) (ho:PE X o td) (hi:PE X i ty) (hs:NoSl i):PE X (.Subscript o i pos) (tDGet td ty):=by
  intro pins s σ H Q I h
  refine subD_of PySem.F.slot_dict_getitem.lookup hs (thn (ho pins s σ H _ I h) fun u s1 ⟨x,H1,I1,rx,q1⟩=>thn (hi pins s1 σ H1 _ I1 q1) fun iv s2 ⟨y,H2,I2,ry,a,v,ex,g,q2⟩=>?_)
  subst ex
  obtain rfl:u=Value.ref a:=rx
  exact⟨dict_typeIs I2 g,d_getItem hu I2 g ry fun w' s3 I3 rw'=>⟨v,H2,I3,rw',q2⟩⟩
theorem pc_dnotin (hu:X.A.units+1<cLine) (hi:PE X i ty) (ho:PE X o td):PC X .NotIn i o (tDNotIn ty td):=by
  intro pins s σ H Q I h
  refine thn (hi pins s σ H _ I h) fun iv s1 ⟨y,H1,I1,ry,q1⟩=>thn (ho pins s1 σ H1 _ I1 q1) fun u s2 ⟨x,H2,I2,rx,a,ov,ex,g,q2⟩=>?_
  subst ex
  obtain rfl:u=Value.ref a:=rx
  exact d_notIn hu I2 g ry fun s3 I3=>⟨.bl (!ov.isSome),H2,I3,rfl,q2⟩
theorem ps_dput (hu:X.A.units+1<cLine) (ho:PE X o td) (hi:PE X i ty) (hv:PE X value tv) (hs:swapsWith value (some (.Subscript o i pos')) pos.line X.env=pure false) :
    PS X (.Assign [.Subscript o i pos'] value pos) (sDPut td ty tv):=by
  intro pins s σ H D I h
  refine wpAny_Assign_Subscript (thn (hv pins s σ H _ I h) fun r s1 ⟨v,H1,I1,rv,q1⟩=>thn (ho pins s1 σ H1 _ I1 q1) fun u s2 ⟨x,H2,I2,rx,q2⟩=>thn (hi pins s2 σ H2 _ I2 q2) fun iv s3 ⟨y,H3,I3,ry,a,H4,ex,g,q3⟩=>?_) hs
  subst ex
  obtain rfl:u=Value.ref a:=rx
  exact d_setItem hu I3 g ry rv fun s4 I4=>⟨σ,H4,I4,q3⟩
end
theorem dk_empty {P:Program}{w:World}{H:Hp} (h:Heap) (hb:sysModules<h.objs.size):ObjOk P w H (h.push { cls:=.type "dict",data:=.dict #[] }) h.objs.size (.dK []):=
  ⟨Nat.zero_le _,beq_eq_false_iff_ne.mpr (Ne.symm (Nat.ne_of_lt hb)),[],.nil,Heap.DictOf.new h⟩
def tDNewK:TE:=fun _ H Q=>∀ p,H p=none->Q (.ref p) (upd H p (.dK []))
section
variable {X:Cx}{pos:Pos}
theorem pe_dnewK:PE X (.Dict [] [] pos) tDNewK:=fun pins s σ H Q I h=>
  wpAny_Dict_empty ⟨.ref s.heap.objs.size,_,I.laid (a:=s.heap.objs.size) (o:=.dK []) (t':=s.toks) (fun _ _ q=>Heap.get?_push_of_some _ q) (Nat.le_refl _) (dk_empty s.heap I.big),rfl,h _ (I.hok.fresh (Nat.le_refl _))⟩
end
end L2
namespace L2
open PySem PySem.Spec PyProof.Rows
end L2
namespace L2
open PySem PySem.Spec PyProof.Rows
section
variable {X:Cx}{pins:List (Addr × Obj)}{σ:St}{H:Hp}{s:Shared}{h':Heap}
theorem Inv.turnedL {t':Nat}{ch:List Addr} (I:Inv X pins σ H s) (k:∀ b o,b ∉ ch->s.heap.get? b=some o->h'.get? b=some o) (hf:∀ b∈ch,FpOk X pins H b):Inv X pins σ H { s with heap:=h',toks:=t' }:=by
  have nit:∀ b u,H b=some u->b ∉ ch:=fun b u e z=>by
    have q:=(hf b z).1
    rw [q] at e;cases e
  refine I.step (g':=s.gens) (d':=s.drawn) (ch:=ch) (fun b hb=>⟨(hf b hb).2.2.2.1,(hf b hb).2.1,(hf b hb).2.2.2.2.1,(hf b hb).2.2.2.2.2⟩) (fun b o _ _ hc e _=>k b o hc e) (fun b o _ _ hc e _=>⟨o.slots,k b o hc e⟩)
    (fun _ _ _ _ n=>n) (fun b o hc e=>⟨o,k b o hc e⟩) (fun _ _ e=>e) (fun _ _ _ e=>e) (fun b ps e=>⟨#[],by rw [e];simp⟩) (fun m hm=>?_) (fun b u e=>?_) I.bare
  · obtain ⟨o,es,ep,ho,r⟩:=hm
    exact⟨o,es,ep,k _ o (fun z=>(hf _ z).2.1 rfl) ho,r⟩
  · refine (I.hok b u e).stay (fun c v hc q=>k c v ?_ q) (fun _ q=>q) fun _ _ q=>q
    rcases hc with z | z
    · rw [z];exact nit b u e
    · exact nit c _ z
theorem Inv.turnedNew {t':Nat}{ch:List Addr}{T:Addr}{ob:HO} (I:Inv X pins σ H s) (k:∀ b o,b ∉ ch->s.heap.get? b=some o->h'.get? b=some o) (hf:∀ b∈ch,FpOk X pins H b) (hT:s.heap.objs.size<=T)
    (new:ObjOk X.prog X.w (upd H T ob) h' T ob):Inv X pins σ (upd H T ob) { s with heap:=h',toks:=t' }:=by
  have hn:H T=none:=I.hok.fresh hT
  have nit:∀ b u,H b=some u->b ∉ ch:=fun b u e z=>by
    have q:=(hf b z).1
    rw [q] at e;cases e
  refine I.step (g':=s.gens) (d':=s.drawn) (ch:=ch) (fun b hb=>⟨(hf b hb).2.2.2.1,(hf b hb).2.1,(hf b hb).2.2.2.2.1,(hf b hb).2.2.2.2.2⟩) (fun b o _ _ hc e _=>k b o hc e) (fun b o _ _ hc e _=>⟨o.slots,k b o hc e⟩)
    (fun b o _ e n=>?_) (fun b o hc e=>⟨o,k b o hc e⟩) (fun b xs e=>?_) (fun b o u e=>?_) (fun b ps e=>⟨#[],?_⟩) (fun m hm=>?_) (fun b u e=>?_) I.bare
  · rw [upd_ne (Nat.ne_of_lt (Nat.lt_of_lt_of_le (Heap.lt_size e) hT))];exact n
  · rw [upd_ne (ne_of_none e hn)];exact e
  · rw [upd_ne (ne_of_none e hn)];exact e
  · rw [upd_ne (ne_of_none e hn),e];simp
  · obtain ⟨o,es,ep,ho,r⟩:=hm
    exact⟨o,es,ep,k _ o (fun z=>(hf _ z).2.1 rfl) ho,r⟩
  · by_cases hb:b=T
    · subst hb
      rw [upd_same] at e
      cases e
      exact new
    · rw [upd_ne hb] at e
      refine (I.hok b u e).stay (fun c v hc q=>k c v ?_ q) (fun c q=>by rw [upd_ne (ne_of_none q hn)];exact q) fun c xs q=>by rw [upd_ne (ne_of_none q hn)];exact q
      rcases hc with z | z
      · rw [z];exact nit b u e
      · exact nit c _ z
theorem Inv.lock {d:Addr}{u:HO} (I:Inv X pins σ H s) (h:H d=some u) (mu:Mut (some u)):∃ od,Inv X pins σ (upd H d (.frz od u)) s:=by
  have x:=I.hok d u h
  have ex:∃ od,s.heap.get? d=some od:=by
    cases u with
    | lst xs=>obtain ⟨_,_,_,_,e⟩:=x;exact⟨_,e⟩
    | dK kvs=>obtain ⟨_,_,_,_,o,_,_,e,_⟩:=x;exact⟨o,e⟩
    | dT kvs=>obtain ⟨_,_,_,_,o,_,_,e,_⟩:=x;exact⟨o,e⟩
    | set S n=>obtain ⟨o,_,_,_,e,_⟩:=x;exact⟨o,e⟩
    | ins C dx fs=>obtain ⟨_,_,_,e,_⟩:=x;exact⟨_,e⟩
    | ext φ=>obtain ⟨_,⟨_,e⟩,_⟩:=x;exact⟨_,e⟩
    | _=>exact False.elim mu
  obtain ⟨od,e⟩:=ex
  have new:ObjOk X.prog X.w (upd H d (.frz od u)) s.heap d (.frz od u):=by
    refine⟨e,x.stay (fun b v _ q=>q) (fun b q=>?_) fun b xs q=>?_⟩
    · rw [upd_ne (fun z=>by rw [z,h] at q;cases q;exact mu)];exact q
    · rw [upd_ne (fun z=>by rw [z,h] at q;cases q;exact mu)];exact q
  exact⟨od,I.write (x:=d) (e:=d) (t':=s.toks) (h':=s.heap) (by rw [h];exact mu) (.inl rfl) (fun b v _ q=>q) ⟨od,e⟩ new⟩
theorem Inv.nofrz {d:Addr}{u:HO} (I:Inv X pins σ H s) (h:H d=some u) (mu:Mut (some u)):∀ o' u',X.H_0 d≠some (.frz o' u'):=fun o' u' e=>by
  have q:=I.base.frzs d o' u' e
  rw [h] at q
  cases q
  exact mu
theorem Inv.unlock {d:Addr}{od:Obj}{u:HO} (I:Inv X pins σ H s) (h:H d=some (.frz od u)) (hn:∀ o' u',X.H_0 d≠some (.frz o' u')):Inv X pins σ (upd H d u) s:=by
  have neH:∀ b o,H b=some o->(∀ o' u',o≠.frz o' u')->b≠d:=fun b o e hne z=>by
    rw [z,h] at e
    cases e
    exact hne _ _ rfl
  have neN:∀ b,H b=none->b≠d:=fun b e z=>by rw [z,h] at e;cases e
  refine⟨I.ok,I.os,I.bare,⟨I.base.keep,I.base.slot,fun b o e n hx=>?_,I.base.there,fun b xs e=>?_,fun b o x e=>?_,fun b ps e=>?_⟩,I.loc,I.cell,?_,fun x c e=>?_,fun p hp=>?_,fun b o e=>?_,I.len⟩
  · rw [upd_ne (neN b (I.base.free b o e n hx))];exact I.base.free b o e n hx
  · have q:=I.base.tups b xs e
    rw [upd_ne (neH b _ q (fun _ _ z=>nomatch z))];exact q
  · have q:=I.base.frzs b o x e
    rw [upd_ne (fun z=>by rw [z] at e;exact hn _ _ e)];exact q
  · obtain ⟨m,q⟩:=I.base.tbls b ps e
    exact⟨m,by rw [upd_ne (neH b _ q (fun _ _ z=>nomatch z))];exact q⟩
  · rw [upd_ne (neN _ I.free)];exact I.free
  · rw [upd_ne (neN c (I.freeC x c e))];exact I.freeC x c e
  · obtain ⟨e,n,r⟩:=I.pin p hp
    exact⟨e,by rw [upd_ne (neN _ n)];exact n,r⟩
  · by_cases hb:b=d
    · rw [hb,upd_same] at e
      cases e
      rw [hb]
      obtain ⟨_,x⟩:=I.hok d _ h
      exact x.stay (fun c v _ q=>q) (fun c q=>by rw [upd_ne (neH c _ q (fun _ _ z=>nomatch z))];exact q) fun c xs q=>by rw [upd_ne (neH c _ q (fun _ _ z=>nomatch z))];exact q
    · rw [upd_ne hb] at e
      exact (I.hok b o e).stay (fun c v _ q=>q) (fun c q=>by rw [upd_ne (neH c _ q (fun _ _ z=>nomatch z))];exact q) fun c xs q=>by rw [upd_ne (neH c _ q (fun _ _ z=>nomatch z))];exact q
end
def tLockE (t:TE):TE:=fun σ H Q=>∃ d u,H d=some u/\Mut (some u)/\∀ od,t σ (upd H d (.frz od u)) fun v H'=>H' d=some (.frz od u)/\Q v (upd H' d u)
section
variable {X:Cx}
theorem pe_lock {e:Expr}{t:TE} (h:PE X e t):PE X e (tLockE t):=by
  intro pins s σ H Q I hw
  obtain ⟨d,u,hd,mu,hw⟩:=hw
  obtain ⟨od,I1⟩:=I.lock hd mu
  refine thn (h pins s σ _ _ I1 (hw od)) fun v s1 ⟨x,H1,I2,r,e2,q⟩=>?_
  exact⟨x,_,I2.unlock e2 (I.nofrz hd mu),r,q⟩
theorem pi_one {tg:Expr}{pins:List (Addr × Obj)}{σ:St}{H:Hp}{s:Shared}{R:It->Hp->Prop}{J:It}{tn:Nat->Heap->Prop}{tk:Nat} (I:Inv X pins σ H s) (o:Obj)
    (T:Turn X.prog X.w X.K tg J [s.heap.objs.size] s.heap.objs.size tn) (st:tn 0 (s.heap.push o)) (q:R J H):PIE X pins σ tg R (.ref s.heap.objs.size) { s with heap:=s.heap.push o,toks:=tk }:=by
  refine⟨s.heap.objs.size,[s.heap.objs.size],tn,J,H,rfl,I.kept fun b ob e=>Heap.get?_push_of_some _ e,T,st,fun b hb=>?_,q⟩
  have e:b=s.heap.objs.size:=by simpa using hb
  subst e
  exact I.fpOk (Nat.le_refl _) (I.hok.fresh (Nat.le_refl _))
end
section
variable {prog:Program}{w:World}{A:Around}{E:Value->Shared->Prop}{s:Shared}
theorem iter_keys {d:Addr}{o:Obj}{es:Array DictEntry}{ep:Nat}{Q:Value->Shared->Prop} (hd:(d==sysModules)=false) (ho:s.heap.get? d=some o) (hc:o.ExactDict) (hdat:o.data=.dict es ep)
    (hQ:Q (.ref s.heap.objs.size) { s with heap:=s.heap.push { cls:=.type "dict_keyiterator",data:=.fields #[.ref d,.int 0 0,.int es.size 0,.int ep 0] } }) :
    wpAny (model prog w) A (pyIter (.ref d)) Q E s:=by
  have hT:s.TypeIs (.ref d) "dict":=⟨o,ho,hc.1⟩
  refine wpAny_pyIter_slot hT F.slot_dict_iter (wpAny_call_entry F.slot_dict_iter hT F.entry_dict_iter ?_ (F.args_dict_iter_1 _))
  unfold Builtin.«dict.__iter__»
  refine wpAny_bind ?_
  unfold Builtin.Dict.dictSlotNone
  refine wpAny_bind (wpAny_notOrdered_dict hT ?_)
  show wpAny _ _ (pure (Value.ref d)) _ _ s
  refine wpAny_pure ?_
  show wpAny _ _ (Builtin.Dict.showsAll d >>= _) _ _ s
  unfold Builtin.Dict.showsAll
  rw [if_neg (by rw [hd];exact Bool.false_ne_true)]
  refine wpAny_bind (wpAny_pure ?_)
  refine wpAny_bind (wpAny_dictEntries ho hdat ?_)
  refine wpAny_bind (wpAny_dictEpoch ho hdat ?_)
  refine wpAny_bind (wpAny_newObj_type (wpAny_pure ⟨_,rfl,"dict_keyiterator",_,⟨_,Heap.get?_push_size _ rfl,rfl⟩,F.slot_dict_keyiterator_next.lookup,?_⟩))
  simpa [rawInt] using hQ
theorem next_key_item {it d:Addr}{i n ep:Nat}{od:Obj}{es:Array DictEntry}{en:DictEntry}{Q:Option Value->Shared->Prop} (hit:s.heap.IsKeyIter it d i n ep) (hod:s.heap.get? d=some od) (hdd:od.data=.dict es ep)
    (hsz:es.size=n) (hx:es[i]?=some en) (hQ:∀ h',h'.IsKeyIter it d (i+1) n ep->Heap.SameBut it s.heap h'->Q (some en.key) { s with heap:=h' }):wpAny (model prog w) A (pyNext (.ref it)) Q E s:=by
  obtain ⟨o,ho,hc,hd⟩:=id hit
  unfold pyNext
  refine wpAny_bind (wpAny_attempt (wpAny_callSpecial?_slot (name:=Str.ofString "__next__") hit.typeIs F.slot_dict_keyiterator_next
    (wpAny_call_entry F.slot_dict_keyiterator_next hit.typeIs F.entry_dict_keyiterator_next ?_ (F.args_dict_keyiterator_next_1 _))))
  refine wpAny_bind (wpAny_pure ?_)
  refine wpAny_bind ?_
  refine wpAny_bind ?_
  first | refine wpAny_bind (wpAny_typeNameOfWhole_keyiter hit.typeIs (wpAny_pure ?_)) | refine wpAny_bind (wpAny_typeNameOf_keyiter hit.typeIs (wpAny_pure ?_))
  refine wpAny_bind (wpAny_fieldsOf ho hd ?_)
  have hown:Builtin.Dict_items.ownsTuple "dict_keyiterator"=false:=by decide
  simp only [hown,Bool.false_eq_true,if_false]
  show wpAny _ _ (if (Value.ref d==Value.none)=true then _ else _) _ _ s
  rw [if_neg (show ¬ ((Value.ref d==Value.none)=true) from Bool.false_ne_true)]
  refine wpAny_bind (wpAny_pure ?_)
  refine wpAny_bind (wpAny_dictEntries hod hdd ?_)
  rw [if_neg (by rw [hsz];simp)]
  refine wpAny_bind (wpAny_pure ?_)
  refine wpAny_bind (wpAny_dictEpoch hod hdd ?_)
  rw [if_neg (by simp)]
  refine wpAny_pure ?_
  obtain ⟨hlt',hen⟩:=Array.getElem?_eq_some_iff.mp hx
  simp only [show ¬ ((i:Int)<0) from by omega,if_false,Int.toNat_natCast,Array.getElem?_eq_getElem hlt']
  refine wpAny_bind ?_
  first | refine wpAny_bind (wpAny_typeNameOfWhole_keyiter hit.typeIs (wpAny_pure ?_)) | refine wpAny_bind (wpAny_typeNameOf_keyiter hit.typeIs (wpAny_pure ?_))
  refine wpAny_bind (wpAny_isOneOf_keyiter hit.typeIs ?_)
  show wpAny _ _ (setField (.ref it) 1 (rawInt ((i:Int)+1)) >>= _) _ _ s
  refine wpAny_bind (wpAny_setField ho hd (by simp) ?_)
  have hit':(s.heap.update it (Obj.mapFields (·.setIfInBounds 1 (rawInt ((i:Int)+1))))).IsKeyIter it d (i+1) n ep:=
    ⟨_,Heap.get?_update_self _ ho (Obj.isFreed_of_fields (Obj.data_mapFields hd _)),(Obj.cls_mapFields ..).trans hc,by rw [Obj.data_mapFields hd];simp [rawInt]⟩
  refine wpAny_bind (wpAny_holding ?_)
  refine wpAny_bind (wpAny_isOneOf_keyiter (s:={ s with heap:=s.heap.update it (Obj.mapFields (·.setIfInBounds 1 (rawInt ((i:Int)+1)))) }) hit'.typeIs ?_)
  show wpAny _ _ (pure es[i].key) _ _ _
  rw [hen]
  exact wpAny_pure (wpAny_pure ⟨_,rfl,wpAny_pure (hQ _ hit' (Heap.SameBut.update ..))⟩)
theorem next_key_end {it d:Addr}{i n ep:Nat}{od:Obj}{es:Array DictEntry}{Q:Option Value->Shared->Prop} (hh:A.handled=none) (hit:s.heap.IsKeyIter it d i n ep) (hod:s.heap.get? d=some od) (hdd:od.data=.dict es ep)
    (hsz:es.size=n) (hge:n<=i) (hQ:∀ h',Heap.ExtBut it s.heap h'->Q none { s with heap:=h' }):wpAny (model prog w) A (pyNext (.ref it)) Q E s:=by
  obtain ⟨o,ho,hc,hd⟩:=id hit
  unfold pyNext
  refine wpAny_bind (wpAny_attempt (wpAny_callSpecial?_slot (name:=Str.ofString "__next__") hit.typeIs F.slot_dict_keyiterator_next
    (wpAny_call_entry F.slot_dict_keyiterator_next hit.typeIs F.entry_dict_keyiterator_next ?_ (F.args_dict_keyiterator_next_1 _))))
  refine wpAny_bind (wpAny_pure ?_)
  refine wpAny_bind ?_
  refine wpAny_bind ?_
  first | refine wpAny_bind (wpAny_typeNameOfWhole_keyiter hit.typeIs (wpAny_pure ?_)) | refine wpAny_bind (wpAny_typeNameOf_keyiter hit.typeIs (wpAny_pure ?_))
  refine wpAny_bind (wpAny_fieldsOf ho hd ?_)
  have hown:Builtin.Dict_items.ownsTuple "dict_keyiterator"=false:=by decide
  simp only [hown,Bool.false_eq_true,if_false]
  show wpAny _ _ (if (Value.ref d==Value.none)=true then _ else _) _ _ s
  rw [if_neg (show ¬ ((Value.ref d==Value.none)=true) from Bool.false_ne_true)]
  refine wpAny_bind (wpAny_pure ?_)
  refine wpAny_bind (wpAny_dictEntries hod hdd ?_)
  rw [if_neg (by rw [hsz];simp)]
  refine wpAny_bind (wpAny_pure ?_)
  refine wpAny_bind (wpAny_dictEpoch hod hdd ?_)
  rw [if_neg (by simp)]
  refine wpAny_pure ?_
  have hge':es.size<=i:=by rw [hsz];exact hge
  simp only [show ¬ ((i:Int)<0) from by omega,if_false,Int.toNat_natCast,Array.getElem?_eq_none hge']
  refine wpAny_bind ?_
  first | refine wpAny_bind (wpAny_typeNameOfWhole_keyiter hit.typeIs (wpAny_pure ?_)) | refine wpAny_bind (wpAny_typeNameOf_keyiter hit.typeIs (wpAny_pure ?_))
  show wpAny _ _ (setField (.ref it) 0 .none >>= _) _ _ s
  refine wpAny_bind (wpAny_setField ho hd (by simp) ?_)
  show wpAny _ _ (newExc (.type "StopIteration") [] >>= _) _ _ _
  refine wpAny_bind ?_
  simp only [newExc,newTuple]
  refine wpAny_bind (wpAny_newObj_type ?_ (by size_fits))
  refine wpAny_bind (m:=firstArgMember _ _) (wpAny_of_eq (a:=Value.none) (by first | rfl | (simp only [firstArgMember];rfl)) ?_)
  refine wpAny_newObj_type ?_ (by size_fits)
  simp only [raiseNew]
  refine wpAny_bind (wpAny_handled ?_)
  rw [show A.in1.handled=none from hh]
  refine wpAny_bind (wpAny_pure (wpAny_throw ?_))
  refine wpAny_bind (wpAny_isInstance (T:="StopIteration") (b:=true) ⟨_,Heap.get?_push_size _ rfl,rfl⟩ isSubtype_stop ?_)
  exact wpAny_pure (hQ _ (((Heap.SameBut.update ..).extBut.push _).push _))
end
theorem kv_get {κ:Type}{kvs:List (κ × V)}{vs:List (κ × Value)} (h:KV kvs vs):∀ {i:Nat}{k:κ}{v:V},kvs[i]?=some (k,v)->∃ u,vs[i]?=some (k,u)/\RelV v u:=by
  unfold KV at h
  induction h with
  | nil=>intro i k v e;simp at e
  | @cons a b l₁ l₂ r t ih=>
    intro i k v e
    cases i with
    | zero=>
      simp only [List.getElem?_cons_zero,Option.some.injEq] at e
      subst e
      refine⟨b.2,?_,r.2⟩
      simp only [List.getElem?_cons_zero]
      exact congrArg some (Prod.ext r.1.symm rfl)
    | succ j=>
      simp only [List.getElem?_cons_succ] at e ⊢
      exact ih e
theorem paired_get {α β:Type}{G:α->β->Prop}{l₁:List α}{l₂:List β} (h:Paired G l₁ l₂):∀ {i:Nat}{a:α},l₁[i]?=some a->∃ b,l₂[i]?=some b/\G a b:=by
  induction h with
  | nil=>intro i a e;simp at e
  | @cons a b l₁ l₂ r t ih=>
    intro i a' e
    cases i with
    | zero=>
      simp only [List.getElem?_cons_zero,Option.some.injEq] at e
      subst e
      exact⟨b,rfl,r⟩
    | succ j=>
      simp only [List.getElem?_cons_succ] at e ⊢
      exact ih e
theorem relV_key {k:Key}{u:Value} (h:keyIs k u=true):RelV (kV k) u:=by
  rcases keyIs_shape h with ⟨i,t,rfl,rfl⟩ | ⟨x,t,rfl,rfl⟩
  · exact⟨t,rfl⟩
  · exact⟨t,rfl⟩
section
variable {X:Cx}{pins:List (Addr × Obj)}{σ:St}{H:Hp}{s:Shared}{d:Addr}{o:Obj}
theorem Inv.frzK {kvs:List (Key × V)} (I:Inv X pins σ H s) (h:H d=some (.frz o (.dK kvs))) :
    (d==sysModules)=false/\s.heap.get? d=some o/\o.ExactDict/\∃ (es:Array DictEntry) (ep:Nat) (vs:List (Key × Value)),o.data=.dict es ep/\es.size=kvs.length/\KV kvs vs/\s.heap.DictAt (mixKind X.prog X.w) d vs ep:=by
  obtain ⟨hd,z,hs,vs,kv,o',es,ep,ho,hx,hdt,r⟩:=I.hok d _ h
  rw [hd] at ho
  cases ho
  refine⟨hs,hd,hx,es,ep,vs,hdt,?_,kv,o,es,hd,hx,hdt,r⟩
  have l1:=r.2.1.length
  have l2:kvs.length=vs.length:=Paired.length kv
  rw [Array.length_toList] at l1
  omega
theorem Inv.frzT {kvs:List (List Key × V)} (I:Inv X pins σ H s) (h:H d=some (.frz o (.dT kvs))) :
    (d==sysModules)=false/\s.heap.get? d=some o/\o.ExactDict/\∃ (es:Array DictEntry) (ep:Nat),o.data=.dict es ep/\es.size=kvs.length /\
      ∀ (i:Nat) (k:List Key) (v:V),kvs[i]?=some (k,v)->∃ (en:DictEntry) (q:Addr),es[i]?=some en/\en.key=.ref q/\H q=some (.tup (k.map kV)):=by
  obtain ⟨hd,z,hs,xs,pr,o',es,ep,ho,hx,hdt,he,_⟩:=I.hok d _ h
  rw [hd] at ho
  cases ho
  refine⟨hs,hd,hx,es,ep,hdt,?_,fun i k v e=>?_⟩
  · have l1:es.size=xs.length:=size_of_entries he
    have l2:kvs.length=xs.length:=Paired.length pr
    omega
  · obtain ⟨b,hb,e1,e2,_⟩:=paired_get pr e
    have q:=entry_at he i
    rw [hb] at q
    exact⟨_,b.2.1,q,rfl,e2⟩
end
def Itk (d:Addr) (o:Obj) (kvs:List (Key × V)):It:=
  ⟨fun i H=>H d=some (.frz o (.dK kvs))/\i<kvs.length,fun i H x H'=>H'=H/\∃ k v,kvs[i]?=some (k,v)/\x=kV k,fun i H=>H d=some (.frz o (.dK kvs))/\kvs.length<=i⟩
def Itkt (d:Addr) (o:Obj) (kvs:List (List Key × V)):It:=
  ⟨fun i H=>H d=some (.frz o (.dT kvs))/\i<kvs.length,fun i H x H'=>H'=H/\∃ (k:List Key) (v:V) (q:Addr),kvs[i]?=some (k,v)/\x=.ref q/\H q=some (.tup (k.map kV)),fun i H=>H d=some (.frz o (.dT kvs))/\kvs.length<=i⟩
theorem dict_ep {o:Obj}{es es':Array DictEntry}{ep ep':Nat} (h:o.data=.dict es ep) (h':o.data=.dict es' ep'):es'=es/\ep'=ep:=by
  rw [h] at h'
  cases h'
  exact⟨rfl,rfl⟩
section
variable {P:Program}{w:World}{K:PySem.W.Frag}{tg:Expr}{d:Addr}{o:Obj}{es:Array DictEntry}{ep:Nat}
theorem turn_keys {kvs:List (Key × V)} (it:Addr) (hod:o.data=.dict es ep):Turn P w K tg (Itk d o kvs) [it] it (fun i h=>h.IsKeyIter it d i kvs.length ep) where
  mem:=by simp
  obj:=fun i h st b hb=>by
    have e:b=it:=by simpa using hb
    subst e
    obtain ⟨oi,e,c,dd⟩:=st
    exact⟨oi,e,fun v z=>by rw [dd] at z;cases z⟩
  keep:=fun i h h' st k=>st.at fun oi e=>k it (by simp) oi e
  item:=by
    intro X hP hw hK hc i pins s σ H E I hf st hg
    subst hP hw hK
    obtain ⟨hd,hi⟩:=hg
    obtain ⟨f0,f1,f2,f3,f4,f5⟩:=hf it (by simp)
    obtain ⟨hs,hgd,hx,es',ep',vs,hdt,hsz,kv,hm⟩:=I.frzK hd
    obtain ⟨rfl,rfl⟩:=dict_ep hod hdt
    obtain ⟨⟨k,v⟩,hkv⟩:∃ p,kvs[i]?=some p:=⟨kvs[i],List.getElem?_eq_getElem hi⟩
    obtain ⟨u,hu,ru⟩:=kv_get kv hkv
    have hl:kvs.length=vs.length:=Paired.length kv
    rw [hl] at st
    refine wpAny_pyNext_dict_item st hm hu fun key h' hkey st' sb=>?_
    have I1:Inv X pins σ H { s with heap:=h' }:=I.turned (t':=s.toks) (fun b ob hb e=>(sb.2 b hb).trans e) f0 f1 f3 f4 f5
    obtain ⟨oi,e,c,dd⟩:=id st'
    refine⟨key,rfl,go_of (s:={ s with heap:=h' }) e c dd (by decide) ⟨kV k,H,I1,relV_key (show keyIs k key=true from hkey),⟨rfl,k,v,hkv,rfl⟩,?_,fun b hb=>(hf b hb).1⟩⟩
    show h'.IsKeyIter it d (i+1) kvs.length _
    rw [hl]
    exact st'
  done:=by
    intro X hP hw hK hc i pins s σ H E I hf st hg
    subst hP hw hK
    obtain ⟨hd,hi⟩:=hg
    obtain ⟨f0,f1,f2,f3,f4,f5⟩:=hf it (by simp)
    obtain ⟨hs,hgd,hx,es',ep',vs,hdt,hsz,kv,hm⟩:=I.frzK hd
    obtain ⟨rfl,rfl⟩:=dict_ep hod hdt
    exact next_key_end (I.ok.hd hc) st hgd hdt hsz hi fun h' eb=>⟨rfl,I.turned (t':=s.toks) (fun b ob hb e=>eb b ob hb e) f0 f1 f3 f4 f5⟩
  self:=fun A i s Q E st h=>wpAny_pyIter_keyiter st h
theorem turn_keysT {kvs:List (List Key × V)} (it:Addr) (hod:o.data=.dict es ep):Turn P w K tg (Itkt d o kvs) [it] it (fun i h=>h.IsKeyIter it d i kvs.length ep) where
  mem:=by simp
  obj:=fun i h st b hb=>by
    have e:b=it:=by simpa using hb
    subst e
    obtain ⟨oi,e,c,dd⟩:=st
    exact⟨oi,e,fun v z=>by rw [dd] at z;cases z⟩
  keep:=fun i h h' st k=>st.at fun oi e=>k it (by simp) oi e
  item:=by
    intro X hP hw hK hc i pins s σ H E I hf st hg
    subst hP hw hK
    obtain ⟨hd,hi⟩:=hg
    obtain ⟨f0,f1,f2,f3,f4,f5⟩:=hf it (by simp)
    obtain ⟨hs,hgd,hx,es',ep',hdt,hsz,ent⟩:=I.frzT hd
    obtain ⟨rfl,rfl⟩:=dict_ep hod hdt
    obtain ⟨⟨k,v⟩,hkv⟩:∃ p,kvs[i]?=some p:=⟨kvs[i],List.getElem?_eq_getElem hi⟩
    obtain ⟨en,q,hen,hkey,hq⟩:=ent i k v hkv
    refine next_key_item st hgd hdt hsz hen fun h' st' sb=>?_
    have I1:Inv X pins σ H { s with heap:=h' }:=I.turned (t':=s.toks) (fun b ob hb e=>(sb.2 b hb).trans e) f0 f1 f3 f4 f5
    obtain ⟨oi,e,c,dd⟩:=id st'
    exact⟨en.key,rfl,go_of (s:={ s with heap:=h' }) e c dd (by decide) ⟨.ref q,H,I1,hkey,⟨rfl,k,v,q,hkv,rfl,hq⟩,st',fun b hb=>(hf b hb).1⟩⟩
  done:=by
    intro X hP hw hK hc i pins s σ H E I hf st hg
    subst hP hw hK
    obtain ⟨hd,hi⟩:=hg
    obtain ⟨f0,f1,f2,f3,f4,f5⟩:=hf it (by simp)
    obtain ⟨hs,hgd,hx,es',ep',hdt,hsz,ent⟩:=I.frzT hd
    obtain ⟨rfl,rfl⟩:=dict_ep hod hdt
    exact next_key_end (I.ok.hd hc) st hgd hdt hsz hi fun h' eb=>⟨rfl,I.turned (t':=s.toks) (fun b ob hb e=>eb b ob hb e) f0 f1 f3 f4 f5⟩
  self:=fun A i s Q E st h=>by
    refine wpAny_pyIter_slot st.typeIs F.slot_dict_keyiterator_iter (wpAny_call_entry F.slot_dict_keyiterator_iter st.typeIs F.entry_dict_keyiterator_iter ?_ (F.args_dict_keyiterator_iter_1 _))
    show wpAny _ _ (ret (.ref it)) _ _ s
    exact wpAny_pure ⟨_,rfl,"dict_keyiterator",_,st.typeIs,F.slot_dict_keyiterator_next.lookup,h⟩
end
def iKeys (td:TE):TI:=fun σ H R=>td σ H fun x H1=>∃ d o,x=.ref d/\((∃ kvs,H1 d=some (.frz o (.dK kvs))/\R (Itk d o kvs) H1) \/ ∃ kvs,H1 d=some (.frz o (.dT kvs))/\R (Itkt d o kvs) H1)
section
variable {X:Cx}{tg e:Expr}{td:TE}{apos cpos:Pos}
theorem pi_keys (he:PE X e td):PI X tg e (iKeys td):=by
  intro pins s σ H R I h
  refine thn (he pins s σ H _ I h) fun u s1 ⟨x,H1,I1,rx,d,o,ex,q⟩=>?_
  subst ex
  obtain rfl:u=Value.ref d:=rx
  rcases q with ⟨kvs,hd,q⟩ | ⟨kvs,hd,q⟩
  · obtain ⟨hs,hgd,hx,es,ep,vs,hdt,hsz,kv,hm⟩:=I1.frzK hd
    refine iter_keys hs hgd hx hdt (pi_one (tk:=s1.toks) I1 _ (turn_keys _ hdt) ⟨_,Heap.get?_push_size _ rfl,rfl,?_⟩ q)
    rw [hsz] <;> rfl
  · obtain ⟨hs,hgd,hx,es,ep,hdt,hsz,ent⟩:=I1.frzT hd
    refine iter_keys hs hgd hx hdt (pi_one (tk:=s1.toks) I1 _ (turn_keysT _ hdt) ⟨_,Heap.get?_push_size _ rfl,rfl,?_⟩ q)
    rw [hsz] <;> rfl
end
theorem boot_zip5:bootBuiltins "zip"=some (.type "zip"):=by decide +kernel
def Itz (K:PySem.W.Frag) (a b:Addr):It:=
  ⟨fun i H=>∃ (xs ys:List V) (x y:V),SqL K H a xs/\SqL K H b ys/\xs[i]?=some x/\ys[i]?=some y,
    fun i H v H'=>∃ T x y,v=.ref T/\H T=none/\H'=upd H T (.tup [x,y])/\(∀ xs,SqL K H a xs->xs[i]?=some x)/\∀ ys,SqL K H b ys->ys[i]?=some y,
    fun i H=>∃ xs ys:List V,SqL K H a xs/\SqL K H b ys/\(xs.length<=i \/ ys.length<=i)⟩
theorem turn_zip {P:Program}{w:World}{K:PySem.W.Frag}{elts:List Expr}{kk:Nat}{tpos:Pos}{a b z TI TO i1 i2:Addr} (D:ZipApart z TI TO i1 i2 a b) :
    Turn P w K (.Tuple elts kk tpos) (Itz K a b) [z,TI,TO,i1,i2] z (fun i h=>IsZip h z TI TO .none/\IsPair h TI (.ref i1) (.ref i2)/\(∃ x y,IsPair h TO x y)/\h.IsListIter i1 a i/\h.IsListIter i2 b i) where
  mem:=by simp
  obj:=fun i h st c hc=>by
    obtain ⟨hz,hTI,⟨x,y,hTO⟩,⟨o1,e1,_,d1⟩,⟨o2,e2,_,d2⟩⟩:=st
    have e':c=z \/ c=TI \/ c=TO \/ c=i1 \/ c=i2:=by simpa using hc
    rcases e' with q | q | q | q | q
    · rw [q];exact⟨_,hz,fun v q=>nomatch q⟩
    · rw [q];exact⟨_,hTI,fun v q=>nomatch q⟩
    · rw [q];exact⟨_,hTO,fun v q=>nomatch q⟩
    · rw [q];exact⟨o1,e1,fun v q=>by rw [d1] at q;cases q⟩
    · rw [q];exact⟨o2,e2,fun v q=>by rw [d2] at q;cases q⟩
  keep:=fun i h h' st k=>by
    obtain ⟨hz,hTI,⟨x,y,hTO⟩,h1,h2⟩:=st
    exact⟨k z (by simp) _ hz,k TI (by simp) _ hTI,⟨x,y,k TO (by simp) _ hTO⟩,h1.at fun o q=>k i1 (by simp) o q,h2.at fun o q=>k i2 (by simp) o q⟩
  item:=by
    intro X hP hw hK hc i pins s σ H E I hf st hg
    subst hP hw hK
    obtain ⟨hz,hTI,⟨x0,y0,hTO⟩,h1,h2⟩:=st
    obtain ⟨xs,ys,x,y,hqx,hqy,hx,hy⟩:=hg
    obtain ⟨its,rv,p,_⟩:=I.list hqx
    obtain ⟨its2,rv2,p2,_⟩:=I.list hqy
    obtain ⟨u,hu,ru⟩:=rv.get hx
    obtain ⟨u2,hu2,ru2⟩:=rv2.get hy
    have hzl:z<s.heap.objs.size:=Heap.lt_size hz
    refine wpAny_pyNext_zip_item D hz hTI hTO h1 h2 p.isList p2.isList (x:=u) (y:=u2) (by simpa using hu) (by simpa using hu2) fun h' z' TO' h1' h2' hT hsz hk=>?_
    refine⟨_,rfl,wpAny_letOwnedTupleGo_zip (s:={ s with heap:=h' }) z' fun h'' z'' sb=>?_⟩
    have hT2:h''.get? s.heap.objs.size=some { cls:=.type "tuple",data:=.seq #[u,u2] }:=(sb.2 _ (Nat.ne_of_gt hzl)).trans hT
    have new:ObjOk X.prog X.w (upd H s.heap.objs.size (.tup [x,y])) h'' s.heap.objs.size (.tup [x,y]):=
      ⟨by show 2<=sizeLine;decide,[u,u2],.cons ru (.cons ru2 .nil),⟨_,hT2,rfl,_,rfl⟩⟩
    have I1:Inv X pins σ (upd H s.heap.objs.size (.tup [x,y])) { s with heap:=h'' }:=
      I.turnedNew (t':=s.toks) (ch:=[z,TI,TO,i1,i2]) (fun c o hb q=>(sb.2 c (fun q'=>hb (by simp [q']))).trans (hk c o (fun q'=>hb (by simp [q'])) (fun q'=>hb (by simp [q'])) (fun q'=>hb (by simp [q'])) (fun q'=>hb (by simp [q'])) q)) hf (Nat.le_refl _) new
    refine⟨.ref s.heap.objs.size,_,I1,rfl,⟨_,x,y,rfl,I.hok.fresh (Nat.le_refl _),rfl,fun l hl=>by rw [I.list_inj hl hqx];exact hx,fun l hl=>by rw [I.list_inj hl hqy];exact hy⟩,⟨z'',?_,⟨u,u2,?_⟩,?_,?_⟩,fun c hcm=>?_⟩
    · exact (sb.2 _ D.TIz).trans (hk _ _ D.TIz D.TITO D.TIi1 D.TIi2 hTI)
    · exact (sb.2 _ D.TOz).trans TO'
    · exact h1'.at fun o q=>(sb.2 _ D.i1z).trans q
    · exact h2'.at fun o q=>(sb.2 _ D.i2z).trans q
    · have hlt:c<s.heap.objs.size:=by
        have e':c=z \/ c=TI \/ c=TO \/ c=i1 \/ c=i2:=by simpa using hcm
        rcases e' with q | q | q | q | q
        · rw [q];exact hzl
        · rw [q];exact Heap.lt_size hTI
        · rw [q];exact Heap.lt_size hTO
        · rw [q];obtain ⟨_,e1,_⟩:=h1;exact Heap.lt_size e1
        · rw [q];obtain ⟨_,e2,_⟩:=h2;exact Heap.lt_size e2
      rw [upd_ne (Nat.ne_of_lt hlt)]
      exact (hf c hcm).1
  done:=by
    intro X hP hw hK hc i pins s σ H E I hf st hg
    subst hP hw hK
    obtain ⟨hz,hTI,⟨x0,y0,hTO⟩,h1,h2⟩:=st
    obtain ⟨xs,ys,hqx,hqy,hend⟩:=hg
    obtain ⟨its,rv,p,_⟩:=I.list hqx
    obtain ⟨its2,rv2,p2,_⟩:=I.list hqy
    have l1:=rv.length
    have l2:=rv2.length
    have he:its.toArray[i]?=none \/ its2.toArray[i]?=none:=by
      rcases hend with q | q
      · exact .inl (by simp;omega)
      · exact .inr (by simp;omega)
    exact wpAny_pyNext_zip_end (I.ok.hd hc) D hz hTI hTO h1 h2 p.isList p2.isList he fun h' hk=>⟨rfl,I.turnedL (t':=s.toks) (ch:=[z,TI,TO,i1,i2]) (fun c o hb q=>
      hk c o (fun q'=>hb (by simp [q'])) (fun q'=>hb (by simp [q'])) (fun q'=>hb (by simp [q'])) (fun q'=>hb (by simp [q'])) q) hf⟩
  self:=fun A i s Q E st h=>wpAny_pyIter_zip st.1 h
def iZip (K:PySem.W.Frag) (ta:TA):TI:=fun σ H R=>ta σ H fun vs H1=>∃ a b xs ys,vs=[.ref a,.ref b]/\SqL K H1 a xs/\SqL K H1 b ys/\R (Itz K a b) H1
theorem pi_zip {X:Cx}{e e2:Expr}{ta:TA}{p pos tpos:Pos}{elts:List Expr}{kk:Nat} (hg:Gl X "zip") (hm:X.mg "zip"=none) (ha:PA X [e,e2] ta)
    (hs:starEach [e,e2] X.env=(false,eval e X.env)::starEach [e2] X.env:=by rfl) (hpl:(backTo pos (starEach [e2] X.env)).any (·.1)=false:=by rfl) :
    PI X (.Tuple elts kk tpos) (.Call (.Name "zip" p) [e,e2] [] pos) (iZip X.K ta):=by
  intro pins s σ H R I h
  refine Call_ (ld_blt I hg hm boot_zip5 (PyProof.Rows.callWith_type1 (thn (ha pos pins s σ H _ I h) fun us s1 ⟨vs,H1,I1,r1,q1⟩=>?_) hs hpl))
  obtain ⟨a,b,xs,ys,ex,hqx,hqy,q⟩:=q1
  subst ex
  cases r1 with
  | cons r rr=>
    cases rr with
    | cons r' rr=>
      cases rr
      cases r
      cases r'
      obtain ⟨its,rv,p1,_⟩:=I1.list hqx
      obtain ⟨its2,rv2,p2,_⟩:=I1.list hqy
      have la:a<s1.heap.objs.size:=p1.lt
      have lb:b<s1.heap.objs.size:=p2.lt
      refine call_zip_2 p1.isList p2.isList fun h' hz hTI hTO h1 h2 hsz hk=>wpAny_pyIter_zip hz ?_
      have I2:Inv X pins σ H1 { s1 with heap:=h' }:=I1.kept (t':=s1.toks) hk
      refine⟨s1.heap.objs.size+4,[s1.heap.objs.size+4,s1.heap.objs.size+2,s1.heap.objs.size+3,s1.heap.objs.size,s1.heap.objs.size+1],_,_,H1,rfl,I2,turn_zip (PySem.W.ktu_apart s1.heap.objs.size a b la lb),⟨hz,hTI,⟨_,_,hTO⟩,h1,h2⟩,fun c hcm=>?_,q⟩
      have e':c=s1.heap.objs.size+4 \/ c=s1.heap.objs.size+2 \/ c=s1.heap.objs.size+3 \/ c=s1.heap.objs.size \/ c=s1.heap.objs.size+1:=by simpa using hcm
      have hle:s1.heap.objs.size<=c:=by
        rcases e' with z | z | z | z | z
        · rw [z];exact Nat.le_add_right _ _
        · rw [z];exact Nat.le_add_right _ _
        · rw [z];exact Nat.le_add_right _ _
        · rw [z];exact Nat.le_refl _
        · rw [z];exact Nat.le_add_right _ _
      exact I1.fpOk hle (I1.hok.fresh hle)
end L2
section
namespace Bits
open PySem PyProof.Rows
end Bits
end
section
namespace TL
open PySem PySem.Builtin PySem.Builtin.Str PySem.StrLaws
end TL
end
namespace L2
open PySem PySem.Spec PyProof.Rows
end L2
namespace L2
open PySem PySem.Spec PyProof.Rows
end L2
namespace Att
open PySem PySem.W PySem.Calls PyProof.Rows
end Att
namespace L2
open PySem PySem.Spec PyProof.Rows
end L2
namespace L2
open PySem PySem.Spec PyProof.Rows
end L2
namespace L2
open PySem PySem.Spec PyProof.Rows
def inClass (s:Stmt) (j:Nat):Stmt:=match s with
  | .ClassDef _ _ _ body _ _ _ _ _ _ _=>body.getD j (.Pass ⟨0,0,0,0⟩)
  | _=>.Pass ⟨0,0,0,0⟩
def defArgs (s:Stmt):Arguments:=match s with
  | .FunctionDef _ a _ _ _ _ _ _ _ _=>a
  | _=>{ posonlyargs:=[],args:=[],vararg:=none,kwonlyargs:=[],kw_defaults:=[],kwarg:=none,defaults:=[] }
def defBody (s:Stmt):List Stmt:=match s with
  | .FunctionDef _ _ b _ _ _ _ _ _ _=>b
  | _=>[]
def defScope (s:Stmt):Scope:=match s with
  | .FunctionDef _ _ _ _ _ _ sc _ _ _=>sc
  | _=>{ kind:=.function,names:=[],isGenerator:=false,isCoroutine:=false }
abbrev CX0:CXT:=fun _ _ _ _ _ _=>False
abbrev E0:XK:=fun _ _ _=>False
theorem pass0 {X:Cx}:Passes CX0 X E0:=fun _ _ _ _ _ _ _ h=>h.elim
structure Fun (K:PySem.W.Frag) (x qual:Str) (st:Stmt) (f:Addr) (fd:FuncData):Prop where
  ex:∃ (oc:Value) (od:Option Addr) (kV doc pm:Value) (an:Option Addr) (cdv ct:Value) (osl:Array (Option Value)),
    fd=PySem.W.fnOf x qual (defArgs st) (defBody st) (defScope st) .none kV doc pm an cdv ct/\K.lookup f=some ⟨oc,od,.func fd,osl⟩/\PySem.W.codeIn K cdv qual=true
  kp:PySem.W.keepIn K (.ref f)=true
section
variable {P:Program}{w:World}{K:PySem.W.Frag}{mg:Str->Option Value}{base:Heap}
theorem Fun.ok {x qual:Str}{st:Stmt}{f:Addr}{fd:FuncData}{N ps:List Str}{k:Nat}{sp:Sp} (F:Fun K x qual st f fd) (S:FnScope N ps (defScope st)) (len:∀ vs H Q E,sp vs H Q E->vs.length=ps.length)
    (hbody:∀ (cdv:Value) (A:Around) (outer:List Env) (s:Shared) (H:Hp) (vs:List V) (Q:VK) (E:XK),Room k (A.deeper (envOfC qual (defScope st) s.heap.objs.size f cdv))->sp vs H Q E ->
      ∃ t,PSs (cxOf CX0 P w K mg base N qual (defScope st) f cdv A outer s H E).nox (defBody st) t/\t { nx:=fun _ H'=>Q .non H',rt:=Q } (start N vs) H):FnOk P w K mg base CX0 (k+1) f fd ps sp:=by
  obtain ⟨oc,od,kV,doc,pm,an,cdv,ct,osl,rfl,lk,hcd⟩:=F.ex
  refine fn_of lk hcd S len fun A outer s H vs Q E hr hsp=>?_
  obtain ⟨t,h,q⟩:=hbody cdv A outer s H vs Q E hr hsp
  exact⟨t,h.nox,q⟩
theorem Fun.binds {x qual:Str}{st:Stmt}{f:Addr}{fd:FuncData}{ps:List Str} (F:Fun K x qual st f fd)
    (h:∀ (kV doc pm:Value) (an:Option Addr) (cdv ct:Value) (us:List Value),us.length=ps.length->bindArgs (PySem.W.fnOf x qual (defArgs st) (defBody st) (defScope st) .none kV doc pm an cdv ct) ⟨us,[]⟩=pure (ps.zip us)):Binds K fd ps []:=by
  obtain ⟨oc,od,kV,doc,pm,an,cdv,ct,osl,rfl,lk,hcd⟩:=F.ex
  exact .all (h kV doc pm an cdv ct)
theorem fun_mk {x qual:Str}{st:Stmt}{f:Addr}{oc:Value}{od an:Option Addr}{osl:Array (Option Value)}{kV doc pm cdv ct:Value} (l:K.lookup f=some ⟨oc,od,.func (PySem.W.fnOf x qual (defArgs st) (defBody st) (defScope st) .none kV doc pm an cdv ct),osl⟩)
    (c:PySem.W.codeIn K cdv qual=true) (k:PySem.W.keepIn K (.ref f)=true):Fun K x qual st f (PySem.W.fnOf x qual (defArgs st) (defBody st) (defScope st) .none kV doc pm an cdv ct):=⟨⟨oc,od,kV,doc,pm,an,cdv,ct,osl,rfl,l,c⟩,k⟩
end
theorem hu_of {A:Around}{k:Nat} (hr:Room k A):A.units+1<cLine:=Nat.lt_of_le_of_lt (Nat.add_le_add_left (by decide:1<=64) _) hr.units
section
variable {X:Cx}
theorem pv (i:Nat) {x:Str}{pos:Pos} (hN:X.N[i]?=some x:=by rfl) (hv:Vis X.env.scope x:=by first | exact Or.inl rfl | exact Or.inr (Or.inl rfl) | exact Or.inr (Or.inr rfl)) (hd:(x==("__debug__":Str))=false:=by decide)
    (hcd:(x==("__classdict__":Str))=false:=by decide):PE X (.Name x pos) (tVar i):=pe_var hN hv hd hcd
theorem call_lenD:CallR X (.builtin "len") (fun xs H Q=>∃ a kvs,xs=[V.ref a]/\H a=some (.dK kvs)/\Q (.int kvs.length) H):=by
  intro pins s σ H xs us Q I r h
  obtain ⟨a,kvs,rfl,ha,q⟩:=h
  obtain ⟨u,rfl,ru⟩:=vals1 r
  cases ru
  exact d_len I (.inl ha) fun t s' I'=>⟨.int kvs.length,H,I',⟨t,rfl⟩,q⟩
end
theorem iteF {A B:Prop} (h:B):if false=true then A else B:=by
  rw [if_neg Bool.false_ne_true]
  exact h
theorem iteT {A B:Prop} (h:A):if true=true then A else B:=by
  rw [if_pos rfl]
  exact h
def Same (H H':Hp):Prop:=∀ b o,H b=some o->H' b=some o
theorem Same.refl (H:Hp):Same H H:=fun _ _ h=>h
theorem Same.trans {H H1 H2:Hp} (a:Same H H1) (b:Same H1 H2):Same H H2:=fun c o h=>b c o (a c o h)
theorem Same.free {H H':Hp} (e:Same H H') {l:Addr} (h:H' l=Option.none):H l=Option.none:=by
  cases q:H l with
  | none=>rfl
  | some o=>
    rw [e l o q] at h
    cases h
theorem Same.seq {K:PySem.W.Frag}{H H':Hp}{a:Addr}{xs:List V} (e:Same H H') (h:SqL K H a xs):SqL K H' a xs:=by
  rcases h with (h | ⟨o,h⟩) | h
  · exact .inl (.inl (e _ _ h))
  · exact .inl (.inr ⟨o,e _ _ h⟩)
  · exact .inr h
theorem at_of {xs:List V}{z:Int}{j:Nat}{v:V} (e:z=(j:Int)) (h:xs[j]?=some v):atI xs z=some v:=by
  rw [e]
  exact atI_nat h
theorem Same.made {H H1:Hp}{x dx C:Addr} (nx:H x=Option.none) (nd:H dx=Option.none) (k:∀ b o,(upd (upd H dx (.own x)) x (.ins C dx [])) b=some o->b≠x->H1 b=some o):Same H H1:=fun b o e=>
  k b o (by rw [upd_ne (ne_of_none e nx),upd_ne (ne_of_none e nd)];exact e) (ne_of_none e nx)
end L2
end
section
section
set_option Elab.async false
set_option linter.all false
set_option maxRecDepth 100000
set_option maxHeartbeats 2000000
namespace L2
open PySem PySem.Spec PyProof.Rows
open PySem.W (WData Codec OpenSpec Well WellAll ReadsW ReadsAllW)
mutual
inductive Dw (K:PySem.W.Frag) (H:Hp):V->WData->Prop
  | non:Dw K H .non .none
  | bl (b:Bool):Dw K H (.bl b) (.bool b)
  | int (i:Int):Dw K H (.int i) (.int i)
  | str (x:Str):Dw K H (.str x) (.str x)
  | byt (b:Array UInt8):Dw K H (.byt b) (.bytes b.toList)
  | lst {a:Addr}{xs:List V}{ds:List WData}:SqL K H a xs->DwAll K H xs ds->Dw K H (.ref a) (.list ds)
  | tup {a:Addr}{xs:List V}{ds:List WData}:SqT K H a xs->DwAll K H xs ds->Dw K H (.ref a) (.tuple ds)
inductive DwAll (K:PySem.W.Frag) (H:Hp):List V->List WData->Prop
  | nil:DwAll K H [] []
  | cons {v:V}{vs:List V}{d:WData}{ds:List WData}:Dw K H v d->DwAll K H vs ds->DwAll K H (v::vs) (d::ds)
end
theorem dw_ints {K:PySem.W.Frag}{H:Hp}:∀ ns:List Int,DwAll K H (ns.map V.int) (ns.map WData.int)
  | []=>.nil
  | n::r=>.cons (.int n) (dw_ints r)
theorem ints_dw {K:PySem.W.Frag}{H:Hp}:∀ (ns:List Int) (xs:List V),DwAll K H xs (ns.map WData.int)->xs=ns.map V.int
  | [],xs,h=>by
    cases h
    rfl
  | n::r,xs,h=>by
    cases h with
    | cons h1 h2=>
      cases h1
      rw [ints_dw r _ h2] <;> rfl
section
variable {P:Program}{w:World}{K:PySem.W.Frag}{H:Hp}{h:Heap}{R:PySem.W.WRecords}{cl:Str->Option Addr}
theorem sqL_at {a:Addr}{xs:List V} (hok:HOk P w H h) (KX:K.In h) (q:SqL K H a xs):∃ (its:List Value) (o:Obj) (n:Nat),Vals xs its/\h.get? a=some o/\o.cls=.type "list"/\o.data=.seq its.toArray n:=by
  rcases q with q | ⟨o,its,n,e,hc,_,hd,_,hv⟩
  · obtain ⟨_,its,n,hv,e⟩:=(show ObjOk P w H h a (.lst xs) from q.ok hok)
    exact⟨its,_,n,hv,e,rfl,rfl⟩
  · exact⟨its.toList,o,n,hv,KX _ _ e,hc,by simp [hd]⟩
theorem sqT_at {a:Addr}{xs:List V} (hok:HOk P w H h) (KX:K.In h) (q:SqT K H a xs):∃ (its:List Value) (o:Obj) (n:Nat),Vals xs its/\h.get? a=some o/\o.cls=.type "tuple"/\o.data=.seq its.toArray n:=by
  rcases q with q | ⟨o,its,n,e,hc,hd,_,hv⟩
  · obtain ⟨_,its,hv,o,e,hc,n,hd⟩:=(show ObjOk P w H h a (.tup xs) from q.ok hok)
    exact⟨its,o,n,hv,e,hc,hd⟩
  · exact⟨its.toList,o,n,hv,KX _ _ e,hc,by simp [hd]⟩
mutual
theorem Dw.reads (hok:HOk P w H h) (KX:K.In h):∀ (d:WData) (v:V) (u:Value),Dw K H v d->RelV v u->∃ as,ReadsW R cl h u d as
  | .none,_,_,x,r=>by
    cases x
    cases r
    exact⟨_,ReadsW.none⟩
  | .bool b,_,_,x,r=>by
    cases x
    cases r
    exact⟨_,ReadsW.bool b⟩
  | .int i,_,_,x,r=>by
    cases x
    obtain ⟨t,rfl⟩:=r
    exact⟨_,ReadsW.int i t⟩
  | .str s,_,_,x,r=>by
    cases x
    obtain ⟨t,rfl⟩:=r
    exact⟨_,ReadsW.str s t⟩
  | .bytes b,_,_,x,r=>by
    cases x
    obtain ⟨t,rfl⟩:=r
    exact⟨_,ReadsW.bytes _ t⟩
  | .list ds,_,_,x,r=>by
    cases x with
    | lst hs ha=>
      cases r
      obtain ⟨its,o,n,rv,ho,hc,hd⟩:=sqL_at hok KX hs
      obtain ⟨as,hr⟩:=Dw.readsAll hok KX ds _ its ha rv
      exact⟨_,ReadsW.list ho hc hd hr⟩
  | .tuple ds,_,_,x,r=>by
    cases x with
    | tup hs ha=>
      cases r
      obtain ⟨its,o,n,rv,ho,hc,hd⟩:=sqT_at hok KX hs
      obtain ⟨as,hr⟩:=Dw.readsAll hok KX ds _ its ha rv
      exact⟨_,ReadsW.tuple ho hc hd hr⟩
  | .float _,_,_,x,_=>by cases x
  | .dict _,_,_,x,_=>by cases x
  | .bytearray _,_,_,x,_=>by cases x
  | .set _,_,_,x,_=>by cases x
  | .frozenset _,_,_,x,_=>by cases x
  | .obj _ _,_,_,x,_=>by cases x
theorem Dw.readsAll (hok:HOk P w H h) (KX:K.In h):∀ (ds:List WData) (vs:List V) (us:List Value),DwAll K H vs ds->Vals vs us->∃ as,ReadsAllW R cl h us ds as
  | [],_,_,x,r=>by
    cases x
    cases r
    exact⟨_,ReadsAllW.nil⟩
  | d::ds,_,_,x,r=>by
    cases x with
    | cons h1 h2=>
      cases r with
      | cons r1 r2=>
        obtain ⟨as,q1⟩:=Dw.reads hok KX d _ _ h1 r1
        obtain ⟨bs,q2⟩:=Dw.readsAll hok KX ds _ _ h2 r2
        exact⟨_,ReadsAllW.cons q1 q2⟩
end
end
mutual
def plW:WData->Bool
  | .none=>true
  | .bool _=>true
  | .int _=>true
  | .str _=>true
  | .bytes _=>true
  | .list xs=>plWs xs
  | .tuple xs=>plWs xs
  | _=>false
def plWs:List WData->Bool
  | []=>true
  | x::r=>plW x&&plWs r
end
theorem plWs_map {α:Type}{f:α->WData} (h:∀ a,plW (f a)=true):∀ l:List α,plWs (l.map f)=true
  | []=>rfl
  | x::r=>by
    show (plW (f x)&&plWs (r.map f))=true
    rw [h x,plWs_map h r] <;> rfl
theorem pl_enc:∀ (c:Codec) (a:c.denote),plW (c.enc a)=true
  | .unit,_=>rfl
  | .bool,_=>rfl
  | .int _ _,_=>rfl
  | .nat _ _,_=>rfl
  | .u8,_=>rfl
  | .bytes _ _,_=>rfl
  | .text _ _ _ _,_=>rfl
  | .list _ _ c,a=>plWs_map (fun x=>pl_enc c x) a
  | .pair c d,a=>by
    show (plW (c.enc a.1)&&(plW (d.enc a.2)&&true))=true
    rw [pl_enc c a.1,pl_enc d a.2] <;> rfl
  | .triple c d e,a=>by
    show (plW (c.enc a.1)&&(plW (d.enc a.2.1)&&(plW (e.enc a.2.2)&&true)))=true
    rw [pl_enc c a.1,pl_enc d a.2.1,pl_enc e a.2.2] <;> rfl
  | .option c,none=>rfl
  | .option c,some x=>pl_enc c x
theorem pl_encAll:∀ (cs:List Codec) (a:Codec.denoteAll cs),plWs (Codec.encAll cs a)=true
  | [],_=>rfl
  | c::cs,a=>by
    show (plW (c.enc a.1)&&plWs (Codec.encAll cs a.2))=true
    rw [pl_enc c a.1,pl_encAll cs a.2] <;> rfl
theorem weight_mem:∀ {xs:List WData}{d:WData},d∈xs->d.weight<=WData.weightAll xs
  | [],d,h=>absurd h (by simp)
  | x::r,d,h=>by
    show d.weight<=x.weight+1+WData.weightAll r
    rcases List.mem_cons.mp h with e | m
    · rw [e]
      omega
    · have z:=weight_mem m
      omega
def toV:Value->V
  | .none=>.non
  | .bool b=>.bl b
  | .int i _=>.int i
  | .str x _=>.str x
  | .bytes b _=>.byt b
  | .ref a=>.ref a
  | _=>.non
def OkU (A:List Addr):Value->Prop
  | .none=>True
  | .bool _=>True
  | .int _ _=>True
  | .str _ _=>True
  | .bytes _ _=>True
  | .ref a=>a∈A
  | _=>False
theorem OkU.mono {A B:List Addr} (h:∀ a∈A,a∈B):∀ {u:Value},OkU A u->OkU B u:=fun {u} x=>by
  cases u with
  | ref a=>exact h a x
  | none=>trivial
  | bool b=>trivial
  | int i t=>trivial
  | str s t=>trivial
  | bytes b t=>trivial
  | _=>exact False.elim x
theorem relV_toV {A:List Addr}{u:Value} (x:OkU A u):RelV (toV u) u:=by
  cases u with
  | ref a=>rfl
  | none=>rfl
  | bool b=>rfl
  | int i t=>exact⟨t,rfl⟩
  | str s t=>exact⟨t,rfl⟩
  | bytes b t=>exact⟨t,rfl⟩
  | _=>exact False.elim x
theorem vals_toV {A:List Addr}:∀ {vs:List Value},(∀ u∈vs,OkU A u)->Vals (vs.map toV) vs
  | [],_=>.nil
  | u::r,h=>.cons (relV_toV (h u (List.mem_cons_self ..))) (vals_toV fun x hx=>h x (List.mem_cons_of_mem _ hx))
def ArgOb (h:Heap) (A:List Addr) (a:Addr):Prop:=∃ vs:List Value,vs.length<=sizeLine/\(∀ u∈vs,OkU A u) /\
  (h.get? a=some { cls:=.type "list",data:=.seq vs.toArray } \/ h.get? a=some { cls:=.type "tuple",data:=.seq vs.toArray })
theorem ArgOb.mono {h:Heap}{A B:List Addr}{a:Addr} (k:∀ a∈A,a∈B) (x:ArgOb h A a):ArgOb h B a:=by
  obtain ⟨vs,h1,h2,h3⟩:=x
  exact⟨vs,h1,fun u hu=>(h2 u hu).mono k,h3⟩
theorem wellAll_len {P:Params}{h:Heap}:∀ {vs:List Value}{ds:List WData},WellAll P h vs ds->vs.length=ds.length
  | _,_,.nil=>rfl
  | _,_,.cons _ b=>by
    show _+1=_+1
    rw [wellAll_len b]
theorem well_list {P:Params}{h:Heap}{v:Value}{ds:List WData} (x:Well P h v (.list ds)):∃ (a:Addr) (vs:List Value),v=.ref a/\h.get? a=some { cls:=.type "list",data:=.seq vs.toArray }/\WellAll P h vs ds:=by
  cases x with
  | list ho hall=>exact⟨_,_,rfl,ho,hall⟩
theorem well_tuple {P:Params}{h:Heap}{v:Value}{ds:List WData} (x:Well P h v (.tuple ds)):∃ (a:Addr) (vs:List Value),v=.ref a/\h.get? a=some { cls:=.type "tuple",data:=.seq vs.toArray }/\WellAll P h vs ds:=by
  cases x with
  | tuple ho hall=>exact⟨_,_,rfl,ho,hall⟩
theorem well_cons {P:Params}{h:Heap}{us:List Value}{d:WData}{ds:List WData} (x:WellAll P h us (d::ds)):∃ (v:Value) (vs:List Value),us=v::vs/\Well P h v d/\WellAll P h vs ds:=by
  cases x with
  | cons a b=>exact⟨_,_,rfl,a,b⟩
theorem line_of {n:Nat} (h:n<=1048576):n<=sizeLine:=Nat.le_trans h (by decide)
section
variable {P:Params}{h:Heap}
mutual
theorem area_one:∀ (d:WData) (v:Value),Well P h v d->plW d=true->d.weight<=1048576->∃ A:List Addr,OkU A v/\∀ a∈A,ArgOb h A a
  | .none,_,x,_,_=>by
    cases x
    exact⟨[],trivial,fun a m=>absurd m (by simp)⟩
  | .bool b,_,x,_,_=>by
    cases x
    exact⟨[],trivial,fun a m=>absurd m (by simp)⟩
  | .int i,_,x,_,_=>by
    cases x
    exact⟨[],trivial,fun a m=>absurd m (by simp)⟩
  | .str s,_,x,_,_=>by
    cases x
    exact⟨[],trivial,fun a m=>absurd m (by simp)⟩
  | .bytes b,_,x,_,_=>by
    cases x
    exact⟨[],trivial,fun a m=>absurd m (by simp)⟩
  | .list ds,_,x,p,z=>by
    obtain ⟨a,vs,rfl,ho,hall⟩:=well_list x
    have z2:WData.weightAll ds<=1048576:=z
    obtain ⟨A,h1,h2⟩:=area_all ds _ hall p fun d hd=>Nat.le_trans (weight_mem hd) z2
    have k:∀ b∈A,b∈a::A:=fun b hb=>List.mem_cons_of_mem _ hb
    refine⟨a::A,List.mem_cons_self ..,fun b hb=>?_⟩
    rcases List.mem_cons.mp hb with e | m
    · rw [e]
      exact⟨vs,line_of (by rw [wellAll_len hall];exact Nat.le_trans (PySem.W.length_le_weightAllW ds) z2),fun u hu=>(h1 u hu).mono k,.inl ho⟩
    · exact (h2 b m).mono k
  | .tuple ds,_,x,p,z=>by
    obtain ⟨a,vs,rfl,ho,hall⟩:=well_tuple x
    have z2:WData.weightAll ds<=1048576:=z
    obtain ⟨A,h1,h2⟩:=area_all ds _ hall p fun d hd=>Nat.le_trans (weight_mem hd) z2
    have k:∀ b∈A,b∈a::A:=fun b hb=>List.mem_cons_of_mem _ hb
    refine⟨a::A,List.mem_cons_self ..,fun b hb=>?_⟩
    rcases List.mem_cons.mp hb with e | m
    · rw [e]
      exact⟨vs,line_of (by rw [wellAll_len hall];exact Nat.le_trans (PySem.W.length_le_weightAllW ds) z2),fun u hu=>(h1 u hu).mono k,.inr ho⟩
    · exact (h2 b m).mono k
  | .float _,_,_,p,_=>Bool.noConfusion (show false=true from p)
  | .dict _,_,_,p,_=>Bool.noConfusion (show false=true from p)
  | .bytearray _,_,_,p,_=>Bool.noConfusion (show false=true from p)
  | .set _,_,_,p,_=>Bool.noConfusion (show false=true from p)
  | .frozenset _,_,_,p,_=>Bool.noConfusion (show false=true from p)
  | .obj _ _,_,_,p,_=>Bool.noConfusion (show false=true from p)
theorem area_all:∀ (ds:List WData) (vs:List Value),WellAll P h vs ds->plWs ds=true->(∀ d∈ds,d.weight<=1048576)->∃ A:List Addr,(∀ u∈vs,OkU A u)/\∀ a∈A,ArgOb h A a
  | [],_,x,_,_=>by
    cases x
    exact⟨[],fun u m=>absurd m (by simp),fun a m=>absurd m (by simp)⟩
  | d::ds,_,x,p,z=>by
    obtain ⟨v,vs,rfl,x1,x2⟩:=well_cons x
    have q:plW d=true/\plWs ds=true:=Bool.and_eq_true_iff.mp p
    obtain ⟨A,a1,a2⟩:=area_one d v x1 q.1 (z d (List.mem_cons_self ..))
    obtain ⟨B,b1,b2⟩:=area_all ds vs x2 q.2 fun e he=>z e (List.mem_cons_of_mem _ he)
    have kA:∀ b∈A,b∈A++B:=fun b hb=>List.mem_append.mpr (.inl hb)
    have kB:∀ b∈B,b∈A++B:=fun b hb=>List.mem_append.mpr (.inr hb)
    refine⟨A++B,fun u hu=>?_,fun b hb=>?_⟩
    · rcases List.mem_cons.mp hu with e | m
      · rw [e]
        exact a1.mono kA
      · exact (b1 u m).mono kB
    · rcases List.mem_append.mp hb with m | m
      · exact (a2 b m).mono kA
      · exact (b2 b m).mono kB
end
end
def hoOf (o:Obj):Option HO:=match o.data with
  | .seq vs _=>if (o.cls==Value.type "list")=true then some (.frz o (.lst (vs.toList.map toV))) else some (.frz o (.tup (vs.toList.map toV)))
  | _=>none
def argH (K:PySem.W.Frag) (h:Heap) (A:List Addr):Hp:=fun b=>if b∈A then (if (K.lookup b).isNone=true then (h.get? b).bind hoOf else none) else none
def OnlyF (H:Hp):Prop:=∀ b,H b=none \/ ∃ o u,H b=some (.frz o u)
theorem hoOf_lst (vs:List Value):hoOf { cls:=.type "list",data:=.seq vs.toArray }=some (.frz { cls:=.type "list",data:=.seq vs.toArray } (.lst (vs.map toV))):=by
  show (if (Value.type "list"==Value.type "list")=true then some (HO.frz { cls:=.type "list",data:=.seq vs.toArray } (.lst (vs.toArray.toList.map toV))) else some (HO.frz { cls:=.type "list",data:=.seq vs.toArray } (.tup (vs.toArray.toList.map toV))))=_
  rw [if_pos (beq_self_eq_true _)]
theorem hoOf_tup (vs:List Value):hoOf { cls:=.type "tuple",data:=.seq vs.toArray }=some (.frz { cls:=.type "tuple",data:=.seq vs.toArray } (.tup (vs.map toV))):=by
  show (if (Value.type "tuple"==Value.type "list")=true then some (HO.frz { cls:=.type "tuple",data:=.seq vs.toArray } (.lst (vs.toArray.toList.map toV))) else some (HO.frz { cls:=.type "tuple",data:=.seq vs.toArray } (.tup (vs.toArray.toList.map toV))))=_
  rw [if_neg (by decide)]
section
variable {P:Program}{w:World}{K:PySem.W.Frag}{h:Heap}{A:List Addr}
theorem argH_at {b:Addr}{o:Obj} (hb:b∈A) (hk:K.lookup b=none) (e:h.get? b=some o):argH K h A b=hoOf o:=by
  unfold argH
  rw [if_pos hb,hk,if_pos (show (none:Option Obj).isNone=true from rfl),e] <;> rfl
theorem of_argH {b:Addr}{u:HO} (q:argH K h A b=some u):b∈A/\K.lookup b=none:=by
  unfold argH at q
  by_cases hb:b∈A
  · rw [if_pos hb] at q
    cases hk:K.lookup b with
    | none=>exact⟨hb,rfl⟩
    | some o=>
      rw [hk,if_neg (by simp)] at q
      cases q
  · rw [if_neg hb] at q
    cases q
theorem argH_is (ar:∀ a∈A,ArgOb h A a) {b:Addr}{u:HO} (q:argH K h A b=some u):K.lookup b=none/\∃ vs:List Value,vs.length<=sizeLine/\(∀ u∈vs,OkU A u) /\
    ((h.get? b=some { cls:=.type "list",data:=.seq vs.toArray }/\u=.frz { cls:=.type "list",data:=.seq vs.toArray } (.lst (vs.map toV))) \/
     (h.get? b=some { cls:=.type "tuple",data:=.seq vs.toArray }/\u=.frz { cls:=.type "tuple",data:=.seq vs.toArray } (.tup (vs.map toV)))):=by
  obtain ⟨hb,hk⟩:=of_argH q
  obtain ⟨vs,h1,h2,h3⟩:=ar b hb
  refine⟨hk,vs,h1,h2,?_⟩
  rcases h3 with e | e
  · rw [argH_at hb hk e,hoOf_lst] at q
    exact .inl ⟨e,(Option.some.inj q).symm⟩
  · rw [argH_at hb hk e,hoOf_tup] at q
    exact .inr ⟨e,(Option.some.inj q).symm⟩
theorem argH_only (ar:∀ a∈A,ArgOb h A a):OnlyF (argH K h A):=fun b=>by
  cases q:argH K h A b with
  | none=>exact .inl rfl
  | some u=>
    obtain ⟨_,vs,_,_,⟨_,e⟩ | ⟨_,e⟩⟩:=argH_is ar q
    · exact .inr ⟨_,_,by rw [e]⟩
    · exact .inr ⟨_,_,by rw [e]⟩
theorem argH_ok (ar:∀ a∈A,ArgOb h A a):HOk P w (argH K h A) h:=fun b u q=>by
  obtain ⟨_,vs,h1,h2,⟨e,rfl⟩ | ⟨e,rfl⟩⟩:=argH_is ar q
  · exact⟨e,by rw [List.length_map];exact h1,vs,_,vals_toV h2,e⟩
  · exact⟨e,by rw [List.length_map];exact h1,vs,vals_toV h2,_,e,rfl,_,rfl⟩
theorem seq_inj {c c':Value}{vs us:List Value} (e:(some { cls:=c,data:=.seq vs.toArray }:Option Obj)=some { cls:=c',data:=.seq us.toArray }):c=c'/\vs=us:=by
  have e1:=Option.some.inj e
  have e2:c=c':=congrArg Obj.cls e1
  have e3:Data.seq vs.toArray=Data.seq us.toArray:=congrArg Obj.data e1
  injection e3 with e4
  refine⟨e2,?_⟩
  have e5:=congrArg Array.toList e4
  simpa using e5
theorem argL (KX:K.In h) (ar:∀ a∈A,ArgOb h A a) {a:Addr}{vs:List Value} (ha:a∈A) (e:h.get? a=some { cls:=.type "list",data:=.seq vs.toArray }):(∀ u∈vs,OkU A u)/\SqL K (argH K h A) a (vs.map toV):=by
  obtain ⟨us,h1,h2,h3⟩:=ar a ha
  have hu:us=vs:=by
    rcases h3 with q | q
    · rw [e] at q
      exact (seq_inj q).2.symm
    · rw [e] at q
      exact absurd (Value.type.inj (seq_inj q).1) (by decide)
  subst hu
  refine⟨h2,?_⟩
  cases hk:K.lookup a with
  | none=>exact .inl (.inr ⟨_,by rw [argH_at ha hk e,hoOf_lst]⟩)
  | some o=>
    have e2:=KX a o hk
    rw [e] at e2
    obtain rfl:=Option.some.inj e2
    exact .inr ⟨_,us.toArray,_,hk,rfl,rfl,rfl,by rw [List.size_toArray];exact h1,by simpa using vals_toV h2⟩
theorem argT (KX:K.In h) (ar:∀ a∈A,ArgOb h A a) {a:Addr}{vs:List Value} (ha:a∈A) (e:h.get? a=some { cls:=.type "tuple",data:=.seq vs.toArray }):(∀ u∈vs,OkU A u)/\SqT K (argH K h A) a (vs.map toV):=by
  obtain ⟨us,h1,h2,h3⟩:=ar a ha
  have hu:us=vs:=by
    rcases h3 with q | q
    · rw [e] at q
      exact absurd (Value.type.inj (seq_inj q).1) (by decide)
    · rw [e] at q
      exact (seq_inj q).2.symm
  subst hu
  refine⟨h2,?_⟩
  cases hk:K.lookup a with
  | none=>exact .inl (.inr ⟨_,by rw [argH_at ha hk e,hoOf_tup]⟩)
  | some o=>
    have e2:=KX a o hk
    rw [e] at e2
    obtain rfl:=Option.some.inj e2
    exact .inr ⟨_,us.toArray,_,hk,rfl,rfl,by rw [List.size_toArray];exact h1,by simpa using vals_toV h2⟩
mutual
theorem dw_one {Pm:Params} (KX:K.In h) (ar:∀ a∈A,ArgOb h A a):∀ (d:WData) (v:Value),Well Pm h v d->plW d=true->OkU A v->Dw K (argH K h A) (toV v) d
  | .none,_,x,_,_=>by
    cases x
    exact .non
  | .bool b,_,x,_,_=>by
    cases x
    exact .bl b
  | .int i,_,x,_,_=>by
    cases x
    exact .int i
  | .str s,_,x,_,_=>by
    cases x
    exact .str s
  | .bytes b,_,x,_,_=>by
    cases x
    have z:=Dw.byt (K:=K) (H:=argH K h A) b.toArray
    exact z
  | .list ds,_,x,p,hu=>by
    obtain ⟨a,vs,rfl,ho,hall⟩:=well_list x
    obtain ⟨h2,hs⟩:=argL KX ar hu ho
    exact .lst hs (dw_all KX ar ds _ hall p h2)
  | .tuple ds,_,x,p,hu=>by
    obtain ⟨a,vs,rfl,ho,hall⟩:=well_tuple x
    obtain ⟨h2,hs⟩:=argT KX ar hu ho
    exact .tup hs (dw_all KX ar ds _ hall p h2)
  | .float _,_,_,p,_=>Bool.noConfusion (show false=true from p)
  | .dict _,_,_,p,_=>Bool.noConfusion (show false=true from p)
  | .bytearray _,_,_,p,_=>Bool.noConfusion (show false=true from p)
  | .set _,_,_,p,_=>Bool.noConfusion (show false=true from p)
  | .frozenset _,_,_,p,_=>Bool.noConfusion (show false=true from p)
  | .obj _ _,_,_,p,_=>Bool.noConfusion (show false=true from p)
theorem dw_all {Pm:Params} (KX:K.In h) (ar:∀ a∈A,ArgOb h A a):∀ (ds:List WData) (vs:List Value),WellAll Pm h vs ds->plWs ds=true->(∀ u∈vs,OkU A u)->DwAll K (argH K h A) (vs.map toV) ds
  | [],_,x,_,_=>by
    cases x
    exact .nil
  | d::ds,_,x,p,hu=>by
    obtain ⟨v,vs,rfl,x1,x2⟩:=well_cons x
    have q:plW d=true/\plWs ds=true:=Bool.and_eq_true_iff.mp p
    exact .cons (dw_one KX ar d v x1 q.1 (hu _ (List.mem_cons_self ..))) (dw_all KX ar ds vs x2 q.2 fun u m=>hu u (List.mem_cons_of_mem _ m))
end
end
theorem spec_call {P:Program}{w:World}{K:PySem.W.Frag}{mg mb:Str->Option Value}{CX:CXT}{k:Nat}{fa:Addr}{fd:FuncData}{ps:List Str}{sp:Sp}{s₁:Shared}{vals:List Value}{ds:List WData}{R:PySem.W.WRecords}{cl:Str->Option Addr}{d0:WData}
    (KX:K.In s₁.heap) (hns:s₁.heap.Ns mainGlobals mg) (hb:s₁.heap.Ns builtinsNs mb) (hbb:∀ x:Str,x≠"__name__"->mb x=bootBuiltins x) (hlim:s₁.heap.NoLimit) (hg:s₁.gens=#[])
    (hwl:WellAll w.params s₁.heap vals ds) (hpl:plWs ds=true) (hwt:∀ d∈ds,d.weight<=1048576) (hr:Room k callerA)
    (F:∀ base:Heap,K.In base->base.Ns mainGlobals mg->FnOk P w K mg base CX k fa fd ps sp) (hbind:∀ (s:Shared) (us:List Value),us.length=ps.length->BindsTo s fd ⟨us,[]⟩ (ps.zip us)) (hlen:ds.length=ps.length)
    (hsp:∀ (H:Hp) (xs:List V),OnlyF H->DwAll K H xs ds->sp xs H (fun v H'=>Dw K H' v d0) fun _ _ _=>False)
    (hCX:∀ H e s',CX [] H s₁ (fun _ _ _=>False) e s'->False) :
    codeAny (model P w) callerA (.call (.ref fa) ⟨vals,[]⟩) (fun r s'=>∃ u as,r=.ok (.ret u)/\ReadsW R cl s'.heap u d0 as/\OldK s₁.heap s'.heap/\s'.os=s₁.os/\AllBare s'.gens) s₁:=by
  obtain ⟨A,ho,ar⟩:=area_all ds vals hwl hpl hwt
  have hO:OnlyF (argH K s₁.heap A):=argH_only ar
  have hok:HOk P w (argH K s₁.heap A) s₁.heap:=argH_ok ar
  have hS:=dw_all KX ar ds vals hwl hpl ho
  have hV:=vals_toV ho
  have hK:∀ b u,argH K s₁.heap A b=some u->K.lookup b=none:=fun b u q=>(argH_is ar q).1
  have noA:∀ {b:Addr}{o:Obj}{es:Array DictEntry}{ep:Nat},s₁.heap.get? b=some o->o.data=.dict es ep->argH K s₁.heap A b=none:=fun {b o es ep} e d=>by
    cases q:argH K s₁.heap A b with
    | none=>rfl
    | some u=>
      obtain ⟨_,vs,_,_,⟨e2,_⟩ | ⟨e2,_⟩⟩:=argH_is ar q
      · rw [e2] at e
        cases e
        have d':Data.seq vs.toArray _=Data.dict es ep:=d
        cases d'
      · rw [e2] at e
        cases e
        have d':Data.seq vs.toArray _=Data.dict es ep:=d
        cases d'
  generalize argH K s₁.heap A=H at hO hok hS hK noA
  have base_of:∀ {b:Addr}{o:Obj},s₁.heap.get? b=some o->H b=none->(hidT s₁.heap H).get? b=some o:=fun e n=>hidT_get e n
  have nsK:∀ {b:Addr}{m:Str->Option Value},s₁.heap.Ns b m->(hidT s₁.heap H).Ns b m:=fun {b m} ⟨o,es,ep,e,d,r⟩=>⟨o,es,ep,base_of e (noA e d),d,r⟩
  have nK:∀ b o,K.lookup b=some o->H b=none:=fun b o e=>by
    cases q:H b with
    | none=>rfl
    | some u=>
      rw [hK b u q] at e
      cases e
  have hKb:K.In (hidT s₁.heap H):=fun b o e=>base_of (KX b o e) (nK b o e)
  have hM:Mod K mg (hidT s₁.heap H):=⟨hKb,nsK hns,⟨mb,nsK hb,hbb⟩,let ⟨mc,h1,h2⟩:=hlim;⟨mc,nsK h1,h2⟩⟩
  have e0:Env0 P w K mg (hidT s₁.heap H) callerA [] s₁ H:=⟨rfl,hM,fun b o e=>of_hidT e,Nat.le_of_eq (hidT_size _ _),trivial,fun b hb=>absurd (show b∈([]:List Addr) from hb) (by simp),hok,.of_eq hg⟩
  have hl:vals.length=ps.length:=by rw [wellAll_len hwl];exact hlen
  refine codeAny_mono ((F _ hKb (nsK hns)).run callerA [] s₁ H ⟨vals,[]⟩ vals (vals.map toV) _ _ hr e0 (hbind s₁ vals hl) hV (hsp H _ hO hS)) fun r s' x=>?_
  cases r with
  | error e=>exact (hCX H e s' x).elim
  | ok fl=>
    cases fl with
    | next=>exact False.elim x
    | brk=>exact False.elim x
    | cont=>exact False.elim x
    | ret u=>
      obtain ⟨v,H',os,bare,un,hok',r',q⟩:=x
      have kept:∀ b o,s₁.heap.get? b=some o->s'.heap.get? b=some o:=fun b o e=>by
        cases q2:H b with
        | none=>exact un.keep b o e q2 (by intro z;exact absurd (show b∈([]:List Addr) from z) (by simp)) (by simp)
        | some u2=>
          rcases hO b with z | ⟨ob,u3,z⟩
          · rw [q2] at z
            cases z
          · have z2:=un.frzs b ob _ z
            obtain ⟨e1,_⟩:=hok b _ z
            obtain ⟨e2,_⟩:=hok' b _ z2
            rw [e] at e1
            cases e1
            exact e2
      have KX':K.In s'.heap:=fun b o e=>kept b o (KX b o e)
      obtain ⟨as,hrd⟩:=Dw.reads (R:=R) (cl:=cl) hok' KX' d0 v u q r'
      exact⟨u,as,rfl,hrd,OldK.of_keep kept,os,bare⟩
theorem layable_weight {ds:List WData} (h:WData.layableAll ds=true):∀ d∈ds,d.weight<=1048576:=fun d hd=>
  (PySem.W.layableW_iff.mp (List.all_eq_true.mp h d hd)).2.2
theorem encAll_len:∀ (cs:List Codec) (a:Codec.denoteAll cs),(Codec.encAll cs a).length=cs.length
  | [],_=>rfl
  | c::cs,a=>by
    show (Codec.encAll cs a.2).length+1=cs.length+1
    rw [encAll_len cs a.2]
theorem walk_spec {r:OpenSpec}{k:Nat}{q:Program}{loose:List Str}{XP:(Str->Option Value)->Heap->Prop}{YP:World->Heap->Prop}{d:DefRec}{K:Params->PySem.W.Frag}{CX:World->CXT}{ps:List Str}{sp:World->Sp}
    (hwell:r.wellSaid=true) (hdf:d.params.defaults=[]) (hlen:r.args.length=ps.length) (hr:Room k callerA)
    (hY:∀ (w:World) (h:Heap),YP w h->(K w.params).In h)
    (F:∀ (w:World) (mg:Str->Option Value) (fa:Addr) (h:Heap),YP w h->(K w.params).In h->h.Ns mainGlobals mg->mg d.name=some (.ref fa) ->
      ∃ fd:FuncData,(∀ (s:Shared) (us:List Value),us.length=ps.length->BindsTo s fd ⟨us,[]⟩ (ps.zip us)) /\
        ∀ base:Heap,(K w.params).In base->base.Ns mainGlobals mg->FnOk r.prog w (K w.params) mg base (CX w) k fa fd ps (sp w))
    (hsp:∀ (w:World) (H:Hp) (xs:List V) (a:Codec.denoteAll r.args),OnlyF H->Codec.withinAll r.args a=true->Codec.app r.args r.asked a=true->DwAll (K w.params) H xs (Codec.encAll r.args a) ->
      sp w xs H (fun v H'=>Dw (K w.params) H' v (r.ret.enc (Codec.app r.args r.f a))) fun _ _ _=>False)
    (hCX:∀ (w:World) (H:Hp) (s:Shared) (e:Value) (s':Shared),CX w [] H s (fun _ _ _=>False) e s'->False) :
    PySem.W.WalkOS q loose XP YP r d [] (fun f vs=>PySem.call f vs):=by
  intro w s_0 s₁ mg mb G Y fa o pm cd doc dV kV ho hd hcd hD hmg hg args vals as hpre hlay hrd hwl hlo
  obtain ⟨a,e1,e2⟩:=PySem.W.os_pre_some hpre
  obtain ⟨e3,hwi⟩:=Codec.encAll_of_decAll r.args args a e1
  subst e3
  have KX:=hY w _ Y
  obtain ⟨fd,hb,hF⟩:=F w mg fa _ Y KX G.T.g hmg
  refine PySem.W.enter_call (codeAny_mono (spec_call (R:=[]) (cl:=classAt s_0.heap) (d0:=r.ret.enc (Codec.app r.args r.f a)) KX G.T.g G.T.b G.T.builtins G.T.nolimit hg hwl (pl_encAll _ _) (layable_weight hlay) hr hF hb (by rw [encAll_len];exact hlen)
    (fun H xs hO hS=>hsp w H xs a hO hwi e2 hS) fun H e s'=>hCX w H s₁ e s') fun r' s' hq=>?_)
  obtain ⟨u,as',rfl,h1,h2,h3,h4⟩:=hq
  exact⟨.inl ⟨u,_,as',rfl,fun _=>rfl,h1,(OpenSpec.post_iff hwell hwi _ _).mpr rfl,fun z=>Bool.noConfusion (show false=true from z)⟩,h2,h3,h4⟩
theorem walk_specK {r:OpenSpec}{k:Nat}{q:Program}{loose:List Str}{XP:(Str->Option Value)->Heap->Prop}{YP:World->Heap->Prop}{d:DefRec}{K:Params->PySem.W.Frag}{CX:CXT}{ps:List Str}{sp:PySem.W.Frag->Sp}
    (hwell:r.wellSaid=true) (hdf:d.params.defaults=[]) (hlen:r.args.length=ps.length) (hr:Room k callerA)
    (hY:∀ (w:World) (h:Heap),YP w h->(K w.params).In h)
    (F:∀ (w:World) (mg:Str->Option Value) (fa:Addr) (h:Heap),YP w h->(K w.params).In h->h.Ns mainGlobals mg->mg d.name=some (.ref fa) ->
      ∃ fd:FuncData,(∀ (s:Shared) (us:List Value),us.length=ps.length->BindsTo s fd ⟨us,[]⟩ (ps.zip us)) /\
        ∀ base:Heap,(K w.params).In base->base.Ns mainGlobals mg->FnOk r.prog w (K w.params) mg base CX k fa fd ps (sp (K w.params)))
    (hsp:∀ (K:PySem.W.Frag) (H:Hp) (xs:List V) (a:Codec.denoteAll r.args),OnlyF H->Codec.withinAll r.args a=true->Codec.app r.args r.asked a=true->DwAll K H xs (Codec.encAll r.args a) ->
      sp K xs H (fun v H'=>Dw K H' v (r.ret.enc (Codec.app r.args r.f a))) fun _ _ _=>False)
    (hCX:∀ (H:Hp) (s:Shared) (e:Value) (s':Shared),CX [] H s (fun _ _ _=>False) e s'->False) :
    PySem.W.WalkOS q loose XP YP r d [] (fun f vs=>PySem.call f vs):=
  walk_spec (K:=K) (CX:=fun _=>CX) (sp:=fun w=>sp (K w.params)) hwell hdf hlen hr hY F (fun w H xs a h1 h2 h3 h4=>hsp (K w.params) H xs a h1 h2 h3 h4) fun _ H s e s'=>hCX H s e s'
end L2
end
end
section
set_option Elab.async false
set_option linter.all false
set_option maxRecDepth 100000
set_option maxHeartbeats 4000000
namespace ZS
open PySem
section
variable {prog:Program}{w:World}{A:Around}{E:Value->Shared->Prop}{s:Shared}
abbrev SI (h:Heap) (it:Addr) (x:Str) (t:Tok) (i:Nat):Prop:=h.IsStrIter it "str_ascii_iterator" x t i
theorem si_but {h h':Heap}{it a:Addr}{x:Str}{t:Tok}{i:Nat} (e:SI h it x t i) (k:Heap.SameBut a h h') (n:it≠a):SI h' it x t i:=
  let ⟨o,ho,r⟩:=e;⟨o,k.extBut _ _ n ho,r⟩
theorem nx_str {it:Addr}{x:Str}{t:Tok}{i c:Nat}{Q:Value->Shared->Prop} (g:SI s.heap it x t i) (hx:x.cps[i]?=some c)
    (k:∀ h',SI h' it x t (i+1)->Heap.SameBut it s.heap h'->Q (.str ⟨#[c]⟩ s.toks) { s with heap:=h',toks:=s.toks+1 }):wpAny (model prog w) A (Builtin.SmallTypes.nextOf (.ref it)) Q E s:=by
  obtain ⟨ob,gob,gc,gd⟩:=id g
  unfold Builtin.SmallTypes.nextOf
  refine wpAny_bind (wpAny_callSpecial?_slot (name:=Str.ofString "__next__") g.typeIs F.slot_str_ascii_iterator_next (wpAny_call_entry F.slot_str_ascii_iterator_next g.typeIs F.entry_str_ascii_iterator_next ?_ (F.args_str_ascii_iterator_next_1 _)))
  show wpAny _ _ (field (.ref it) 0 >>= _) _ _ s;refine wpAny_bind (wpAny_field gob gd (x:=.str x t) rfl ?_)
  show wpAny _ _ (field (.ref it) 1 >>= _) _ _ s;refine wpAny_bind (wpAny_field gob gd (x:=.int i 0) rfl ?_)
  simp only [Int.toNat_natCast,hx]
  refine wpAny_bind (wpAny_setField gob gd (by simp) (wpAny_bind (wpAny_mkStr (wpAny_pure ⟨_,rfl,wpAny_pure (k _ ⟨_,Heap.get?_update_self _ gob (Obj.isFreed_of_fields (Obj.data_mapFields gd _)),(Obj.cls_mapFields ..).trans gc,?_⟩ (Heap.SameBut.update ..))⟩) (by show 1<=sizeLine;decide))))
  rw [Obj.data_mapFields gd];simp [rawInt]
theorem nx_none {it:Addr}{x:Str}{t:Tok}{i:Nat}{Q:Value->Shared->Prop} (hh:A.handled=none) (g:SI s.heap it x t i) (hx:x.cps[i]?=none)
    (k:∀ h' e,Heap.ExtBut it s.heap h'->(∃ o,h'.get? e=some o/\o.cls=.type "StopIteration")->E (.ref e) { s with heap:=h' }):wpAny (model prog w) A (Builtin.SmallTypes.nextOf (.ref it)) Q E s:=by
  obtain ⟨ob,gob,gc,gd⟩:=id g
  unfold Builtin.SmallTypes.nextOf
  refine wpAny_bind (wpAny_callSpecial?_slot (name:=Str.ofString "__next__") g.typeIs F.slot_str_ascii_iterator_next (wpAny_call_entry F.slot_str_ascii_iterator_next g.typeIs F.entry_str_ascii_iterator_next ?_ (F.args_str_ascii_iterator_next_1 _)))
  show wpAny _ _ (field (.ref it) 0 >>= _) _ _ s;refine wpAny_bind (wpAny_field gob gd (x:=.str x t) rfl ?_)
  show wpAny _ _ (field (.ref it) 1 >>= _) _ _ s;refine wpAny_bind (wpAny_field gob gd (x:=.int i 0) rfl ?_)
  simp only [Int.toNat_natCast,hx]
  refine wpAny_bind (wpAny_rule (wpAny_bind (wpAny_setField gob gd (by simp) (wpAny_bind (wpAny_letGo ?_)))))
  show wpAny _ _ (newExc (.type "StopIteration") [] >>= _) _ _ _;refine wpAny_bind ?_;simp only [newExc,newTuple]
  refine wpAny_bind (wpAny_newObj_type ?_ (by size_fits));refine wpAny_bind (m:=firstArgMember _ _) (wpAny_of_eq (a:=Value.none) (by first | rfl | (simp only [firstArgMember];rfl)) ?_)
  refine wpAny_newObj_type ?_ (by size_fits);simp only [raiseNew];refine wpAny_bind (wpAny_handled ?_)
  first | rw [show A.in1.handled=none from hh] | rw [hh]
  exact wpAny_bind (wpAny_pure (wpAny_throw (k _ _ (((Heap.SameBut.update ..).extBut.push _).push _) ⟨_,Heap.get?_push_size _ rfl,rfl⟩)))
structure Ap (z TI TO i1 i2 l:Addr):Prop where
  a1:TI≠z
  a2:TO≠z
  a3:i1≠z
  a4:i2≠z
  a5:TI≠TO
  a6:TI≠i1
  a7:TI≠i2
  a8:TO≠i1
  a9:TO≠i2
  b1:i1≠i2
  b2:l≠z
  b3:l≠TO
  b4:l≠i1
  b5:l≠i2
theorem turn {z TI TO i1 i2 l:Addr}{x:Str}{t:Tok}{m c:Nat}{ys:Array Value}{y a b:Value}{Q:Value->Shared->Prop} (D:Ap z TI TO i1 i2 l)
    (gz:IsZip s.heap z TI TO .none) (gI:IsPair s.heap TI (.ref i1) (.ref i2)) (gO:IsPair s.heap TO a b) (g1:SI s.heap i1 x t m) (g2:s.heap.IsListIter i2 l m) (gl:s.heap.IsList l ys) (hx:x.cps[m]?=some c) (hy:ys[m]?=some y)
    (k:∀ h',IsZip h' z TI TO (rawInt s.heap.objs.size)->(∃ a b,IsPair h' TO a b)->SI h' i1 x t (m+1)->h'.IsListIter i2 l (m+1)->IsPair h' s.heap.objs.size (.str ⟨#[c]⟩ s.toks) y->h'.objs.size=s.heap.objs.size+1 ->
      (∀ d o,d≠z->d≠TO->d≠i1->d≠i2->s.heap.get? d=some o->h'.get? d=some o)->Q (.ref s.heap.objs.size) { s with heap:=h',toks:=s.toks+1 }) :
    wpAny (model prog w) A (Builtin.«zip.__next__» ⟨[.ref z],[]⟩) (fun fin s'=>∃ v,fin=.done (.ret v)/\Q v s') E s:=by
  show wpAny _ _ (field (.ref z) 2 >>= _) _ _ _;refine wpAny_bind (wpAny_field gz rfl (x:=.bool false) rfl ?_)
  show wpAny _ _ (field (.ref z) 3 >>= _) _ _ _;refine wpAny_bind (wpAny_field gz rfl (x:=.ref TI) rfl (wpAny_bind (wpAny_seqItems gI rfl ?_)))
  show wpAny _ _ (Builtin.SmallTypes.ownedTupleIsFree (.ref z) >>= _) _ _ _;refine wpAny_bind ?_;unfold Builtin.SmallTypes.ownedTupleIsFree
  refine wpAny_bind (wpAny_field gz rfl (x:=.none) rfl (wpAny_pure ?_));simp only [if_true]
  refine wpAny_bind (wpAny_rule (wpAny_bind (wpAny_field gz rfl (x:=.ref TO) rfl (wpAny_bind (wpAny_setField_rec gz (by simp) fun h1 gz1 s1=>?_)))))
  replace gz1:IsZip h1 z TI TO .ellipsis:=gz1
  refine wpAny_bind ?_;simp only [List.zipIdx_cons,List.zipIdx_nil,List.forIn_cons,List.forIn_nil]
  refine wpAny_bind (wpAny_bind (wpAny_onRaise ?_));show wpAny _ _ (Builtin.SmallTypes.nextOf (.ref i1) >>= _) _ _ _
  refine wpAny_bind (nx_str (si_but g1 s1 D.a3) hx fun h2 g12 s2=>wpAny_pure ?_)
  have gO2:IsPair h2 TO a b:=s2.extBut _ _ D.a8 (s1.extBut _ _ D.a2 gO)
  refine wpAny_bind (wpAny_seqItems gO2 rfl (wpAny_bind (wpAny_updateSeq_pair gO2 fun h3 gO3 s3=>wpAny_bind (wpAny_letGo (wpAny_pure ?_)))))
  replace gO3:IsPair h3 TO (.str ⟨#[c]⟩ s.toks) b:=gO3
  refine wpAny_bind (wpAny_bind (wpAny_onRaise ?_));show wpAny _ _ (Builtin.SmallTypes.nextOf (.ref i2) >>= _) _ _ _
  refine wpAny_bind (wpAny_nextOf_list_item (((g2.extBut s1.extBut D.a4).extBut s2.extBut D.b1.symm).extBut s3.extBut D.a9.symm) (((gl.extBut s1.extBut D.b2).extBut s2.extBut D.b4).extBut s3.extBut D.b3) hy fun h4 g24 s4=>wpAny_pure ?_)
  have gO4:IsPair h4 TO (.str ⟨#[c]⟩ s.toks) b:=s4.extBut _ _ D.a9 gO3
  refine wpAny_bind (wpAny_seqItems gO4 rfl (wpAny_bind (wpAny_updateSeq_pair gO4 fun h5 gO5 s5=>wpAny_bind (wpAny_letGo (wpAny_pure (wpAny_pure ?_))))))
  replace gO5:IsPair h5 TO (.str ⟨#[c]⟩ s.toks) y:=gO5
  refine wpAny_bind (wpAny_seqItems gO5 rfl (wpAny_bind (wpAny_newTuple ?_)))
  have sz:h5.objs.size=s.heap.objs.size:=by rw [s5.1,s4.1,s3.1,s2.1,s1.1]
  have gz5:IsZip h5 z TI TO .ellipsis:=s5.extBut _ _ D.a2.symm (s4.extBut _ _ D.a4.symm (s3.extBut _ _ D.a2.symm (s2.extBut _ _ D.a3.symm gz1)))
  have kk5:∀ d o,d≠z->d≠TO->d≠i1->d≠i2->s.heap.get? d=some o->h5.get? d=some o:=fun d o c1 c2 c3 c4 e=>s5.extBut _ _ c2 (s4.extBut _ _ c4 (s3.extBut _ _ c2 (s2.extBut _ _ c3 (s1.extBut _ _ c1 e))))
  have g15:SI h5 i1 x t (m+1):=si_but (si_but (si_but g12 s3 D.a8.symm) s4 D.b1) s5 D.a8.symm
  have g25:h5.IsListIter i2 l (m+1):=g24.extBut s5.extBut D.a9.symm
  have zlt:z<h5.objs.size:=Heap.lt_size gz5
  show wpAny _ _ (Builtin.SmallTypes.ownedTupleHandOut (.ref z) (.ref h5.objs.size) >>= _) _ _ _;refine wpAny_bind ?_;unfold Builtin.SmallTypes.ownedTupleHandOut
  have gz6:IsZip (h5.push { cls:=.type "tuple",data:=.seq #[.str ⟨#[c]⟩ s.toks,y] }) z TI TO .ellipsis:=Heap.get?_push_of_some _ gz5
  refine wpAny_bind (wpAny_setField_rec gz6 (by simp) fun h7 gz7 s7=>?_)
  replace gz7:IsZip h7 z TI TO (rawInt h5.objs.size):=gz7
  refine wpAny_setField_rec gz7 (by simp) fun h8 gz8 s8=>?_
  replace gz8:IsZip h8 z TI TO (rawInt h5.objs.size):=gz8
  have up:∀ d o,d≠z->h5.get? d=some o->h8.get? d=some o:=fun d o c1 e=>s8.extBut _ _ c1 (s7.extBut _ _ c1 (Heap.get?_push_of_some _ e))
  have gT:IsPair h8 h5.objs.size (.str ⟨#[c]⟩ s.toks) y:=s8.extBut _ _ (Nat.ne_of_gt zlt) (s7.extBut _ _ (Nat.ne_of_gt zlt) (Heap.get?_push_size _ rfl))
  have sz8:h8.objs.size=h5.objs.size+1:=by rw [s8.1,s7.1,Heap.size_push]
  rw [sz] at gz8 gT sz8
  refine wpAny_pure ⟨_,rfl,?_⟩;show Q (.ref h5.objs.size) _;rw [sz]
  refine k h8 gz8 ⟨_,_,up _ _ D.a2 gO5⟩ ?_ (g25.at fun o e=>up _ o D.a4 e) gT sz8 fun d o c1 c2 c3 c4 e=>up d o c1 (kk5 d o c1 c2 c3 c4 e)
  obtain ⟨o,ho,r⟩:=g15
  exact⟨o,up _ o D.a3 ho,r⟩
theorem last {z TI TO i1 i2 l:Addr}{x:Str}{t:Tok}{m:Nat}{ys:Array Value}{a b:Value}{Q:Fin->Shared->Prop} (hh:A.handled=none) (D:Ap z TI TO i1 i2 l)
    (gz:IsZip s.heap z TI TO .none) (gI:IsPair s.heap TI (.ref i1) (.ref i2)) (gO:IsPair s.heap TO a b) (g1:SI s.heap i1 x t m) (g2:s.heap.IsListIter i2 l m) (gl:s.heap.IsList l ys) (hend:x.cps[m]?=none \/ ys[m]?=none)
    (k:∀ h' tk e,(∀ d o,d≠z->d≠TO->d≠i1->d≠i2->s.heap.get? d=some o->h'.get? d=some o)->(∃ o,h'.get? e=some o/\o.cls=.type "StopIteration")->E (.ref e) { s with heap:=h',toks:=tk }) :
    wpAny (model prog w) A (Builtin.«zip.__next__» ⟨[.ref z],[]⟩) Q E s:=by
  show wpAny _ _ (field (.ref z) 2 >>= _) _ _ _;refine wpAny_bind (wpAny_field gz rfl (x:=.bool false) rfl ?_)
  show wpAny _ _ (field (.ref z) 3 >>= _) _ _ _;refine wpAny_bind (wpAny_field gz rfl (x:=.ref TI) rfl (wpAny_bind (wpAny_seqItems gI rfl ?_)))
  show wpAny _ _ (Builtin.SmallTypes.ownedTupleIsFree (.ref z) >>= _) _ _ _;refine wpAny_bind ?_;unfold Builtin.SmallTypes.ownedTupleIsFree
  refine wpAny_bind (wpAny_field gz rfl (x:=.none) rfl (wpAny_pure ?_));simp only [if_true]
  refine wpAny_bind (wpAny_rule (wpAny_bind (wpAny_field gz rfl (x:=.ref TO) rfl (wpAny_bind (wpAny_setField_rec gz (by simp) fun h1 gz1 s1=>?_)))))
  replace gz1:IsZip h1 z TI TO .ellipsis:=gz1
  refine wpAny_bind ?_;simp only [List.zipIdx_cons,List.zipIdx_nil,List.forIn_cons,List.forIn_nil]
  refine wpAny_bind (wpAny_bind (wpAny_onRaise ?_));show wpAny _ _ (Builtin.SmallTypes.nextOf (.ref i1) >>= _) _ _ _
  cases hx:x.cps[m]? with
  | none=>
    refine wpAny_bind (nx_none hh (si_but g1 s1 D.a3) hx fun h2 e s2 he=>?_)
    obtain ⟨oe,goe,gce⟩:=he
    have gz2:IsZip h2 z TI TO .ellipsis:=s2 _ _ D.a3.symm gz1
    have ez:e≠z:=fun q=>by subst q;rw [gz2] at goe;cases goe;simp at gce
    exact wpAny_setField_rec gz2 (by simp) fun h3 _ s3=>k h3 s.toks e (fun d o c1 _ c3 _ q=>s3.extBut _ _ c1 (s2 _ _ c3 (s1.extBut _ _ c1 q))) ⟨oe,s3.extBut _ _ ez goe,gce⟩
  | some c=>
    have hy:ys[m]?=none:=by
      rcases hend with q | q
      · rw [hx] at q;cases q
      · exact q
    refine wpAny_bind (nx_str (si_but g1 s1 D.a3) hx fun h2 g12 s2=>wpAny_pure ?_)
    have gO2:IsPair h2 TO a b:=s2.extBut _ _ D.a8 (s1.extBut _ _ D.a2 gO)
    refine wpAny_bind (wpAny_seqItems gO2 rfl (wpAny_bind (wpAny_updateSeq_pair gO2 fun h3 gO3 s3=>wpAny_bind (wpAny_letGo (wpAny_pure ?_)))))
    refine wpAny_bind (wpAny_bind (wpAny_onRaise ?_));show wpAny _ _ (Builtin.SmallTypes.nextOf (.ref i2) >>= _) _ _ _
    refine wpAny_bind (wpAny_nextOf_list_end hh (((g2.extBut s1.extBut D.a4).extBut s2.extBut D.b1.symm).extBut s3.extBut D.a9.symm) (((gl.extBut s1.extBut D.b2).extBut s2.extBut D.b4).extBut s3.extBut D.b3) hy fun h4 e s4 he=>?_)
    obtain ⟨oe,goe,gce⟩:=he
    have gz4:IsZip h4 z TI TO .ellipsis:=s4 _ _ D.a4.symm (s3.extBut _ _ D.a2.symm (s2.extBut _ _ D.a3.symm gz1))
    have ez:e≠z:=fun q=>by subst q;rw [gz4] at goe;cases goe;simp at gce
    exact wpAny_setField_rec gz4 (by simp) fun h5 _ s5=>k h5 (s.toks+1) e (fun d o c1 c2 c3 c4 q=>s5.extBut _ _ c1 (s4 _ _ c4 (s3.extBut _ _ c2 (s2.extBut _ _ c3 (s1.extBut _ _ c1 q))))) ⟨oe,s5.extBut _ _ ez goe,gce⟩
theorem next {z TI TO i1 i2 l:Addr}{x:Str}{t:Tok}{m c:Nat}{ys:Array Value}{y a b:Value}{Q:Option Value->Shared->Prop} (D:Ap z TI TO i1 i2 l)
    (gz:IsZip s.heap z TI TO .none) (gI:IsPair s.heap TI (.ref i1) (.ref i2)) (gO:IsPair s.heap TO a b) (g1:SI s.heap i1 x t m) (g2:s.heap.IsListIter i2 l m) (gl:s.heap.IsList l ys) (hx:x.cps[m]?=some c) (hy:ys[m]?=some y)
    (k:∀ h',IsZip h' z TI TO (rawInt s.heap.objs.size)->(∃ a b,IsPair h' TO a b)->SI h' i1 x t (m+1)->h'.IsListIter i2 l (m+1)->IsPair h' s.heap.objs.size (.str ⟨#[c]⟩ s.toks) y->h'.objs.size=s.heap.objs.size+1 ->
      (∀ d o,d≠z->d≠TO->d≠i1->d≠i2->s.heap.get? d=some o->h'.get? d=some o)->Q (some (.ref s.heap.objs.size)) { s with heap:=h',toks:=s.toks+1 }):wpAny (model prog w) A (pyNext (.ref z)) Q E s:=by
  have hT:s.TypeIs (.ref z) "zip":=⟨_,gz,rfl⟩
  unfold pyNext
  exact wpAny_bind (wpAny_attempt (wpAny_callSpecial?_slot (name:=Str.ofString "__next__") hT F.slot_zip_next (wpAny_call_entry F.slot_zip_next hT F.entry_zip_next
    (turn D gz gI gO g1 g2 gl hx hy fun h' a1 a2 a3 a4 a5 a6 a7=>wpAny_pure (k h' a1 a2 a3 a4 a5 a6 a7)) (F.args_zip_next_1 _))))
theorem stop {z TI TO i1 i2 l:Addr}{x:Str}{t:Tok}{m:Nat}{ys:Array Value}{a b:Value}{Q:Option Value->Shared->Prop} (hh:A.handled=none) (D:Ap z TI TO i1 i2 l)
    (gz:IsZip s.heap z TI TO .none) (gI:IsPair s.heap TI (.ref i1) (.ref i2)) (gO:IsPair s.heap TO a b) (g1:SI s.heap i1 x t m) (g2:s.heap.IsListIter i2 l m) (gl:s.heap.IsList l ys) (hend:x.cps[m]?=none \/ ys[m]?=none)
    (k:∀ h' tk,(∀ d o,d≠z->d≠TO->d≠i1->d≠i2->s.heap.get? d=some o->h'.get? d=some o)->Q none { s with heap:=h',toks:=tk }):wpAny (model prog w) A (pyNext (.ref z)) Q E s:=by
  have hT:s.TypeIs (.ref z) "zip":=⟨_,gz,rfl⟩
  unfold pyNext
  refine wpAny_bind (wpAny_attempt (wpAny_callSpecial?_slot (name:=Str.ofString "__next__") hT F.slot_zip_next (wpAny_call_entry F.slot_zip_next hT F.entry_zip_next (last hh D gz gI gO g1 g2 gl hend fun h' tk e hk he=>?_) (F.args_zip_next_1 _))))
  obtain ⟨o,ho,hc⟩:=he
  exact wpAny_bind (wpAny_isInstance (T:="StopIteration") (b:=true) ⟨o,ho,hc⟩ isSubtype_stop (wpAny_pure (k _ _ hk)))
end
def hA (h:Heap) (x:Str) (t:Tok):Heap:=h.push { cls:=.type "str_ascii_iterator",data:=.fields #[.str x t,.int 0 0] }
def hB (h:Heap) (x:Str) (t:Tok) (l:Addr):Heap:=(hA h x t).push { cls:=.type "list_iterator",data:=.fields #[.ref l,.int 0 0] }
def hC (h:Heap) (x:Str) (t:Tok) (l:Addr):Heap:=(hB h x t l).push { cls:=.type "tuple",data:=.seq #[.ref h.objs.size,.ref (hA h x t).objs.size] }
def hD (h:Heap) (x:Str) (t:Tok) (l:Addr):Heap:=(hC h x t l).push { cls:=.type "tuple",data:=.seq #[.none,.none] }
def hE (h:Heap) (x:Str) (t:Tok) (l:Addr):Heap:=(hD h x t l).push { cls:=.type "zip",data:=.fields #[.none,.bool false,.bool false,.ref (hB h x t l).objs.size,.ref (hC h x t l).objs.size] }
theorem makes (x:Str) (t:Tok) (l:Addr) (ys:Array Value) (ha:x.cps.all (·<128)=true) :
    Meets (Builtin.«zip.__new__» ⟨[.type "zip",.str x t,.ref l],[]⟩) (fun _ R s=>s.heap.IsList l ys/\R (.ok (.ret (.ref (hD s.heap x t l).objs.size))) { s with heap:=hE s.heap x t l }):=
  .of_wp fun prog w A R s h=>by
    obtain ⟨hp,g,d,tk,os⟩:=s
    obtain ⟨gl,h⟩:=h
    have hsub:=sub_zip
    have gl2:Heap.IsList (Shared.heap ⟨hp.push { cls:=.type "str_ascii_iterator",data:=.fields #[.str x t,.int 0 0] },g,d,tk,os⟩) l ys:=Heap.IsList.push gl _
    wp_walk using wpAny_pyIter_ascii ha,wpAny_pyIter_list gl2
    exact⟨_,rfl,h⟩
section
variable {prog:Program}{w:World}{A:Around}{E:Value->Shared->Prop}{s:Shared}
theorem made {x:Str}{t:Tok}{l:Addr}{ys:Array Value}{Q:Value->Shared->Prop} (ha:x.cps.all (·<128)=true) (gl:s.heap.IsList l ys)
    (k:∀ h',IsZip h' (s.heap.objs.size+4) (s.heap.objs.size+2) (s.heap.objs.size+3) .none->IsPair h' (s.heap.objs.size+2) (.ref s.heap.objs.size) (.ref (s.heap.objs.size+1)) ->
      IsPair h' (s.heap.objs.size+3) .none .none->SI h' s.heap.objs.size x t 0->h'.IsListIter (s.heap.objs.size+1) l 0->(∀ d o,s.heap.get? d=some o->h'.get? d=some o)->Q (.ref (s.heap.objs.size+4)) { s with heap:=h' }) :
    wpAny (model prog w) A (call (.type "zip") [.str x t,.ref l]) Q E s:=by
  refine callType_new F.called_zip (by decide) (F.typeCall_zip_2 _ _) (F.newCall_zip_2 _ _) (fun obj=>F.args_object_init_3 obj _ _) F.entry_zip_new (makes x t l ys ha) ⟨gl,?_⟩
  have z1:(hA s.heap x t).objs.size=s.heap.objs.size+1:=Heap.size_push ..
  have z2:(hB s.heap x t l).objs.size=s.heap.objs.size+2:=by unfold hB;rw [Heap.size_push,z1]
  have z3:(hC s.heap x t l).objs.size=s.heap.objs.size+3:=by unfold hC;rw [Heap.size_push,z2]
  have z4:(hD s.heap x t l).objs.size=s.heap.objs.size+4:=by unfold hD;rw [Heap.size_push,z3]
  have q5:(hE s.heap x t l).get? (hD s.heap x t l).objs.size=some _:=Heap.get?_push_size _ rfl
  have q4:(hE s.heap x t l).get? (hC s.heap x t l).objs.size=some _:=Heap.get?_push_of_some _ (Heap.get?_push_size _ rfl)
  have q3:(hE s.heap x t l).get? (hB s.heap x t l).objs.size=some _:=Heap.get?_push_of_some _ (Heap.get?_push_of_some _ (Heap.get?_push_size _ rfl))
  have q2:(hE s.heap x t l).get? (hA s.heap x t).objs.size=some _:=Heap.get?_push_of_some _ (Heap.get?_push_of_some _ (Heap.get?_push_of_some _ (Heap.get?_push_size _ rfl)))
  have q1:(hE s.heap x t l).get? s.heap.objs.size=some _:=Heap.get?_push_of_some _ (Heap.get?_push_of_some _ (Heap.get?_push_of_some _ (Heap.get?_push_of_some _ (Heap.get?_push_size _ rfl))))
  show _/\_
  rw [z2,z3,z4] at q5;rw [z1,z2] at q3;rw [z3] at q4;rw [z1] at q2;rw [z4]
  exact⟨⟨_,q5,rfl⟩,k _ q5 q3 q4 ⟨_,q1,rfl,rfl⟩ ⟨_,q2,rfl,rfl⟩ fun d o e=>Heap.get?_push_of_some _ (Heap.get?_push_of_some _ (Heap.get?_push_of_some _ (Heap.get?_push_of_some _ (Heap.get?_push_of_some _ e))))⟩
end
end ZS
section
namespace ST
open PySem
def LB (b:Nat):List Nat:=(List.range 7).filter fun i=>b.testBit i
def msk (n:Nat):Nat:=if n<5 then 7 else 31
def tb (n:Nat) (L:List Nat) (led:Bool) (mv:Nat):SetTable:={ mask:=msk n,place:=L.toArray,dummies:=#[],finger:=0,led:=led,moves:=mv,plain:=true }
def plus (b v:Nat):Nat:=b ||| (1 <<< v)
def pl (b v:Nat):Nat:=SetTable.below (LB b).toArray v
theorem plus_lt:∀ b,b<128->∀ v,v<7->plus b v<128:=by decide +kernel
theorem put_at:∀ b,b<128->∀ v,v<7->(LB b).contains v=false->(LB b).take (pl b v)++[v]++(LB b).drop (pl b v)=LB (plus b v)/\SetTable.insertAt (LB b).toArray (pl b v) v=(LB (plus b v)).toArray/\pl b v<=(LB b).length:=by decide +kernel
theorem len_le:∀ b,b<128->(LB b).length<=7:=by decide +kernel
def slotAt (b k:Nat):Nat:=if k=0 then 0 else (LB b).getD (k - 1) 0+1
theorem below_at:∀ b,b<128->∀ k,k<=(LB b).length->SetTable.below (LB b).toArray (slotAt b k)=k:=by decide +kernel
def liveOf (mask:Nat) (owner:Array (Option Nat)):List (Nat × Nat):=(List.range (mask+1)).filterMap fun j=>(owner.getD j none).map (j,·)
theorem lay_at:∀ b,b<128->(LB b).length=5->(SetTable.layClean 31 ((LB b).map fun (n:Nat)=>(n:Int)).toArray).map (liveOf 31)=some ((LB b).zip (List.range 5)):=by decide +kernel
theorem mem_lt {b v:Nat} (h:v∈LB b):v<7:=List.mem_range.mp (List.mem_filter.mp h).1
theorem has_plus:∀ b,b<128->∀ v,v<7->∀ u,u<7->(LB (plus b v)).contains u=((LB b).contains u||u==v):=by decide +kernel
theorem rising (b:Nat):(LB b).Pairwise (·<·):=List.Pairwise.sublist List.filter_sublist List.pairwise_lt_range
theorem slot_empty {n v:Nat}{L:List Nat}{led:Bool}{mv:Nat} (h:L.contains v=false):(tb n L led mv).slot v=.empty:=by
  unfold SetTable.slot tb
  have e:∀ i:Nat,(L.toArray[i]?==some v)=false:=fun i=>by
    rw [beq_eq_false_iff_ne]
    intro z
    rw [List.getElem?_toArray] at z
    have:=List.mem_of_getElem? z
    rw [<- List.contains_iff_mem,h] at this
    cases this
  simp only [e,SetTable.has]
  rfl
theorem free {n v:Nat}{L:List Nat}{led:Bool}{mv:Nat} (hv:v<7) (h:L.contains v=false):(tb n L led mv).freeSlot (v:Int)=some (v,false):=by
  have hm:SetTable.bits (v:Int) % ((tb n L led mv).mask+1)=v:=by
    unfold SetTable.bits tb msk
    simp only
    split <;> omega
  unfold SetTable.freeSlot SetTable.probe
  have ef:10*SetTable.turns (tb n L led mv).mask=(10*SetTable.turns (tb n L led mv).mask - 1)+1:=by
    unfold SetTable.turns
    omega
  rw [ef]
  simp only [SetTable.probe.go,SetTable.probeStart,hm,slot_empty h]
  rfl
theorem fits_tb {b n:Nat}{led:Bool}{mv:Nat} (hb:b<128) (h:(LB b).length<=5 \/ 5<=n):(tb n (LB b) led mv).fits (LB b).length=true:=by
  unfold SetTable.fits SetTable.fill tb msk
  have:=len_le b hb
  simp
  split <;> omega
theorem lay_new {b v:Nat}{led:Bool}{mv:Nat} (hb:b<128) (hv:v<7) (h:(LB b).contains v=false) (es:Array (Int × Value)) (hes:es.size=(LB b).length) (x:Value) :
    layNew (tb (LB b).length (LB b) led mv) es (v:Int) x=(SetTable.insertAt es (pl b v) ((v:Int),x),tb (LB b).length (LB (plus b v)) led mv,false,false):=by
  obtain ⟨h1,h2,h3⟩:=put_at b hb v hv h
  unfold layNew
  rw [free hv h]
  have ep:(tb (LB b).length (LB b) led mv).put v=(tb (LB b).length (LB (plus b v)) led mv,pl b v):=by
    unfold SetTable.put tb
    show (({ mask:=_,place:=SetTable.insertAt (LB b).toArray (pl b v) v,dummies:=_,finger:=_,led:=_,moves:=_,plain:=_ }:SetTable),pl b v)=_
    rw [h2]
    rfl
  have hl:(LB (plus b v)).length=(LB b).length+1:=by
    rw [<- h1,List.length_append,List.length_append,List.length_take,List.length_drop]
    show _+1+_=_
    omega
  have hsz:(SetTable.insertAt es (pl b v) ((v:Int),x)).size=(LB (plus b v)).length:=by
    unfold SetTable.insertAt
    rw [hl]
    simp [hes]
    omega
  have hf:(tb (LB b).length (LB (plus b v)) led mv).fits (LB (plus b v)).length=true:=by
    refine fits_tb (plus_lt b hb v hv) ?_
    omega
  simp only [ep,hsz]
  unfold SetTable.orStandIn
  simp only [hf,if_true]
  rfl
theorem ins_list {α:Type} (es:Array α) (p:Nat) (x:α):(SetTable.insertAt es p x).toList=es.toList.take p++[x]++es.toList.drop p:=by
  unfold SetTable.insertAt
  simp
  rw [List.take_of_length_le (by rw [List.length_drop,Array.length_toList];exact Nat.le_refl _)]
theorem plus_old:∀ b,b<128->∀ v,v<7->(LB b).contains v=true->plus b v=b:=by decide +kernel
theorem laid_at {b:Nat}{led:Bool}{mv:Nat} (hb:b<128) (h5:(LB b).length=5):SetTable.laid 31 0 mv led true ((LB b).map fun (n:Nat)=>(n:Int)).toArray=some (tb 5 (LB b) led mv,#[0,1,2,3,4]):=by
  have:=lay_at b hb h5
  unfold SetTable.laid
  cases e:SetTable.layClean 31 ((LB b).map fun (n:Nat)=>(n:Int)).toArray with
  | none=>rw [e] at this;cases this
  | some owner=>
    rw [e] at this
    have this:liveOf 31 owner=(LB b).zip (List.range 5):=Option.some.inj this
    have e1:(liveOf 31 owner).map (·.1)=LB b:=by rw [this,List.map_fst_zip (by rw [h5];simp)]
    have e2:(liveOf 31 owner).map (·.2)=[0,1,2,3,4]:=by rw [this,List.map_snd_zip (by rw [h5];simp)];rfl
    show some (({ mask:=31,place:=((liveOf 31 owner).map (·.1)).toArray,dummies:=#[],finger:=0,led:=led,moves:=mv,plain:=true }:SetTable),((liveOf 31 owner).map (·.2)).toArray)=_
    rw [e1,e2]
    rfl
theorem relay {b:Nat}{led:Bool}{mv:Nat} (hb:b<128) (h5:(LB b).length=5) (es:Array (Int × Value)) (hes:es.toList.map (·.1)=(LB b).map fun (n:Nat)=>(n:Int)) :
    ∃ mv',relayAll (tb 4 (LB b) led mv) es (SetTable.grown es.size)=(es,tb 5 (LB b) led mv',false):=by
  have hsz:es.size=5:=by rw [<- Array.length_toList,<- List.length_map (f:=(·.1)),hes,List.length_map,h5]
  have hm:es.map (·.1)=((LB b).map fun (n:Nat)=>(n:Int)).toArray:=by
    rw [<- hes]
    cases es
    simp
  refine⟨SetTable.movedTo (tb 4 (LB b) led mv) 31,?_⟩
  have e20:SetTable.sizeAbove (SetTable.grown 5) - 1=31:=by decide +kernel
  unfold relayAll SetTable.relaid
  rw [hsz,e20,hm]
  show (match SetTable.laid 31 0 _ led true _ with
    | some (t',order)=>_
    | none=>_)=_
  rw [laid_at hb h5]
  have ho:((#[0,1,2,3,4]:Array Nat).filterMap (es[·]?))=es:=by
    obtain ⟨l⟩:=es
    match l,hsz with
    | [a,b,c,d,e],_=>rfl
  have hc:coversAll #[0,1,2,3,4] 5=true:=by decide +kernel
  have hf:(tb 5 (LB b) led (SetTable.movedTo (tb 4 (LB b) led mv) 31)).fits 5=true:=by
    have:=fits_tb (n:=5) (led:=led) (mv:=SetTable.movedTo (tb 4 (LB b) led mv) 31) hb (.inr (Nat.le_refl 5))
    rw [h5] at this
    exact this
  simp only [ho,hsz,hc,hf,Bool.and_self,if_true]
theorem full {b n:Nat}{led:Bool}{mv:Nat} (hb:b<128) (hn:(LB b).length=n+1):(tb n (LB b) led mv).tooFull=decide (n=4):=by
  have:=len_le b hb
  unfold SetTable.tooFull SetTable.fill tb msk
  rw [Bool.eq_iff_iff]
  simp [hn]
  split <;> omega
end ST
end
section
namespace ST
open PySem
def Has (es:Array (Int × Value)) (b:Nat):Prop:=es.toList.map (·.1)=(LB b).map (fun (n:Nat)=>(n:Int))/\∀ e∈es.toList,∃ t,e.2=.int e.1 t
def setO (es:Array (Int × Value)) (ep:Nat) (b:Nat) (led:Bool) (mv:Nat):Obj:={ cls:=.type "set",dict:=none,data:=.set es ep (tb (LB b).length (LB b) led mv),slots:=#[] }
def Good (h:Heap) (a:Addr) (b:Nat) (led:Bool):Prop:=∃ es ep mv,h.get? a=some (setO es ep b led mv)/\Has es b
theorem Has.size {es:Array (Int × Value)}{b:Nat} (h:Has es b):es.size=(LB b).length:=by
  rw [<- Array.length_toList,<- List.length_map (f:=(·.1)),h.1,List.length_map]
theorem hash_small:∀ v,v<7->hashInt ((v:Nat):Int)=((v:Nat):Int):=by decide +kernel
section
variable {prog:Program}{w:World}{A:Around}{E:Value->Shared->Prop}{s:Shared}
theorem Has.mem {es:Array (Int × Value)}{b:Nat} (h:Has es b) {e:Int × Value} (he:e∈es.toList):∃ n,n∈LB b/\e.1=((n:Nat):Int):=by
  have:e.1∈es.toList.map (·.1):=List.mem_map_of_mem he
  rw [h.1] at this
  obtain ⟨n,h1,h2⟩:=List.mem_map.mp this
  exact⟨n,h1,h2.symm⟩
theorem Has.elems {es:Array (Int × Value)}{b:Nat} (h:Has es b):ElemsOf (intKind prog w) es.toList:=fun e he=>by
  obtain ⟨t,ht⟩:=h.2 e he
  obtain ⟨n,hn,en⟩:=h.mem he
  rw [ht]
  refine⟨⟨e.1,by simp [intKind,Value.isInt],?_⟩,rfl⟩
  rw [en]
  exact (hash_small n (mem_lt hn)).symm
theorem Has.find {es:Array (Int × Value)}{b v:Nat} (h:Has es b) (hv:v<7):(es.toList.findIdx? fun e=>(intKind prog w).is ((v:Nat):Int) e.2).isSome=(LB b).contains v:=by
  have hh:∀ e∈es.toList,(intKind prog w).is ((v:Nat):Int) e.2=(e.1==((v:Nat):Int)):=fun e he=>by
    obtain ⟨t,ht⟩:=h.2 e he
    rw [ht]
    simp [intKind,Value.isInt,BEq.comm]
  rw [List.findIdx?_isSome,Bool.eq_iff_iff,List.any_eq_true,List.contains_iff_mem]
  constructor
  · rintro ⟨e,he,p⟩
    rw [hh e he,beq_iff_eq] at p
    obtain ⟨n,hn,en⟩:=h.mem he
    rw [en] at p
    have:n=v:=by omega
    rw [<- this];exact hn
  · intro hm
    have:((v:Nat):Int)∈es.toList.map (·.1):=by rw [h.1];exact List.mem_map_of_mem hm
    obtain ⟨e,he,q⟩:=List.mem_map.mp this
    exact⟨e,he,by rw [hh e he,q];exact beq_self_eq_true _⟩
theorem Has.put {es:Array (Int × Value)}{b v:Nat} (hb:b<128) (h:Has es b) (hv:v<7) (hn:(LB b).contains v=false) (t:Tok):Has (SetTable.insertAt es (pl b v) ((v:Int),.int v t)) (plus b v):=by
  obtain ⟨h1,_,_⟩:=put_at b hb v hv hn
  refine⟨?_,fun e he=>?_⟩
  · rw [ins_list,List.map_append,List.map_append,List.map_take,List.map_drop,h.1,<- h1,List.map_append,List.map_append,List.map_take,List.map_drop]
    rfl
  · rw [ins_list] at he
    rcases List.mem_append.mp he with he | he
    · rcases List.mem_append.mp he with he | he
      · exact h.2 e (List.mem_of_mem_take he)
      · rw [List.mem_singleton.mp he];exact⟨t,rfl⟩
    · exact h.2 e (List.mem_of_mem_drop he)
theorem get_put {h:Heap}{a:Addr}{o:Obj}{es es':Array (Int × Value)}{ep:Nat}{t t':SetTable} (ho:h.get? a=some o) (hd:o.data=.set es ep t):(h.update a (Obj.putSet es' t')).get? a=some { o with data:=.set es' (ep+1) t' }:=by
  have q:=Heap.get?_update_self (Obj.putSet es' t') ho (by rw [putSet_of es' t' hd];rfl)
  rw [putSet_of es' t' hd] at q
  exact q
theorem small_fits {n:Nat} (h:n<=7):n<=sizeLine:=by rw [sizeLine_eq];omega
theorem add {a:Addr}{b v:Nat}{led:Bool}{tk:Tok}{Q:Bool->Shared->Prop} (hb:b<128) (hv:v<7) (g:Good s.heap a b led)
    (k:∀ r h',Heap.SameBut a s.heap h'->Good h' a (plus b v) led->Q r { s with heap:=h' }):wpAny (model prog w) A (setAddHashed a (.int v tk) (v:Int)) Q E s:=by
  obtain ⟨es,ep,mv,ho,he⟩:=g
  have hf:(tb (LB b).length (LB b) led mv).fits es.size=true:=by rw [he.size];exact fits_tb hb (by omega)
  have hsz7:=len_le b hb
  have hbs:es.size<scanBound:=by rw [he.size];show _<4096;omega
  unfold setAddHashed setAddHashedIn
  refine wpAny_holding (wpAny_bind (wpAny_setState_of ho rfl hf ?_))
  dsimp only
  rw [byScan_of (knd:=intKind prog w) rfl hbs he.elems]
  simp only [↓reduceIte]
  unfold setAddByScan
  have hz:(intKind prog w).hash ((v:Nat):Int)=((v:Nat):Int):=hash_small v hv
  have sc:∀ Q':ScanMet->Shared->Prop,Q' (match es.toList.findIdx? (fun e=>(intKind prog w).is ((v:Nat):Int) e.2) with | some j=>.found (0+j) | none=>.absent) s ->
      wpAny (model prog w) A (setScan a (.int ((v:Nat):Int) tk) ((v:Nat):Int) true es) Q' E s:=fun Q' hq=>by
    have q:=wpAny_setScan_of (knd:=intKind prog w) (A:=A) (E:=E) (Q:=Q') (x:=.int ((v:Nat):Int) tk) (k:=((v:Nat):Int)) (adding:=true) (by simp [intKind,Value.isInt]) ho rfl hf he.elems (s:=s)
    rw [hz] at q
    exact q hq
  refine wpAny_bind (wpAny_bind (wpAny_rule (wpAny_bind (sc _ ?_))))
  have fd:=he.find (prog:=prog) (w:=w) hv
  cases e:es.toList.findIdx? (fun e=>(intKind prog w).is ((v:Nat):Int) e.2) with
  | some j=>
    rw [e] at fd
    have hc:(LB b).contains v=true:=fd.symm
    dsimp only
    refine wpAny_pure (wpAny_pure ?_)
    have es':s={ s with heap:=s.heap }:=by cases s;rfl
    rw [es']
    refine k _ s.heap (Heap.SameBut.refl a s.heap) ?_
    rw [plus_old b hb v hv hc]
    exact⟨es,ep,mv,ho,he⟩
  | none=>
    rw [e] at fd
    have hc:(LB b).contains v=false:=fd.symm
    dsimp only
    rw [lay_new hb hv hc es he.size]
    have he':=he.put hb hv hc tk
    have hb':=plus_lt b hb v hv
    have hl:(LB (plus b v)).length=(LB b).length+1:=by
      obtain ⟨h1,_,h3⟩:=put_at b hb v hv hc
      rw [<- h1,List.length_append,List.length_append,List.length_take,List.length_drop]
      show _+1+_=_
      omega
    generalize eI:SetTable.insertAt es (pl b v) ((v:Int),Value.int v tk)=es1 at he' ⊢
    have hz1:es1.size<=sizeLine:=by rw [he'.size];exact small_fits (len_le _ hb')
    dsimp only
    refine wpAny_bind (wpAny_pure ?_)
    show wpAny _ _ (hashByValue 8 (Value.int v tk) >>= _) _ _ _
    refine wpAny_bind (wpAny_pure ?_)
    simp only [↓reduceIte]
    refine wpAny_bind (wpAny_storeSet_of ho rfl ?_ hz1)
    have g1:=get_put (es':=es1) (t':=tb (LB b).length (LB (plus b v)) led mv) ho rfl
    have hfl:=full (n:=(LB b).length) (led:=led) (mv:=mv) hb' hl
    by_cases q:(LB b).length=4
    · rw [q] at hfl g1 ⊢
      rw [hfl]
      simp only [Bool.not_false,Bool.true_and,decide_true,↓reduceIte]
      obtain ⟨mv',er⟩:=relay (led:=led) (mv:=mv) hb' (by omega) es1 he'.1
      rw [er]
      dsimp only
      refine wpAny_bind (wpAny_pure (wpAny_bind (wpAny_storeSet_of g1 rfl ?_ hz1)))
      have g2:=get_put (es':=es1) (t':=tb 5 (LB (plus b v)) led mv') g1 rfl
      refine wpAny_pure (wpAny_pure (k _ _ ((Heap.SameBut.update ..).trans (Heap.SameBut.update ..)) ⟨es1,ep+1+1,mv',?_,he'⟩))
      rw [g2]
      unfold setO
      rw [show (LB (plus b v)).length=5 by omega]
    · rw [hfl,decide_eq_false q]
      simp only [Bool.and_false,Bool.false_eq_true,↓reduceIte]
      refine wpAny_pure (wpAny_pure (k _ _ (Heap.SameBut.update ..) ⟨es1,ep+1,mv,?_,he'⟩))
      rw [g1]
      unfold setO
      have em:tb (LB (plus b v)).length (LB (plus b v)) led mv=tb (LB b).length (LB (plus b v)) led mv:=by
        unfold tb msk
        rw [hl]
        have:((LB b).length+1<5)=((LB b).length<5):=by rw [eq_iff_iff];omega
        simp only [this]
      rw [em]
end
end ST
end
section
namespace ST
open PySem
theorem erase_perm {α:Type}:∀ {l:List α}{i:Nat}{x:α},l[i]?=some x->(x::l.eraseIdx i).Perm l
  | [],i,x,h=>by simp at h
  | a::r,0,x,h=>by simp at h;subst h;exact .refl _
  | a::r,i+1,x,h=>by
    rw [List.eraseIdx_cons_succ]
    exact (List.Perm.swap a x _).trans ((erase_perm (l:=r) (i:=i) (by simpa using h)).cons a)
theorem pick_go {α:Type} (next:Nat->Nat):∀ (fuel k:Nat) (left:List α) (out:Array α),left.length=fuel->(pickOrder.go next fuel k left out).toList.Perm (out.toList++left)
  | 0,k,left,out,h=>by
    have:left=[]:=List.eq_nil_of_length_eq_zero h
    subst this
    simp [pickOrder.go]
  | fuel+1,k,left,out,h=>by
    have hlt:next k % left.length<left.length:=Nat.mod_lt _ (by omega)
    obtain ⟨x,hx⟩:∃ x,left[next k % left.length]?=some x:=⟨_,List.getElem?_eq_getElem hlt⟩
    simp only [pickOrder.go,hx]
    refine (pick_go next fuel (k+1) _ _ (by rw [List.length_eraseIdx_of_lt hlt];omega)).trans ?_
    rw [Array.toList_push,List.append_assoc]
    exact List.Perm.append_left _ (erase_perm hx)
theorem pick_perm {α:Type} (next:Nat->Nat) (xs:Array α):(pickOrder next xs).toList.Perm xs.toList:=by
  have:=pick_go next xs.size 0 xs.toList #[] (by simp)
  simpa [pickOrder] using this
def ordOf (w:World) (a:Addr) (ep:Nat) (es:Array (Int × Value)):Array (Int × Value):=if w.params.followText "set-order"=true then pickOrder (w.params.setOrder a ep) es else es
theorem ord_perm (w:World) (a:Addr) (ep:Nat) (es:Array (Int × Value)):(ordOf w a ep es).toList.Perm es.toList:=by
  unfold ordOf
  split
  · exact pick_perm _ _
  · exact .refl _
def slW (w:World) (b i:Nat):Nat:=if w.params.followText "set-order"=true then 0 else slotAt b i
theorem slot_next:Slot "set_iterator" "__next__" "set_iterator.__next__":=
  .of (owner:="set_iterator") (n:="__next__") (by rw [typeLookup_type,builtinLookup_eq_fast];kernel_rfl) (by decide +kernel) (by decide +kernel) (by decide +kernel) (by first | exact .inl (by decide +kernel) | exact .inr (by decide +kernel)) (by rw [isSubtype_type];kernel_rfl)
theorem slot_self:Slot "set_iterator" "__iter__" "set_iterator.__iter__":=
  .of (owner:="set_iterator") (n:="__iter__") (by rw [typeLookup_type,builtinLookup_eq_fast];kernel_rfl) (by decide +kernel) (by decide +kernel) (by decide +kernel) (by first | exact .inl (by decide +kernel) | exact .inr (by decide +kernel)) (by rw [isSubtype_type];kernel_rfl)
theorem entry_next:entryFor table "set_iterator.__next__"=some Builtin.«set_iterator.__next__»:=entryFor_of_tree (by kernel_rfl)
theorem entry_self:entryFor table "set_iterator.__iter__"=some Builtin.«dict_keyiterator.__iter__»:=
  entryFor_alias (id':="dict_keyiterator.__iter__") (by kernel_rfl) (by first | rfl | decide +kernel | (unfold String.splitOn;simp +decide [String.splitOnAux])) (by decide +kernel) (by kernel_rfl)
theorem entry_iter:entryFor table "set.__iter__"=some Builtin.«frozenset.__iter__»:=
  entryFor_alias (id':="frozenset.__iter__") (by kernel_rfl) (by first | rfl | decide +kernel | (unfold String.splitOn;simp +decide [String.splitOnAux])) (by decide +kernel) (by kernel_rfl)
theorem owner_it:Manifest.owners.lookup (String.ofList ['r','o','t','a','r','e','t','i','_','t','e','s'].reverse)=some Manifest.sig_set_iterator:=by kernel_rfl
theorem args_next (a:Value):argsOk "set_iterator.__next__" ⟨[a],[]⟩:=by
  unfold argsOk;rw [signature?_of (id:="set_iterator.__next__") (n:=['_','_','t','x','e','n','_','_']) (o:=['r','o','t','a','r','e','t','i','_','t','e','s']) (by kernel_rfl) owner_it];kernel_rfl
theorem args_self (a:Value):argsOk "set_iterator.__iter__" ⟨[a],[]⟩:=by
  unfold argsOk;rw [signature?_of (id:="set_iterator.__iter__") (n:=['_','_','r','e','t','i','_','_']) (o:=['r','o','t','a','r','e','t','i','_','t','e','s']) (by kernel_rfl) owner_it];kernel_rfl
abbrev itO (sl i:Nat) (a:Addr) (n ep:Nat):Obj:={ cls:=.type "set_iterator",dict:=none,data:=.fields #[rawInt (sl:Nat),rawInt (i:Nat),.ref a,rawInt (n:Nat),rawInt (ep:Nat)],slots:=#[] }
section
variable {prog:Program}{w:World}{A:Around}{E:Value->Shared->Prop}{s:Shared}
variable {a I:Addr}{es:Array (Int × Value)}{ep b mv:Nat}
theorem good_fits (hb:b<128) (he:Has es b) {led:Bool}:(tb (LB b).length (LB b) led mv).fits es.size=true:=by
  rw [he.size]
  exact fits_tb hb (by omega)
theorem by_text {Q:Bool->Shared->Prop} (h:Q (w.params.followText "set-order") s):wpAny (model prog w) A setsByText Q E s:=by
  unfold setsByText
  exact wpAny_bind (wpAny_askSetting (wpAny_pure h))
theorem next_of {i:Nat}{Q:Option (Value × Nat)->Shared->Prop} (hb:b<128) (he:Has es b) (ho:s.heap.get? a=some (setO es ep b (!w.params.followText "set-order") mv)) (hi:i<=es.size)
    (h:Q (((ordOf w a ep es)[i]?).map fun e=>(e.2,slW w b (i+1))) s):wpAny (model prog w) A (setNext a (slW w b i) i ep) Q E s:=by
  have hf:=good_fits (mv:=mv) hb he (led:=!w.params.followText "set-order")
  unfold setNext
  refine wpAny_bind (wpAny_setState_of ho rfl hf ?_)
  dsimp only
  refine wpAny_bind (by_text ?_)
  cases q:w.params.followText "set-order" with
  | true=>
    simp only [↓reduceIte]
    refine wpAny_ite_split (fun z=>absurd z (by simp)) (fun _=>?_)
    refine wpAny_bind ?_
    unfold setWalk
    refine wpAny_bind (wpAny_setState_of ho rfl hf ?_)
    dsimp only
    refine wpAny_bind (by_text ?_)
    rw [q]
    simp only [↓reduceIte]
    refine wpAny_bind (wpAny_askSetting (wpAny_pure (wpAny_pure ?_)))
    have eo:ordOf w a ep es=pickOrder (w.params.setOrder a ep) es:=by unfold ordOf;rw [if_pos q]
    have e1:slW w b (i+1)=slW w b i:=by unfold slW;rw [if_pos q,if_pos q]
    rw [eo,e1] at h
    exact h
  | false=>
    simp only [Bool.false_eq_true,↓reduceIte]
    refine wpAny_ite_split (fun z=>absurd z Bool.false_ne_true) (fun _=>?_)
    refine wpAny_bind (wpAny_pure ?_)
    rw [q] at ho
    refine wpAny_bind (wpAny_pure ?_)
    have eo:ordOf w a ep es=es:=by unfold ordOf;rw [if_neg (by rw [q];exact Bool.false_ne_true)]
    have e1:∀ j,slW w b j=slotAt b j:=fun j=>by unfold slW;rw [if_neg (by rw [q];exact Bool.false_ne_true)]
    have hbl:SetTable.below (tb (LB b).length (LB b) (!false) mv).place (slotAt b i)=i:=below_at b hb i (by rw [<- he.size];exact hi)
    rw [eo,e1] at h
    rw [e1,hbl]
    refine wpAny_pure ?_
    by_cases z:i<es.size
    · have z':i<(LB b).length:=by rw [<- he.size];exact z
      have p1:es[i]?=some es[i]:=Array.getElem?_eq_getElem z
      have p2:(tb (LB b).length (LB b) (!false) mv).place[i]?=some ((LB b)[i]):=by
        show (LB b).toArray[i]?=_
        rw [List.getElem?_toArray]
        exact List.getElem?_eq_getElem z'
      rw [p1] at h ⊢
      rw [p2]
      have e2:slotAt b (i+1)=(LB b)[i]+1:=by
        unfold slotAt
        rw [if_neg (by omega),List.getD_eq_getElem?_getD,Nat.add_sub_cancel,List.getElem?_eq_getElem z']
        rfl
      rw [e2] at h
      exact h
    · have p1:es[i]?=none:=Array.getElem?_eq_none (by omega)
      rw [p1] at h ⊢
      exact h
theorem item {i:Nat}{e:Int × Value}{Q:Option Value->Shared->Prop} (hb:b<128) (he:Has es b) (ho:s.heap.get? a=some (setO es ep b (!w.params.followText "set-order") mv))
    (hI:s.heap.get? I=some (itO (slW w b i) i a es.size ep)) (hi:(ordOf w a ep es)[i]?=some e)
    (k:∀ h',h'.get? I=some (itO (slW w b (i+1)) (i+1) a es.size ep)->Heap.SameBut I s.heap h'->Q (some e.2) { s with heap:=h' }):wpAny (model prog w) A (pyNext (.ref I)) Q E s:=by
  have hT:s.TypeIs (.ref I) "set_iterator":=⟨_,hI,rfl⟩
  have hf:=good_fits (mv:=mv) hb he (led:=!w.params.followText "set-order")
  have hlen:(ordOf w a ep es).size=es.size:=by rw [<- Array.length_toList,(ord_perm w a ep es).length_eq,Array.length_toList]
  have hlt:i<es.size:=by
    rw [<- hlen]
    exact (Array.getElem?_eq_some_iff.mp hi).1
  unfold pyNext
  refine wpAny_bind (wpAny_attempt (wpAny_callSpecial?_slot (name:=Str.ofString "__next__") hT slot_next (wpAny_call_entry slot_next hT entry_next ?_ (args_next _))))
  unfold Builtin.«set_iterator.__next__»
  refine wpAny_bind (wpAny_pure ?_)
  refine wpAny_bind (wpAny_fieldsOf hI rfl ?_)
  show wpAny _ _ (setEntries a >>= _) _ _ _
  refine wpAny_bind (wpAny_setEntries_of ho rfl hf ?_)
  refine wpAny_ite_split (fun z=>absurd z (by simp)) (fun _=>?_)
  show wpAny _ _ (setNext a (Int.toNat ((slW w b i:Nat):Int)) (Int.toNat ((i:Nat):Int)) (Int.toNat ((ep:Nat):Int)) >>= _) _ _ _
  rw [Int.toNat_natCast,Int.toNat_natCast,Int.toNat_natCast]
  refine wpAny_bind (next_of hb he ho (by omega) ?_)
  rw [hi]
  show wpAny _ _ (setField (.ref I) 0 (rawInt ((slW w b (i+1):Nat):Int)) >>= _) _ _ _
  refine wpAny_bind (wpAny_setField_rec hI (by simp) fun h1 g1 s1=>?_)
  refine wpAny_bind (wpAny_setField_rec g1 (by simp) fun h2 g2 s2=>?_)
  exact wpAny_pure ⟨_,rfl,wpAny_pure (k h2 g2 (s1.trans s2))⟩
theorem done {Q:Option Value->Shared->Prop} (hh:A.handled=none) (hb:b<128) (he:Has es b) (ho:s.heap.get? a=some (setO es ep b (!w.params.followText "set-order") mv))
    (hI:s.heap.get? I=some (itO (slW w b es.size) es.size a es.size ep)) (k:∀ h',Heap.ExtBut I s.heap h'->Q none { s with heap:=h' }):wpAny (model prog w) A (pyNext (.ref I)) Q E s:=by
  have hT:s.TypeIs (.ref I) "set_iterator":=⟨_,hI,rfl⟩
  have hf:=good_fits (mv:=mv) hb he (led:=!w.params.followText "set-order")
  have hlen:(ordOf w a ep es).size=es.size:=by rw [<- Array.length_toList,(ord_perm w a ep es).length_eq,Array.length_toList]
  unfold pyNext
  refine wpAny_bind (wpAny_attempt (wpAny_callSpecial?_slot (name:=Str.ofString "__next__") hT slot_next (wpAny_call_entry slot_next hT entry_next ?_ (args_next _))))
  unfold Builtin.«set_iterator.__next__»
  refine wpAny_bind (wpAny_pure ?_)
  refine wpAny_bind (wpAny_fieldsOf hI rfl ?_)
  show wpAny _ _ (setEntries a >>= _) _ _ _
  refine wpAny_bind (wpAny_setEntries_of ho rfl hf ?_)
  refine wpAny_ite_split (fun z=>absurd z (by simp)) (fun _=>?_)
  show wpAny _ _ (setNext a (Int.toNat ((slW w b es.size:Nat):Int)) (Int.toNat ((es.size:Nat):Int)) (Int.toNat ((ep:Nat):Int)) >>= _) _ _ _
  rw [Int.toNat_natCast,Int.toNat_natCast,Int.toNat_natCast]
  refine wpAny_bind (next_of hb he ho (Nat.le_refl _) ?_)
  rw [Array.getElem?_eq_none (by omega)]
  show wpAny _ _ (setField (.ref I) 2 .none >>= _) _ _ _
  refine wpAny_bind (wpAny_setField_rec hI (by simp) fun h1 g1 s1=>?_)
  show wpAny _ _ (newExc (.type "StopIteration") [] >>= _) _ _ _;refine wpAny_bind ?_;simp only [newExc,newTuple]
  refine wpAny_bind (wpAny_newObj_type ?_ (by size_fits));refine wpAny_bind (m:=firstArgMember _ _) (wpAny_of_eq (a:=Value.none) (by first | rfl | (simp only [firstArgMember];rfl)) ?_)
  refine wpAny_newObj_type ?_ (by size_fits);simp only [raiseNew];refine wpAny_bind (wpAny_handled ?_)
  first | rw [show A.in1.handled=none from hh] | rw [hh]
  refine wpAny_bind (wpAny_pure (wpAny_throw ?_))
  exact wpAny_bind (wpAny_isInstance (T:="StopIteration") (b:=true) ⟨_,Heap.get?_push_size _ rfl,rfl⟩ isSubtype_stop (wpAny_pure (k _ ((s1.extBut.push _).push _))))
theorem iter {Q:Value->Shared->Prop} (hb:b<128) (he:Has es b) (ho:s.heap.get? a=some (setO es ep b (!w.params.followText "set-order") mv))
    (k:Q (.ref s.heap.objs.size) { s with heap:=s.heap.push (itO (slW w b 0) 0 a es.size ep) }):wpAny (model prog w) A (pyIter (.ref a)) Q E s:=by
  have hT:s.TypeIs (.ref a) "set":=⟨_,ho,rfl⟩
  have hf:=good_fits (mv:=mv) hb he (led:=!w.params.followText "set-order")
  refine wpAny_pyIter_slot hT F.slot_set_iter (wpAny_call_entry F.slot_set_iter hT entry_iter ?_ (F.args_set_iter_1 _))
  unfold Builtin.«frozenset.__iter__» Builtin.Frozenset.slot0
  refine wpAny_bind (wpAny_bind (wpAny_pure (wpAny_pure ?_)))
  refine wpAny_bind (wpAny_bind (wpAny_setEntries_of ho rfl hf (wpAny_pure ?_)))
  refine wpAny_bind ?_
  unfold setDrawn
  refine wpAny_bind (wpAny_setState_of ho rfl hf ?_)
  dsimp only
  refine wpAny_bind (by_text (wpAny_pure ?_))
  refine wpAny_ite_split (fun z=>absurd z ?_) (fun _=>?_)
  · cases w.params.followText "set-order" <;> exact Bool.false_ne_true
  refine wpAny_bind (wpAny_pure ?_)
  refine wpAny_bind (wpAny_setEpoch_of ho rfl hf ?_)
  refine wpAny_bind (wpAny_newObj_type (wpAny_pure ⟨_,rfl,"set_iterator",_,⟨_,Heap.get?_push_size _ rfl,rfl⟩,slot_next.lookup,?_⟩))
  have e0:slW w b 0=0:=by
    unfold slW slotAt
    split <;> rfl
  rw [e0] at k
  exact k
theorem self {Q:Value->Shared->Prop}{sl i n:Nat} (hI:s.heap.get? I=some (itO sl i a n ep)) (k:Q (.ref I) s):wpAny (model prog w) A (pyIter (.ref I)) Q E s:=by
  have hT:s.TypeIs (.ref I) "set_iterator":=⟨_,hI,rfl⟩
  refine wpAny_pyIter_slot hT slot_self (wpAny_call_entry slot_self hT entry_self ?_ (args_self _))
  show wpAny _ _ (ret (.ref I)) _ _ s
  exact wpAny_pure ⟨_,rfl,"set_iterator",_,hT,slot_next.lookup,k⟩
end
end ST
end
section
namespace ST
open PySem
def bs (val:Nat->Nat):Nat->Nat
  | 0=>0
  | i+1=>plus (bs val i) (val i)
theorem bs_lt {val:Nat->Nat}{n:Nat} (h:∀ i,i<n->val i<7):∀ i,i<=n->bs val i<128
  | 0,_=>by show 0<128;decide
  | i+1,hi=>plus_lt _ (bs_lt h i (by omega)) _ (h i (by omega))
theorem bs_mem {val:Nat->Nat}{n:Nat} (h:∀ i,i<n->val i<7) {u:Nat} (hu:u<7):∀ i,i<=n->(u∈LB (bs val i)↔∃ j,j<i/\val j=u)
  | 0,_=>by
    constructor
    · intro z
      have:LB (bs val 0)=[]:=by show LB 0=[];decide +kernel
      rw [this] at z
      cases z
    · rintro ⟨j,z,_⟩
      omega
  | i+1,hi=>by
    have e:=has_plus (bs val i) (bs_lt h i (by omega)) (val i) (h i (by omega)) u hu
    rw [<- List.contains_iff_mem]
    show (LB (plus (bs val i) (val i))).contains u=true↔_
    rw [e,Bool.or_eq_true,List.contains_iff_mem,bs_mem h hu i (by omega),beq_iff_eq]
    constructor
    · rintro (⟨j,h1,h2⟩ | z)
      · exact⟨j,by omega,h2⟩
      · exact⟨i,by omega,z.symm⟩
    · rintro ⟨j,h1,h2⟩
      by_cases q:j=i
      · subst q;exact .inr h2.symm
      · exact .inl ⟨j,by omega,h2⟩
section
variable {prog:Program}{w:World}{A:Around}{R:Result->Shared->Prop}{I:Addr}{fp wr:List Addr}{G:Array GenState->Array GenState->Prop}{n:Nat}{P:Nat->Value->Prop}{St:Nat->Shared->Prop}
theorem Good.at {h h':Heap}{a:Addr}{b:Nat}{led:Bool} (g:Good h a b led) (e:∀ o,h.get? a=some o->h'.get? a=some o):Good h' a b led:=
  let ⟨es,ep,mv,ho,r⟩:=g;⟨es,ep,mv,e _ ho,r⟩
theorem loop (W:WalksS prog w A.in1 I fp wr G n P St) (S:Addr) (hS:S ∉ fp) (led:Bool) (val:Nat->Nat) (hval:∀ i v,i<n->P i v->∃ t,v=.int (val i:Nat) t) (h7:∀ i,i<n->val i<7) :
    ∀ (k i:Nat) (s:Shared),n - i=k->i<=n->St i s->Good s.heap S (bs val i) led->(∀ s',Moved (S::wr) G s s'->Good s'.heap S (bs val n) led->R (.ok (.ret .none)) s') ->
      codeAny (model prog w) A (.builtin "set.update.loop" ⟨[.ref S,.ref I],[]⟩) R s:=by
  have hSw:S ∉ wr:=fun q=>hS (W.sub _ q)
  have sub:∀ b∈wr,b∈S::wr:=fun b hb=>List.mem_cons_of_mem _ hb
  intro k
  induction k with
  | zero=>
    intro i s hk hi st g hR
    have e:i=n:=by omega
    subst e
    refine codeAny_builtin PyProof.Rows.F.entry_set_update_loop ?_;rw [Around.under_plainId PyProof.Rows.F.plain_set_update_loop _]
    show wpAny _ A.in1 (pyNext (.ref I) >>= _) _ _ s
    refine wpAny_bind (W.done s _ _ st fun s' hm=>?_)
    show wpAny _ A.in1 (ret Value.none) _ _ s'
    exact wpAny_pure (hR s' (hm.mono sub) (g.at fun o e=>hm.heap S o hSw e))
  | succ k ih=>
    intro i s hk hi st g hR
    have hlt:i<n:=by omega
    refine codeAny_builtin PyProof.Rows.F.entry_set_update_loop ?_;rw [Around.under_plainId PyProof.Rows.F.plain_set_update_loop _]
    show wpAny _ A.in1 (pyNext (.ref I) >>= _) _ _ s
    refine wpAny_bind (W.item i s _ _ hlt st fun v s' hP st' hm=>?_)
    obtain ⟨t,rfl⟩:=hval i v hlt hP
    have g':Good s'.heap S (bs val i) led:=g.at fun o e=>hm.heap S o hSw e
    show wpAny _ A.in1 (holding [Value.int (val i:Nat) t] (setAdd S (.int (val i:Nat) t)) >>= _) _ _ s'
    refine wpAny_bind (wpAny_holding ?_);unfold setAdd;refine wpAny_holding ?_
    refine wpAny_bind ((intKind prog w).pyHash (k:=((val i:Nat):Int)) (by simp [intKind,Value.isInt]) ?_)
    rw [show (intKind prog w).hash ((val i:Nat):Int)=((val i:Nat):Int) from hash_small _ (h7 i hlt)]
    refine add (s:={ s' with toks:=s'.toks+1 }) (bs_lt h7 i hi) (h7 i hlt) g' fun r h' sb g2=>?_
    refine wpAny_pure ⟨plainId_quiet PyProof.Rows.F.plain_set_update_loop _,ih (i+1) _ (by omega) hlt (W.frame _ s' _ _ st' (Nat.le_succ _) fun b hb o e=>?_) g2 fun s'' hm'' g''=>?_⟩
    · rw [sb.2 b (fun q:b=S=>hS (by rw [<- q];exact hb))];exact e
    · refine hR s'' (Moved.trans W.gtrans ((hm.mono sub).then_heap (Nat.le_succ _) fun b o hb e=>?_) hm'') g''
      rw [sb.2 b (fun q:b=S=>hb (by rw [q];exact List.mem_cons_self))];exact e
end
section
variable {prog:Program}{w:World}{A:Around}{E:Value->Shared->Prop}{s:Shared}
abbrev newS (w:World):Obj:={ cls:=.type "set",dict:=none,data:=.set #[] 0 (.fresh 0 0 (!w.params.followText "set-order")) }
theorem code_new (a:Value) {Q:Value->Shared->Prop} (h:Q (.ref s.heap.objs.size) { s with heap:=s.heap.push (newS w) }):codeAny (model prog w) A (.call (.builtin "set.__new__") ⟨[.type "set",a],[]⟩) (wants Q E) s:=by
  refine codeAny_of_tree ?_
  show wpAny _ A.in1 (do checkBuiltinCall "set.__new__" ⟨[.type "set",a],[]⟩;again (.builtin "set.__new__" ⟨[.type "set",a],[]⟩)) _ _ s
  refine wpAny_bind (wpAny_of_eq (F.newCall_set_1 a) (wpAny_pure ⟨plainId_quiet F.plain_set_new _,codeAny_builtin F.entry_set_new ?_⟩));rw [Around.under_plainId F.plain_set_new _]
  unfold Builtin.«set.__new__» Builtin.Frozenset.newClass
  have sb:=sub_set_self
  obtain ⟨hp,g,d,tk,os⟩:=s
  dsimp only
  wp_walk
  refine wpAny_askSetting (wpAny_pure ?_);dsimp only;simp only [newObj]
  exact wpAny_bind (wpAny_alloc (wpAny_pure (wpAny_pure h)))
theorem made {l:Addr}{its:Array Value}{val:Nat->Nat}{Q:Value->Shared->Prop} (hh:A.handled=none) (hl:s.heap.IsList l its) (hval:∀ i v,i<its.size->its[i]?=some v->∃ t,v=.int (val i:Nat) t) (h7:∀ i,i<its.size->val i<7)
    (k:∀ (h':Heap) (tk:Nat),Good h' s.heap.objs.size (bs val its.size) (!w.params.followText "set-order")->(∀ b o,b<s.heap.objs.size->s.heap.get? b=some o->h'.get? b=some o)->Q (.ref s.heap.objs.size) { s with heap:=h',toks:=tk }) :
    wpAny (model prog w) A (call (.type "set") [.ref l]) Q E s:=by
  obtain ⟨c,tl,hmro⟩:=F.called_set.mro
  have hmade:=F.called_set.made
  have hsub:=F.called_set.sub
  refine wpAny_call (codeAny_of_tree ?_);show wpAny _ _ (callAny (.type "set") _) _ _ _
  refine wpAny_pure ⟨Code.quiet_builtin _ (by decide +kernel),codeAny_builtin F.entry_type_call ?_⟩;rw [Around.under_plain (weight_type_call_type "set" [.ref l] []) rfl]
  have h1:=F.called_set.notType
  have h2:=F.called_set.canCreate
  have hct:=F.typeCall_set_1 (.ref l)
  repeat (any_goals (first | assumption | wp_step))
  refine codeAny_mono (code_new (.ref l) (E:=E) (Q:=fun obj s1=>obj=.ref s.heap.objs.size/\s1={ s with heap:=s.heap.push (newS w) }) ⟨rfl,rfl⟩) fun r s1 hr=>?_
  cases r with
  | error e=>exact hr
  | ok fl=>
    cases fl with
    | ret obj=>
      obtain ⟨rfl,rfl⟩:=hr
      have hS:(s.heap.push (newS w)).get? s.heap.objs.size=some (newS w):=Heap.get?_push_size _ rfl
      have hT:Shared.TypeIs { s with heap:=s.heap.push (newS w) } (.ref s.heap.objs.size) "set":=⟨_,hS,rfl⟩
      have hli:=F.called_set.init.lookup
      have hbi:=F.called_set.init.bind (.ref s.heap.objs.size)
      repeat (any_goals (first | assumption | wp_step))
      refine codeAny_mono (codeAny_call_builtin (R:=wants (fun r s2=>r=.none/\∃ h' tk,s2={ s with heap:=h',toks:=tk }/\Good h' s.heap.objs.size (bs val its.size) (!w.params.followText "set-order") /\
          (∀ b o,b<s.heap.objs.size->s.heap.get? b=some o->h'.get? b=some o)) E) F.called_set.init.plain F.entry_set_init (check_set_init_1 hT ?_)) fun r2 s2 hr2=>?_
      · obtain ⟨ol,hol,hcl,nl,hdl⟩:=hl
        obtain ⟨oc,od,odt,osl⟩:=ol
        simp only at hcl hdl
        subst hcl;subst hdl
        have hol':(s.heap.push (newS w)).get? l=some { cls:=.type "list",dict:=od,data:=.seq its nl,slots:=osl }:=Heap.get?_push_of_some _ hol
        have q1:=F.sub_list_set
        have q2:=F.sub_list_frozenset
        have q3:(Value.type "list"==Value.type "dict")=false:=by decide
        have gl:(s.heap.push (newS w)).IsList l its:=⟨_,hol',rfl,nl,rfl⟩
        unfold Builtin.«set.__init__» noKeywords Builtin.Frozenset.updateFrom
        generalize hPI:pyIter=PI
        wp_walk
        subst hPI
        refine wpAny_pyIter_list gl (wpAny_bind (wpAny_runValue ?_))
        have hlS:l<s.heap.objs.size:=Heap.lt_size hol
        have h3:A.in1.in1.in1.handled=none:=by simp [hh]
        have hnI:l≠(s.heap.push (newS w)).objs.size:=by rw [Heap.size_push];exact Nat.ne_of_lt (Nat.lt_succ_of_lt hlS)
        have hSf:s.heap.objs.size ∉ [(s.heap.push (newS w)).objs.size,l]:=by
          rw [Heap.size_push];simp only [List.mem_cons,List.not_mem_nil,or_false,not_or];exact⟨Nat.ne_of_lt (Nat.lt_succ_self _),Nat.ne_of_gt hlS⟩
        refine loop ((Walks.list h3 _ l hnI its).toS) s.heap.objs.size hSf (!w.params.followText "set-order") val hval h7 (its.size - 0) 0 _ (by omega) (Nat.zero_le _) ⟨⟨_,Heap.get?_push_size _ rfl,rfl,rfl⟩,gl.push _⟩ ?s0 ?sR
        case s0=>
          have e1:LB (bs val 0)=[]:=by show LB 0=[];decide +kernel
          refine⟨#[],0,0,?_,by rw [e1];rfl,fun e he=>by simp at he⟩
          unfold setO
          rw [e1]
          exact Heap.get?_push_of_some _ hS
        case sR=>
          intro s' hm g'
          obtain ⟨h',gg,d',tk',os'⟩:=s'
          have eg:gg=s.gens:=hm.gens
          have ed:d'=s.drawn:=hm.drawn
          have eo:os'=s.os:=hm.os
          subst eg;subst ed;subst eo
          show wpAny _ _ _ _ _ _
          refine wpAny_pure ?_;show wpAny _ _ (ret Value.none) _ _ _
          refine wpAny_pure ⟨rfl,h',tk',rfl,g',fun b o hb e=>?_⟩
          have hb1:b≠s.heap.objs.size:=Nat.ne_of_lt hb
          have hb2:b≠(s.heap.push (newS w)).objs.size:=by rw [Heap.size_push];exact Nat.ne_of_lt (Nat.lt_succ_of_lt hb)
          exact hm.heap b o (by simp only [List.mem_cons,List.not_mem_nil,or_false,not_or];exact⟨hb1,hb2⟩) (Heap.get?_push_of_some _ (Heap.get?_push_of_some _ e))
      · cases r2 with
        | error e=>exact hr2
        | ok fl2=>
          cases fl2 with
          | ret r=>
            obtain ⟨rfl,h',tk,rfl,g',hk'⟩:=hr2
            repeat (any_goals (first | assumption | wp_step))
            exact k _ _ g' hk'
          | _=>exact hr2.elim
    | _=>exact hr.elim
end
end ST
end
section
namespace SX
open PySem PySem.Spec PyProof.Rows L2
def tFreeze (t:TE):TE:=fun σ H Q=>t σ H fun v H1=>∃ d u,v=.ref d/\H1 d=some u/\Mut (some u)/\∀ od,Q v (upd H1 d (.frz od u))
theorem pe_freeze {X:Cx}{e:Expr}{t:TE} (h:PE X e t):PE X e (tFreeze t):=by
  intro pins s σ H Q I hw
  refine thn (h pins s σ H _ I hw) fun v s1 ⟨x,H1,I1,r,d,u,ex,hd,mu,q⟩=>?_
  obtain ⟨od,I2⟩:=I1.lock hd mu
  exact⟨x,_,I2,r,q od⟩
theorem for_keys {d:Addr}{o:Obj}{kvs:List (Key × V)}{g:TG}{tb:TS}{D:Ends}{σ:L2.St}{H:Hp} (Pv:Nat->L2.St->Hp->Prop) (h0:Pv 0 σ H) (hl:∀ i σ H,i<=kvs.length->Pv i σ H->H d=some (.frz o (.dK kvs)))
    (hs:∀ i k v σ H,kvs[i]?=some (k,v)->Pv i σ H->g (kV k) σ H fun σ2 H2=>tb { D with nx:=Pv (i+1),ct:=Pv (i+1),bk:=D.nx } σ2 H2) (hd:∀ σ H,Pv kvs.length σ H->D.nx σ H) :
    ∃ W:Nat->Nat->L2.St->Hp->Prop,(∃ m,W 0 m σ H)/\∀ i m σ H,W i m σ H ->
      ((Itk d o kvs).stop i H/\D.nx σ H) \/ ((Itk d o kvs).go i H/\∃ N:L2.St->Hp->Prop,(∀ σ' H',N σ' H'->∃ m',m'<m/\W (i+1) m' σ' H')/\∀ x H',(Itk d o kvs).yld i H x H'->g x σ H' fun σ2 H2=>tb { D with nx:=N,ct:=N,bk:=D.nx } σ2 H2):=by
  refine⟨fun i m σ H=>m=kvs.length - i/\i<=kvs.length/\Pv i σ H,⟨kvs.length,by simp,Nat.zero_le _,h0⟩,?_⟩
  rintro i m σ H ⟨rfl,hi,p⟩
  have q:=hl i σ H hi p
  by_cases hlt:i<kvs.length
  · refine .inr ⟨⟨q,hlt⟩,Pv (i+1),fun σ' H' p'=>⟨kvs.length - (i+1),by omega,rfl,hlt,p'⟩,?_⟩
    rintro x H' ⟨rfl,k,v,hk,rfl⟩
    exact hs i k v σ _ hk p
  · have e:i=kvs.length:=by omega
    subst e
    exact .inl ⟨⟨q,Nat.le_refl _⟩,hd σ H p⟩
theorem for_zip {K:PySem.W.Frag}{a b:Addr}{xs ys:List V}{g:TG}{tb:TS}{D:Ends}{σ:L2.St}{H:Hp} (Pv:Nat->L2.St->Hp->Prop) (h0:Pv 0 σ H) (hl:∀ i σ H,Pv i σ H->SqL K H a xs/\SqL K H b ys)
    (hs:∀ i x y T σ H,xs[i]?=some x->ys[i]?=some y->Pv i σ H->H T=none->g (.ref T) σ (upd H T (.tup [x,y])) fun σ2 H2=>tb { D with nx:=Pv (i+1),ct:=Pv (i+1),bk:=D.nx } σ2 H2)
    (hd:∀ i σ H,(xs.length<=i \/ ys.length<=i)->i<=xs.length->i<=ys.length->Pv i σ H->D.nx σ H) :
    ∃ W:Nat->Nat->L2.St->Hp->Prop,(∃ m,W 0 m σ H)/\∀ i m σ H,W i m σ H ->
      ((Itz K a b).stop i H/\D.nx σ H) \/ ((Itz K a b).go i H/\∃ N:L2.St->Hp->Prop,(∀ σ' H',N σ' H'->∃ m',m'<m/\W (i+1) m' σ' H')/\∀ x H',(Itz K a b).yld i H x H'->g x σ H' fun σ2 H2=>tb { D with nx:=N,ct:=N,bk:=D.nx } σ2 H2):=by
  refine⟨fun i m σ H=>m=xs.length - i/\i<=xs.length/\i<=ys.length/\Pv i σ H,⟨xs.length,by simp,Nat.zero_le _,Nat.zero_le _,h0⟩,?_⟩
  rintro i m σ H ⟨rfl,hi,hj,p⟩
  obtain ⟨q1,q2⟩:=hl i σ H p
  by_cases hlt:i<xs.length/\i<ys.length
  · obtain ⟨l1,l2⟩:=hlt
    refine .inr ⟨⟨xs,ys,xs[i],ys[i],q1,q2,by simp [l1],by simp [l2]⟩,Pv (i+1),fun σ' H' p'=>⟨xs.length - (i+1),by omega,rfl,l1,l2,p'⟩,?_⟩
    rintro v H' ⟨T,x,y,rfl,hT,rfl,e1,e2⟩
    exact hs i x y T σ H (e1 xs q1) (e2 ys q2) p hT
  · have e:xs.length<=i \/ ys.length<=i:=by omega
    exact .inl ⟨⟨xs,ys,q1,q2,e⟩,hd i σ H e hi hj p⟩
section
variable {X:Cx}
theorem vals_get:∀ {xs:List V}{us:List Value},xs.length=us.length->(∀ (j:Nat) (x:V) (u:Value),xs[j]?=some x->us[j]?=some u->RelV x u)->Vals xs us
  | [],[],_,_=>.nil
  | x::xs,u::us,hl,h=>.cons (h 0 x u rfl rfl) (vals_get (by simpa using hl) fun j y v h1 h2=>h (j+1) y v (by simpa using h1) (by simpa using h2))
  | [],_::_,hl,_=>by simp at hl
  | _::_,[],hl,_=>by simp at hl
theorem call_list_keys (hh:X.A.handled=none):CallR X (.type "list") (fun xs H Q=>∃ (d:Addr) (kvs:List (Key × V)),xs=[.ref d]/\H d=some (.dK kvs)/\∀ l,H l=none->Q (.ref l) (upd H l (.lst (kvs.map fun kv=>kV kv.1)))):=by
  intro pins s σ H xs us Q I r h
  obtain ⟨d,kvs,rfl,hd,q⟩:=h
  obtain ⟨u,rfl,rx⟩:=vals1 r
  cases rx
  obtain ⟨z,lo,vs,kv,dd⟩:=dk_of I.hok hd
  obtain ⟨ep,hat⟩:=dd.dictAt
  have hl:kvs.length=vs.length:=Paired.length kv
  refine PySem.W.kdl_call (PySem.W.kdl_dict (knd:=mixKind X.prog X.w) (kvs:=vs) (ep:=ep) lo) hh hat (by omega) fun h' tk acc c' hk hS hacc=>?_
  refine⟨.ref s.heap.objs.size,_,I.laid (t':=tk) (o:=.lst (kvs.map fun kv=>kV kv.1)) hk (Nat.le_refl _) ⟨by rw [List.length_map];exact z,acc.toList,c',?_,by simpa using hS⟩,rfl,q _ (I.hok.fresh (Nat.le_refl _))⟩
  refine vals_get (by rw [List.length_map,hl,<- hacc.1];exact (Array.length_toList).symm) fun j x v h1 h2=>?_
  obtain ⟨k,y,h3,h4⟩:=hacc.2 j v (by rw [<- Array.getElem?_toList];exact h2)
  rw [List.getElem?_map] at h1
  cases e:kvs[j]? with
  | none=>rw [e] at h1;cases h1
  | some p=>
    rw [e] at h1
    obtain ⟨k',v'⟩:=p
    obtain ⟨u,h5,_⟩:=kv_get kv e
    rw [h3] at h5
    cases h5
    cases h1
    exact relV_key (show keyIs k v=true from h4)
def rInL (K:PySem.W.Frag):R2:=fun x y H Q=>∃ (a p:Addr) (ns:List Int) (ps:List Addr) (nss:List (List Int)),x=.ref a/\y=.ref p/\SqL K H a (ns.map V.int)/\SqL K H p (ps.map V.ref)/\Paired (fun b ms=>SqL K H b (ms.map V.int)) ps nss/\Q (.bl (nss.contains ns)) H
theorem ints_inj:∀ {a b:List Int},a.map V.int=b.map V.int->a=b
  | [],[],_=>rfl
  | x::a,y::b,h=>by
    rw [List.map_cons,List.map_cons] at h
    injection h with h1 h2
    injection h1 with h1
    rw [h1,ints_inj h2]
  | [],_::_,h=>by simp at h
  | _::_,[],h=>by simp at h
open Classical in
theorem op_inL (hu:X.A.in1.units+64<cLine):OpR X (compareOp .In) (rInL X.K):=by
  intro pins s σ H x y v u Q I rx ry h
  obtain ⟨a,p,ns,ps,nss,rfl,rfl,ha,hp,hps,q⟩:=h
  cases rx
  cases ry
  obtain ⟨ia,ra,pa,_⟩:=I.list ha
  obtain ⟨ip,rp,pp,_⟩:=I.list hp
  let e:Value->Bool:=fun w=>decide (∃ b:Addr,w=.ref b/\SqL X.K H b (ns.map V.int))
  have he:∀ {b:Addr}{ms:List Int},SqL X.K H b (ms.map V.int)->e (.ref b)=decide (ms=ns):=fun {b ms} hb=>by
    rw [decide_eq_decide]
    constructor
    · rintro ⟨b',eb,hb'⟩
      cases eb
      exact ints_inj (I.list_inj hb hb')
    · intro z
      subst z
      exact⟨b,rfl,hb⟩
  have hany:∀ {ps:List Addr}{nss:List (List Int)}{us:List Value},Vals (ps.map V.ref) us->Paired (fun b ms=>SqL X.K H b (ms.map V.int)) ps nss->us.any e=nss.contains ns/\∀ w∈us,∃ (b:Addr) (ms:List Int),w=.ref b/\SqL X.K H b (ms.map V.int):=fun {ps nss us} r hq=>by
    induction hq generalizing us with
    | nil=>rw [List.map_nil] at r;cases r;exact⟨rfl,fun w hw=>by cases hw⟩
    | @cons b ms ps nss hb t ih=>
      rw [List.map_cons] at r
      cases r with
      | cons r1 r2=>
        cases r1
        obtain ⟨i1,i2⟩:=ih r2
        refine⟨?_,fun w hw=>?_⟩
        · rw [List.any_cons,List.contains_cons,i1,he hb]
          congr 1
          by_cases z:ms=ns
          · simp [z]
          · have z':¬ ns=ms:=fun q=>z q.symm
            simp [z,z']
        · rcases List.mem_cons.mp hw with z | z
          · exact⟨b,ms,z,hb⟩
          · exact i2 w z
  obtain ⟨j1,j2⟩:=hany rp hps
  refine SeqAt.in_listAt e pp.isList (fun w hw=>?_) ⟨.bl _,H,I,rfl,?_⟩
  · obtain ⟨b,ms,rfl,hb⟩:=j2 w (by simpa using hw)
    obtain ⟨ib,rb,pb,_⟩:=I.list hb
    rw [he hb]
    exact PySem.W.keq_ints pb.isList (intsAre_of rb) pa.isList (intsAre_of ra) hu
  · rw [show ip.toArray.any e=ip.any e by simp,j1]
    exact q
theorem inK_L {K:PySem.W.Frag} (hK:X.K=K) (hu:X.A.in1.units+64<cLine):OpR X (compareOp .In) (rInL K):=by
  subst hK
  exact op_inL hu
def DTop (P:Program) (w:World) (K:PySem.W.Frag) (a:Addr) (kvs:List (Key × V)):Prop:=∀ h:Heap,K.In h->∃ vs,KV kvs vs/\h.DictOf (mixKind P w) a vs
def tDTop (P:Program) (w:World) (K:PySem.W.Frag) (td ty:TE):TE:=fun σ H Q=>td σ H fun x H1=>ty σ H1 fun y H2=>∃ a kvs k v,x=.ref a/\DTop P w K a kvs/\y=kV k/\valV kvs k=some v/\Q v H2
theorem pe_dtop {o i:Expr}{pos:Pos}{td ty:TE} (ho:PE X o td) (hi:PE X i ty) (hs:NoSl i):PE X (.Subscript o i pos) (tDTop X.prog X.w X.K td ty):=by
  intro pins s σ H Q I h
  refine subD_of PySem.F.slot_dict_getitem.lookup hs (thn (ho pins s σ H _ I h) fun u s1 ⟨x,H1,I1,rx,q1⟩=>thn (hi pins s1 σ H1 _ I1 q1) fun iv s2 ⟨y,H2,I2,ry,a,kvs,k,v,ex,g,ey,hv,q2⟩=>?_)
  subst ex ey
  obtain rfl:u=Value.ref a:=rx
  obtain ⟨vs,rel,dd⟩:=g s2.heap I2.kIn
  obtain ⟨w',hw,rw'⟩:=RelO.some_of (v:=v) (o:=valueAt vs k) (by rw [<- hv];exact rel.val k)
  exact⟨dd.typeIs,wpAny_getItem_of (kV_is ry) dd.mapOf hw ⟨v,H2,I2.tok _,rw',q2⟩⟩
abbrev gd (w:World) (l:Addr) (b:Nat):HO:=.ext fun h=>ST.Good h l b (!w.params.followText "set-order")
theorem call_set_small (hh:X.A.handled=none):CallR X (.type "set") (fun xs H Q=>∃ (p:Addr) (ns:List Nat),xs=[.ref p]/\SqL X.K H p (ns.map fun (n:Nat)=>V.int n)/\(∀ n∈ns,n<7) /\
    ∀ l b,H l=none->b<128->(∀ u,u<7->(u∈ST.LB b↔u∈ns))->Q (.ref l) (upd H l (gd X.w l b))):=by
  intro pins s σ H xs us Q I r h
  obtain ⟨p,ns,rfl,hq,h7,q⟩:=h
  obtain ⟨u,rfl,rx⟩:=vals1 r
  cases rx
  obtain ⟨its,r',pl,hz⟩:=I.list hq
  have hl:=r'.length
  rw [List.length_map] at hl
  have hsz:its.toArray.size=ns.length:=by rw [List.size_toArray,hl]
  have v7:∀ i,i<its.toArray.size->ns.getD i 0<7:=fun i hi=>by
    rw [hsz] at hi
    rw [List.getD_eq_getElem?_getD,List.getElem?_eq_getElem hi]
    exact h7 _ (List.getElem_mem hi)
  refine ST.made (its:=its.toArray) (val:=fun i=>ns.getD i 0) hh pl.isList (fun i v hi hv=>?_) v7 fun h' tk g hk=>?_
  · rw [hsz] at hi
    obtain ⟨w',hw,rw'⟩:=r'.get (i:=i) (x:=.int (ns[i]:Nat)) (by rw [List.getElem?_map,List.getElem?_eq_getElem hi];rfl)
    rw [List.getElem?_toArray,hw] at hv
    cases hv
    obtain ⟨t,e⟩:=rw'
    refine⟨t,?_⟩
    rw [e,List.getD_eq_getElem?_getD,List.getElem?_eq_getElem hi]
    rfl
  · refine⟨.ref s.heap.objs.size,_,I.laid (t':=tk) (o:=gd X.w s.heap.objs.size (ST.bs (fun i=>ns.getD i 0) its.toArray.size)) (fun b u e=>hk b u (Heap.lt_size e) e) (Nat.le_refl _) ⟨g,?_,fun h1 h2 g1 ke=>g1.at ke⟩,rfl,q _ _ (I.hok.fresh (Nat.le_refl _)) (ST.bs_lt v7 _ (Nat.le_refl _)) fun u hu=>?_⟩
    · obtain ⟨es,ep,mv,ho,_⟩:=g
      exact⟨_,ho⟩
    · rw [ST.bs_mem v7 hu _ (Nat.le_refl _),hsz]
      constructor
      · rintro ⟨j,h1,h2⟩
        rw [<- h2,List.getD_eq_getElem?_getD,List.getElem?_eq_getElem h1]
        exact List.getElem_mem h1
      · intro hm
        obtain ⟨j,hj,e⟩:=List.getElem_of_mem hm
        exact⟨j,hj,by show ns.getD j 0=u;rw [List.getD_eq_getElem?_getD,List.getElem?_eq_getElem hj];exact e⟩
theorem hint_set {prog:Program}{w:World}{A:Around}{E:Value->Shared->Prop}{s:Shared}{r:Addr}{Q:Bool->Shared->Prop} (hT:s.TypeIs (.ref r) "set") (h:Q false s):wpAny (model prog w) A (Builtin.List.listLengthHint (.ref r)) Q E s:=by
  unfold Builtin.List.listLengthHint
  refine wpAny_bind (wpAny_specialOf hT PySem.F.slot_set_len.lookup ?_)
  generalize hid:("set.__len__":String)=id0
  wp_delta
  rw [show splitId id0=some ("set","__len__") from by subst hid;decide +kernel]
  subst hid
  refine wpAny_bind (wpAny_isInstance (T:="set") (b:=true) hT (by rw [isSubtype_type];kernel_rfl) ?_)
  refine wpAny_ite_split (fun hab=>absurd hab (by decide)) (fun _=>?_);refine wpAny_ite_split (fun _=>?_) (fun hab=>absurd (by decide +kernel) hab)
  exact wpAny_bind (wpAny_typeOf hT (wpAny_pure h))
theorem src_set {prog:Program}{w:World}{a:Addr}{es:Array (Int × Value)}{ep b mv:Nat} (hb:b<128) (he:ST.Has es b) :
    PySem.W.KdlSrc prog w "set" a a es.size (fun i v=>∃ e,(ST.ordOf w a ep es)[i]?=some e/\v=e.2) (fun h=>h.get? a=some (ST.setO es ep b (!w.params.followText "set-order") mv)) where
  type:=fun _ ho=>⟨_,ho,rfl⟩
  there:=fun _ ho=>⟨Heap.lt_size ho,Heap.lt_size ho⟩
  keep:=fun _ _ ho hk=>hk a (.inl rfl) _ ho
  notList:=by decide
  notTuple:=by decide
  hint:=fun _ _ _ _ ho hq=>hint_set ⟨_,ho,rfl⟩ hq
  iter:=fun A s hh ho=>by
    have hlen:(ST.ordOf w a ep es).size=es.size:=by rw [<- Array.length_toList,(ST.ord_perm w a ep es).length_eq,Array.length_toList]
    refine⟨ST.itO (ST.slW w b 0) 0 a es.size ep,fun i h=>h.get? s.heap.objs.size=some (ST.itO (ST.slW w b i) i a es.size ep)/\h.get? a=some (ST.setO es ep b (!w.params.followText "set-order") mv),fun E Q hq=>ST.iter hb he ho hq,?_,Heap.get?_push_size _ rfl,Heap.get?_push_of_some _ ho⟩
    have hne:a≠s.heap.objs.size:=Nat.ne_of_lt (Heap.lt_size ho)
    refine⟨fun c hc=>?_,fun i h h' st hk=>⟨hk _ (by simp) _ st.1,hk a (by simp) _ st.2⟩,fun i s' Q E hi st hQ=>?_,fun s' Q E st hQ=>?_,fun i s' Q E st hQ=>ST.self st.1 hQ⟩
    · rw [List.mem_singleton.mp hc]
      exact List.mem_cons_self
    · obtain ⟨e,hx⟩:∃ e,(ST.ordOf w a ep es)[i]?=some e:=⟨_,Array.getElem?_eq_getElem (by rw [hlen];exact hi)⟩
      refine ST.item hb he st.2 st.1 hx fun h' g1 sb=>?_
      exact hQ e.2 h' s'.toks ⟨e,hx,rfl⟩ ⟨g1,sb.extBut _ _ hne st.2⟩ fun c o hc ee=>sb.extBut c o (fun z=>hc (by simp [z])) ee
    · exact ST.done hh hb he st.2 st.1 fun h' eb=>hQ h' s'.toks fun c o hc ee=>eb c o (fun z=>hc (by simp [z])) ee
theorem sorted_one:∀ {a b:List Int},a.Perm b->a.Pairwise (·<=·)->b.Pairwise (·<=·)->a=b
  | [],b,p,_,_=>(List.nil_perm.mp p).symm
  | x::a,[],p,_,_=>absurd p.symm.nil_eq (by simp)
  | x::a,y::b,p,h1,h2=>by
    obtain ⟨p1,q1⟩:=List.pairwise_cons.mp h1
    obtain ⟨p2,q2⟩:=List.pairwise_cons.mp h2
    have e:x=y:=by
      have m1:x∈y::b:=p.mem_iff.mp List.mem_cons_self
      have m2:y∈x::a:=p.mem_iff.mpr List.mem_cons_self
      rcases List.mem_cons.mp m1 with z | z
      · exact z
      · rcases List.mem_cons.mp m2 with z2 | z2
        · exact z2.symm
        · exact Int.le_antisymm (p1 y z2) (p2 x z)
    subst e
    rw [sorted_one ((List.perm_cons x).mp p) q1 q2]
theorem call_sorted_small (hh:X.A.handled=none):CallR X (.builtin "sorted") (fun xs H Q=>∃ (p:Addr) (b:Nat),xs=[.ref p]/\b<128/\H p=some (gd X.w p b)/\∀ q,H q=none->Q (.ref q) (upd H q (.lst ((ST.LB b).map fun (n:Nat)=>V.int n)))):=by
  intro pins s σ H xs us Q I r h
  obtain ⟨p,b,rfl,hb,hp,q⟩:=h
  obtain ⟨u,rfl,rx⟩:=vals1 r
  cases rx
  obtain ⟨⟨es,ep,mv,ho,he⟩,_,_⟩:=I.hok p _ hp
  have hn7:es.size<=7:=by rw [he.size];exact ST.len_le b hb
  have hn:es.size<=sizeLine:=ST.small_fits hn7
  refine Calls.call_function_entry kind_sorted plain_sorted entry_sorted (args_sorted1 _) ?_
  unfold Builtin.«sorted»
  refine wpAny_bind (m:=checkCount "sorted" 1 1 _) (wpAny_pure ?_)
  refine wpAny_bind (PySem.W.kdu_collect (A:=X.A.in1) (src_set (w:=X.w) (a:=p) (ep:=ep) (mv:=mv) hb he) hh ho hn fun h' tk acc hk hacc=>?_)
  have hl:acc.toList.length=es.size:=by rw [Array.length_toList];exact hacc.1
  refine wpAny_bind (wpAny_newList ?_ (by rw [hl];exact hn))
  obtain ⟨ns,hns,hperm⟩:∃ ns:List Int,IntsAre acc.toList ns/\ns.Perm ((ST.LB b).map fun (n:Nat)=>(n:Int)):=by
    have hlen:(ST.ordOf X.w p ep es).toList.length=es.size:=by rw [(ST.ord_perm X.w p ep es).length_eq,Array.length_toList]
    refine⟨(ST.ordOf X.w p ep es).toList.map (·.1),intsAre_of (vals_get (by rw [List.length_map,List.length_map,hl,hlen]) fun j x v h1 h2=>?_),?_⟩
    · obtain ⟨e,h3,rfl⟩:=hacc.2 j v (by rw [<- Array.getElem?_toList];exact h2)
      rw [List.getElem?_map,List.getElem?_map,Array.getElem?_toList,h3] at h1
      cases h1
      have hm:e∈es.toList:=(ST.ord_perm X.w p ep es).mem_iff.mp (by rw [Array.mem_toList_iff];exact Array.mem_of_getElem? h3)
      obtain ⟨t,ht⟩:=he.2 e hm
      exact⟨t,ht⟩
    · have:=(ST.ord_perm X.w p ep es).map (·.1)
      rw [he.1] at this
      exact this
  have hlt:ns.length=es.size:=by have:=hns.length;omega
  have hob:(h'.push { cls:=.type "list",data:=.seq acc.toList.toArray }).get? h'.objs.size=some { cls:=.type "list",data:=.seq acc.toList.toArray }:=Heap.get?_push_size _ rfl
  refine wpAny_bind (wpAny_holding (wpAny_call_entry PyProof.Rows.slot_list_sort ⟨_,hob,rfl⟩ PyProof.Rows.entry_list_sort (PyProof.Rows.list_sort_tree hob hns (by omega) fun out ns' h1 h2 h3=>⟨.none,rfl,?_⟩) (PyProof.Rows.args_list_sort _)))
  obtain ⟨ep',he'⟩:=PyProof.Rows.sortedHeap_at (vs:=acc.toList) (out:=out) hob
  have e1:ns'=(ST.LB b).map fun (n:Nat)=>(n:Int):=by
    refine sorted_one (h2.trans hperm) h3 ?_
    exact List.pairwise_map.mpr ((ST.rising b).imp fun z=>by omega)
  subst e1
  have I1:Inv X pins σ H { s with heap:=h',toks:=tk }:=I.kept hk
  have hlen':(((ST.LB b).map fun (n:Nat)=>(n:Int)).map V.int).length<=sizeLine:=by rw [List.length_map,List.length_map];exact ST.small_fits (ST.len_le b hb)
  refine wpAny_pure ⟨_,rfl,.ref h'.objs.size,_,I1.laid (t':=tk) (o:=.lst (((ST.LB b).map fun (n:Nat)=>(n:Int)).map V.int)) (fun c u hu=>?_) (Nat.le_refl _) ⟨hlen',out.toList,ep',vals_of_ints h1,he'⟩,rfl,?_⟩
  · have hc:c<h'.objs.size:=Heap.lt_size hu
    rw [PyProof.Rows.sortedHeap_old (Nat.ne_of_lt hc) (by rw [Heap.size_push];exact Nat.lt_succ_of_lt hc)]
    exact Heap.get?_push_of_some _ hu
  · have:=q h'.objs.size (I1.hok.fresh (Nat.le_refl _))
    rw [List.map_map]
    exact this
end
section
def Itzs (K:PySem.W.Frag) (x:Str) (b:Addr):It:=
  ⟨fun i H=>∃ (c:Nat) (ys:List V) (y:V),x.cps[i]?=some c/\SqL K H b ys/\ys[i]?=some y,
    fun i H v H'=>∃ T c y,v=.ref T/\H T=none/\H'=upd H T (.tup [.str ⟨#[c]⟩,y])/\x.cps[i]?=some c/\∀ ys,SqL K H b ys->ys[i]?=some y,
    fun i H=>∃ ys:List V,SqL K H b ys/\(x.cps.size<=i \/ ys.length<=i)⟩
theorem turn_zs {P:Program}{w:World}{K:PySem.W.Frag}{elts:List Expr}{kk:Nat}{tpos:Pos}{x:Str}{t:Tok}{b z TI TO i1 i2:Addr} (D:ZS.Ap z TI TO i1 i2 b) :
    Turn P w K (.Tuple elts kk tpos) (Itzs K x b) [z,TI,TO,i1,i2] z (fun i h=>IsZip h z TI TO .none/\IsPair h TI (.ref i1) (.ref i2)/\(∃ p q,IsPair h TO p q)/\ZS.SI h i1 x t i/\h.IsListIter i2 b i) where
  mem:=by simp
  obj:=fun i h st c hc=>by
    obtain ⟨hz,hTI,⟨p,q,hTO⟩,⟨o1,e1,_,d1⟩,⟨o2,e2,_,d2⟩⟩:=st
    have e':c=z \/ c=TI \/ c=TO \/ c=i1 \/ c=i2:=by simpa using hc
    rcases e' with rfl | rfl | rfl | rfl | rfl
    · exact⟨_,hz,fun v q=>nomatch q⟩
    · exact⟨_,hTI,fun v q=>nomatch q⟩
    · exact⟨_,hTO,fun v q=>nomatch q⟩
    · exact⟨o1,e1,fun v q=>by rw [d1] at q;cases q⟩
    · exact⟨o2,e2,fun v q=>by rw [d2] at q;cases q⟩
  keep:=fun i h h' st k=>by
    obtain ⟨hz,hTI,⟨p,q,hTO⟩,⟨o1,e1,r1⟩,h2⟩:=st
    exact⟨k z (by simp) _ hz,k TI (by simp) _ hTI,⟨p,q,k TO (by simp) _ hTO⟩,⟨o1,k i1 (by simp) _ e1,r1⟩,h2.at fun o q=>k i2 (by simp) o q⟩
  item:=by
    intro X hP hw hK hc i pins s σ H E I hf st hg
    subst hP hw hK
    obtain ⟨hz,hTI,⟨p0,q0,hTO⟩,h1,h2⟩:=st
    obtain ⟨c,ys,y,hx,hqy,hy⟩:=hg
    obtain ⟨its,rv,p2,_⟩:=I.list hqy
    obtain ⟨u,hu,ru⟩:=rv.get hy
    have hzl:z<s.heap.objs.size:=Heap.lt_size hz
    refine ZS.next D hz hTI hTO h1 h2 p2.isList (c:=c) (y:=u) hx (by simpa using hu) fun h' z' TO' h1' h2' hT hsz hk=>?_
    refine⟨_,rfl,wpAny_letOwnedTupleGo_zip (s:={ s with heap:=h',toks:=s.toks+1 }) z' fun h'' z'' sb=>?_⟩
    have hT2:h''.get? s.heap.objs.size=some { cls:=.type "tuple",data:=.seq #[.str ⟨#[c]⟩ s.toks,u] }:=(sb.2 _ (Nat.ne_of_gt hzl)).trans hT
    have new:ObjOk X.prog X.w (upd H s.heap.objs.size (.tup [.str ⟨#[c]⟩,y])) h'' s.heap.objs.size (.tup [.str ⟨#[c]⟩,y]):=
      ⟨by show 2<=sizeLine;decide,[.str ⟨#[c]⟩ s.toks,u],.cons ⟨_,rfl⟩ (.cons ru .nil),⟨_,hT2,rfl,_,rfl⟩⟩
    have I1:Inv X pins σ (upd H s.heap.objs.size (.tup [.str ⟨#[c]⟩,y])) { s with heap:=h'',toks:=s.toks+1 }:=
      I.turnedNew (t':=s.toks+1) (ch:=[z,TI,TO,i1,i2]) (fun d o hb q=>(sb.2 d (fun q'=>hb (by simp [q']))).trans (hk d o (fun q'=>hb (by simp [q'])) (fun q'=>hb (by simp [q'])) (fun q'=>hb (by simp [q'])) (fun q'=>hb (by simp [q'])) q)) hf (Nat.le_refl _) new
    obtain ⟨pa,pb,TO'⟩:=TO'
    refine⟨.ref s.heap.objs.size,_,I1,rfl,⟨_,c,y,rfl,I.hok.fresh (Nat.le_refl _),rfl,hx,fun l hl=>by rw [I.list_inj hl hqy];exact hy⟩,⟨z'',?_,⟨pa,pb,?_⟩,?_,?_⟩,fun d hdm=>?_⟩
    · exact (sb.2 _ D.a1).trans (hk _ _ D.a1 D.a5 D.a6 D.a7 hTI)
    · exact (sb.2 _ D.a2).trans TO'
    · exact ZS.si_but h1' sb D.a3
    · exact h2'.at fun o q=>(sb.2 _ D.a4).trans q
    · have hlt:d<s.heap.objs.size:=by
        have e':d=z \/ d=TI \/ d=TO \/ d=i1 \/ d=i2:=by simpa using hdm
        rcases e' with rfl | rfl | rfl | rfl | rfl
        · exact hzl
        · exact Heap.lt_size hTI
        · exact Heap.lt_size hTO
        · obtain ⟨_,e1,_⟩:=h1;exact Heap.lt_size e1
        · obtain ⟨_,e2,_⟩:=h2;exact Heap.lt_size e2
      rw [upd_ne (Nat.ne_of_lt hlt)]
      exact (hf d hdm).1
  done:=by
    intro X hP hw hK hc i pins s σ H E I hf st hg
    subst hP hw hK
    obtain ⟨hz,hTI,⟨p0,q0,hTO⟩,h1,h2⟩:=st
    obtain ⟨ys,hqy,hend⟩:=hg
    obtain ⟨its,rv,p2,_⟩:=I.list hqy
    have l2:=rv.length
    have he:x.cps[i]?=none \/ its.toArray[i]?=none:=by
      rcases hend with q | q
      · exact .inl (Array.getElem?_eq_none q)
      · exact .inr (by simp;omega)
    exact ZS.stop (I.ok.hd hc) D hz hTI hTO h1 h2 p2.isList he fun h' tk hk=>⟨rfl,I.turnedL (t':=tk) (ch:=[z,TI,TO,i1,i2]) (fun d o hb q=>
      hk d o (fun q'=>hb (by simp [q'])) (fun q'=>hb (by simp [q'])) (fun q'=>hb (by simp [q'])) (fun q'=>hb (by simp [q'])) q) hf⟩
  self:=fun A i s Q E st h=>wpAny_pyIter_zip st.1 h
theorem apart (n b:Nat) (h:b<n):ZS.Ap (n+4) (n+2) (n+3) n (n+1) b:=⟨show ((n+2:Nat)≠(n+4:Nat)) by omega,show ((n+3:Nat)≠(n+4:Nat)) by omega,show ((n:Nat)≠(n+4:Nat)) by omega,show ((n+1:Nat)≠(n+4:Nat)) by omega,show ((n+2:Nat)≠(n+3:Nat)) by omega,show ((n+2:Nat)≠(n:Nat)) by omega,show ((n+2:Nat)≠(n+1:Nat)) by omega,show ((n+3:Nat)≠(n:Nat)) by omega,show ((n+3:Nat)≠(n+1:Nat)) by omega,show ((n:Nat)≠(n+1:Nat)) by omega,show ((b:Nat)≠(n+4:Nat)) by omega,show ((b:Nat)≠(n+3:Nat)) by omega,show ((b:Nat)≠(n:Nat)) by omega,show ((b:Nat)≠(n+1:Nat)) by omega⟩
theorem among (n c:Nat) (h:c=n+4 \/ c=n+2 \/ c=n+3 \/ c=n \/ c=n+1):n<=c:=by omega
def iZs (K:PySem.W.Frag) (ta:TA):TI:=fun σ H R=>ta σ H fun vs H1=>∃ x b ys,vs=[.str x,.ref b]/\x.cps.all (·<128)=true/\SqL K H1 b ys/\R (Itzs K x b) H1
theorem pi_zs {X:Cx}{e e2:Expr}{ta:TA}{p pos tpos:Pos}{elts:List Expr}{kk:Nat} (hg:Gl X "zip") (hm:X.mg "zip"=none) (ha:PA X [e,e2] ta)
    (hs:starEach [e,e2] X.env=(false,eval e X.env)::starEach [e2] X.env:=by rfl) (hpl:(backTo pos (starEach [e2] X.env)).any (·.1)=false:=by rfl) :
    PI X (.Tuple elts kk tpos) (.Call (.Name "zip" p) [e,e2] [] pos) (iZs X.K ta):=by
  intro pins s σ H R I h
  refine Call_ (ld_blt I hg hm boot_zip5 (PyProof.Rows.callWith_type1 (thn (ha pos pins s σ H _ I h) fun us s1 ⟨vs,H1,I1,r1,q1⟩=>?_) hs hpl))
  obtain ⟨x,b,ys,ex,hax,hqy,q⟩:=q1
  subst ex
  obtain ⟨u1,u2,rfl,r2,r3⟩:=vals2 r1
  obtain ⟨t,rfl⟩:=r2
  cases r3
  obtain ⟨its,rv,p2,_⟩:=I1.list hqy
  have lb:b<s1.heap.objs.size:=p2.lt
  refine ZS.made hax p2.isList fun h' hz hTI hTO h1 h2 hk=>wpAny_pyIter_zip hz ?_
  have I2:Inv X pins σ H1 { s1 with heap:=h' }:=I1.kept (t':=s1.toks) hk
  refine⟨s1.heap.objs.size+4,[s1.heap.objs.size+4,s1.heap.objs.size+2,s1.heap.objs.size+3,s1.heap.objs.size,s1.heap.objs.size+1],_,_,H1,rfl,I2,turn_zs (t:=t) (apart s1.heap.objs.size b lb),⟨hz,hTI,⟨_,_,hTO⟩,h1,h2⟩,fun c hcm=>?_,q⟩
  have hle:s1.heap.objs.size<=c:=among _ _ (by simpa using hcm)
  exact I1.fpOk hle (I1.hok.fresh hle)
end
end SX
end
section
namespace Sp
open PySem PySem.Spec PyProof.Rows L2
def top (i:Nat):Stmt:=PySem.Challenge.pw_signplant_s01_answers.main.body.getD i (.Pass ⟨0,0,0,0⟩)
structure DefAt (K:PySem.W.Frag) (mg:Str->Option Value) (x:Str) (st:Stmt):Prop where
  ex:∃ (f:Addr) (fd:FuncData),Fun K x x st f fd/\mg x=some (.ref f)
structure OkF (P:Program) (w:World) (K:PySem.W.Frag) (mg:Str->Option Value) (base:Heap) (k:Nat) (x:Str) (ps:List Str) (sp:Sp):Prop where
  ex:∃ (f:Addr) (fd:FuncData),mg x=some (.ref f)/\PySem.W.keepIn K (.ref f)=true/\Binds K fd ps []/\FnOk P w K mg base CX0 k f fd ps sp
structure IntC (mg:Str->Option Value) (x:Str) (i:Int):Prop where
  ex:∃ t,mg x=some (.int i t)
section
variable {P:Program}{w:World}{K:PySem.W.Frag}{mg:Str->Option Value}{base:Heap}
theorem DefAt.ok {x:Str}{st:Stmt}{N ps:List Str}{k:Nat}{sp:Sp} (D:DefAt K mg x st) (S:FnScope N ps (defScope st))
    (hb:∀ (kV doc pm:Value) (an:Option Addr) (cdv ct:Value) (us:List Value),us.length=ps.length->bindArgs (PySem.W.fnOf x x (defArgs st) (defBody st) (defScope st) .none kV doc pm an cdv ct) ⟨us,[]⟩=pure (ps.zip us))
    (len:∀ vs H Q E,sp vs H Q E->vs.length=ps.length)
    (hbody:∀ (f:Addr) (cdv:Value) (A:Around) (outer:List Env) (s:Shared) (H:Hp) (vs:List V) (Q:VK) (E:XK),Room k (A.deeper (envOfC x (defScope st) s.heap.objs.size f cdv))->sp vs H Q E ->
      ∃ t,PSs (cxOf CX0 P w K mg base N x (defScope st) f cdv A outer s H E).nox (defBody st) t/\t { nx:=fun _ H'=>Q .non H',rt:=Q } (start N vs) H):OkF P w K mg base (k+1) x ps sp:=by
  obtain ⟨f,fd,F,hm⟩:=D.ex
  exact⟨f,fd,hm,F.kp,F.binds hb,F.ok S len fun cdv A outer s H vs Q E hr h=>hbody f cdv A outer s H vs Q E hr h⟩
end
section
variable {X:Cx}{k:Nat}{x:Str}{ps:List Str}{sp:Sp}{p pos:Pos}{e:Expr}{es:List Expr}{t:TA}
theorem pe_fn (F:OkF X.prog X.w X.K X.mg X.base k x ps sp) (hr:Room k X.A) (hg:Gl X x) (ha:PA X (e::es) t) (hdb:(x==("__debug__":Str))=false:=by decide)
    (he:starEach (e::es) X.env=(false,eval e X.env)::starEach es X.env:=by rfl) (hpl:(backTo pos (starEach es X.env)).any (·.1)=false:=by rfl) :
    PE X (.Call (.Name x p) (e::es) [] pos) (tCall sp [] E0 t):=by
  obtain ⟨f,fd,hm,hk,hb,G⟩:=F.ex
  exact pe_call G hr hg hm hk hb .nil pass0 ha hdb he hpl
theorem pe_gint {i:Int} (h:IntC X.mg x i) (hg:Gl X x) (hd:(x==("__debug__":Str))=false:=by decide):PE X (.Name x pos) (tC (.int i)):=by
  obtain ⟨t,ht⟩:=h.ex
  exact pe_glob hg ht ⟨t,rfl⟩ hd
end
abbrev BJ (x : Str) (ps : List Str) (st : Stmt) (us : List Value) : Prop := ∀ (kV doc pm : Value) (an : Option Addr) (cdv ct : Value), bindArgs (PySem.W.fnOf x x (defArgs st) (defBody st) (defScope st) .none kV doc pm an cdv ct) ⟨us, []⟩ = pure (ps.zip us)
abbrev BI (x : Str) (ps : List Str) (st : Stmt) : Prop := ∀ (kV doc pm : Value) (an : Option Addr) (cdv ct : Value) (us : List Value), us.length = ps.length -> bindArgs (PySem.W.fnOf x x (defArgs st) (defBody st) (defScope st) .none kV doc pm an cdv ct) ⟨us, []⟩ = pure (ps.zip us)
section
variable {x a b c d e : Str} {st : Stmt}
theorem b1 (h : ∀ u, BJ x [a] st [u]) : BI x [a] st := fun _ _ _ _ _ _ us hl => match us, hl with | [_], _ => h _ _ _ _ _ _ _
theorem b2 (h : ∀ u v, BJ x [a, b] st [u, v]) : BI x [a, b] st := fun _ _ _ _ _ _ us hl => match us, hl with | [_, _], _ => h _ _ _ _ _ _ _ _
theorem b3 (h : ∀ u v w, BJ x [a, b, c] st [u, v, w]) : BI x [a, b, c] st := fun _ _ _ _ _ _ us hl => match us, hl with | [_, _, _], _ => h _ _ _ _ _ _ _ _ _
theorem b4 (h : ∀ u v w y, BJ x [a, b, c, d] st [u, v, w, y]) : BI x [a, b, c, d] st := fun _ _ _ _ _ _ us hl => match us, hl with | [_, _, _, _], _ => h _ _ _ _ _ _ _ _ _ _
theorem b5 (h : ∀ u v w y z, BJ x [a, b, c, d, e] st [u, v, w, y, z]) : BI x [a, b, c, d, e] st := fun _ _ _ _ _ _ us hl => match us, hl with | [_, _, _, _, _], _ => h _ _ _ _ _ _ _ _ _ _ _
end
abbrev s_count_places:Stmt:=top 5
theorem sc_count_places:FnScope ["marks"] ["marks"] (defScope s_count_places):=⟨rfl,rfl,rfl,by decide +kernel,rfl,by decide +kernel,by decide +kernel⟩
theorem bi_count_places:BI "count_places" ["marks"] s_count_places:=b1 fun _ _ _ _ _ _ _=>rfl
abbrev s_mark_place:Stmt:=top 6
theorem sc_mark_place:FnScope ["mark"] ["mark"] (defScope s_mark_place):=⟨rfl,rfl,rfl,by decide +kernel,rfl,by decide +kernel,by decide +kernel⟩
theorem bi_mark_place:BI "mark_place" ["mark"] s_mark_place:=b1 fun _ _ _ _ _ _ _=>rfl
abbrev s_is_mark:Stmt:=top 7
theorem sc_is_mark:FnScope ["place"] ["place"] (defScope s_is_mark):=⟨rfl,rfl,rfl,by decide +kernel,rfl,by decide +kernel,by decide +kernel⟩
theorem bi_is_mark:BI "is_mark" ["place"] s_is_mark:=b1 fun _ _ _ _ _ _ _=>rfl
abbrev s_list_pairs:Stmt:=top 8
theorem sc_list_pairs:FnScope ["marks","pairs","place","direction"] ["marks"] (defScope s_list_pairs):=⟨rfl,rfl,rfl,by decide +kernel,rfl,by decide +kernel,by decide +kernel⟩
theorem bi_list_pairs:BI "list_pairs" ["marks"] s_list_pairs:=b1 fun _ _ _ _ _ _ _=>rfl
abbrev s_later_places:Stmt:=top 9
theorem sc_later_places:FnScope ["marks","place","direction","moved"] ["marks","place","direction"] (defScope s_later_places):=⟨rfl,rfl,rfl,by decide +kernel,rfl,by decide +kernel,by decide +kernel⟩
theorem bi_later_places:BI "later_places" ["marks","place","direction"] s_later_places:=b3 fun _ _ _ _ _ _ _ _ _=>rfl
abbrev s_pair_follows:Stmt:=top 10
theorem sc_pair_follows:FnScope ["marks","pair","later"] ["marks","pair","later"] (defScope s_pair_follows):=⟨rfl,rfl,rfl,by decide +kernel,rfl,by decide +kernel,by decide +kernel⟩
theorem bi_pair_follows:BI "pair_follows" ["marks","pair","later"] s_pair_follows:=b3 fun _ _ _ _ _ _ _ _ _=>rfl
abbrev s_rule_quantities:Stmt:=top 18
theorem sc_rule_quantities:FnScope ["rule"] ["rule"] (defScope s_rule_quantities):=⟨rfl,rfl,rfl,by decide +kernel,rfl,by decide +kernel,by decide +kernel⟩
theorem bi_rule_quantities:BI "rule_quantities" ["rule"] s_rule_quantities:=b1 fun _ _ _ _ _ _ _=>rfl
abbrev s_rule_marks:Stmt:=top 19
theorem sc_rule_marks:FnScope ["rule"] ["rule"] (defScope s_rule_marks):=⟨rfl,rfl,rfl,by decide +kernel,rfl,by decide +kernel,by decide +kernel⟩
theorem bi_rule_marks:BI "rule_marks" ["rule"] s_rule_marks:=b1 fun _ _ _ _ _ _ _=>rfl
abbrev s_place_of:Stmt:=top 20
theorem sc_place_of:FnScope ["state","quantity"] ["state","quantity"] (defScope s_place_of):=⟨rfl,rfl,rfl,by decide +kernel,rfl,by decide +kernel,by decide +kernel⟩
theorem bi_place_of:BI "place_of" ["state","quantity"] s_place_of:=b2 fun _ _ _ _ _ _ _ _=>rfl
abbrev s_direction_of:Stmt:=top 21
theorem sc_direction_of:FnScope ["state","quantity"] ["state","quantity"] (defScope s_direction_of):=⟨rfl,rfl,rfl,by decide +kernel,rfl,by decide +kernel,by decide +kernel⟩
theorem bi_direction_of:BI "direction_of" ["state","quantity"] s_direction_of:=b2 fun _ _ _ _ _ _ _ _=>rfl
abbrev s_side_of_mark:Stmt:=top 22
theorem sc_side_of_mark:FnScope ["state","quantity","mark","place"] ["state","quantity","mark"] (defScope s_side_of_mark):=⟨rfl,rfl,rfl,by decide +kernel,rfl,by decide +kernel,by decide +kernel⟩
theorem bi_side_of_mark:BI "side_of_mark" ["state","quantity","mark"] s_side_of_mark:=b3 fun _ _ _ _ _ _ _ _ _=>rfl
abbrev s_less_holds:Stmt:=top 23
theorem sc_less_holds:FnScope ["one","other"] ["one","other"] (defScope s_less_holds):=⟨rfl,rfl,rfl,by decide +kernel,rfl,by decide +kernel,by decide +kernel⟩
theorem bi_less_holds:BI "less_holds" ["one","other"] s_less_holds:=b2 fun _ _ _ _ _ _ _ _=>rfl
abbrev s_sum_holds:Stmt:=top 24
theorem sc_sum_holds:FnScope ["one","other","total"] ["one","other","total"] (defScope s_sum_holds):=⟨rfl,rfl,rfl,by decide +kernel,rfl,by decide +kernel,by decide +kernel⟩
theorem bi_sum_holds:BI "sum_holds" ["one","other","total"] s_sum_holds:=b3 fun _ _ _ _ _ _ _ _ _=>rfl
abbrev s_rule_holds:Stmt:=top 25
theorem sc_rule_holds:FnScope ["rule","state","kind","directions","quantity"] ["rule","state"] (defScope s_rule_holds):=⟨rfl,rfl,rfl,by decide +kernel,rfl,by decide +kernel,by decide +kernel⟩
theorem bi_rule_holds:BI "rule_holds" ["rule","state"] s_rule_holds:=b2 fun _ _ _ _ _ _ _ _=>rfl
abbrev s_add_pairs:Stmt:=top 27
theorem sc_add_pairs:FnScope ["states","pairs","longer","state","pair"] ["states","pairs"] (defScope s_add_pairs):=⟨rfl,rfl,rfl,by decide +kernel,rfl,by decide +kernel,by decide +kernel⟩
theorem bi_add_pairs:BI "add_pairs" ["states","pairs"] s_add_pairs:=b2 fun _ _ _ _ _ _ _ _=>rfl
abbrev s_list_states:Stmt:=top 28
theorem sc_list_states:FnScope ["marks","states","count"] ["marks"] (defScope s_list_states):=⟨rfl,rfl,rfl,by decide +kernel,rfl,by decide +kernel,by decide +kernel⟩
theorem bi_list_states:BI "list_states" ["marks"] s_list_states:=b1 fun _ _ _ _ _ _ _=>rfl
abbrev s_fitting_states:Stmt:=top 29
theorem sc_fitting_states:FnScope ["marks","rules","states","rule","state"] ["marks","rules"] (defScope s_fitting_states):=⟨rfl,rfl,rfl,by decide +kernel,rfl,by decide +kernel,by decide +kernel⟩
theorem bi_fitting_states:BI "fitting_states" ["marks","rules"] s_fitting_states:=b2 fun _ _ _ _ _ _ _ _=>rfl
abbrev s_is_state:Stmt:=top 30
theorem sc_is_state:FnScope ["marks","numbers","i"] ["marks","numbers"] (defScope s_is_state):=⟨rfl,rfl,rfl,by decide +kernel,rfl,by decide +kernel,by decide +kernel⟩
theorem bi_is_state:BI "is_state" ["marks","numbers"] s_is_state:=b2 fun _ _ _ _ _ _ _ _=>rfl
abbrev s_state_follows:Stmt:=top 31
theorem sc_state_follows:FnScope ["marks","state","later","i"] ["marks","state","later"] (defScope s_state_follows):=⟨rfl,rfl,rfl,by decide +kernel,rfl,by decide +kernel,by decide +kernel⟩
theorem bi_state_follows:BI "state_follows" ["marks","state","later"] s_state_follows:=b3 fun _ _ _ _ _ _ _ _ _=>rfl
abbrev s_follows_some:Stmt:=top 32
theorem sc_follows_some:FnScope ["marks","states","later","state"] ["marks","states","later"] (defScope s_follows_some):=⟨rfl,rfl,rfl,by decide +kernel,rfl,by decide +kernel,by decide +kernel⟩
theorem bi_follows_some:BI "follows_some" ["marks","states","later"] s_follows_some:=b3 fun _ _ _ _ _ _ _ _ _=>rfl
abbrev s_list_followers:Stmt:=top 33
theorem sc_list_followers:FnScope ["marks","states","followers","state","number"] ["marks","states"] (defScope s_list_followers):=⟨rfl,rfl,rfl,by decide +kernel,rfl,by decide +kernel,by decide +kernel⟩
theorem bi_list_followers:BI "list_followers" ["marks","states"] s_list_followers:=b2 fun _ _ _ _ _ _ _ _=>rfl
abbrev s_list_places:Stmt:=top 34
theorem sc_list_places:FnScope ["states","quantity","state"] ["states","quantity"] (defScope s_list_places):=⟨rfl,rfl,rfl,by decide +kernel,rfl,by decide +kernel,by decide +kernel⟩
theorem bi_list_places:BI "list_places" ["states","quantity"] s_list_places:=b2 fun _ _ _ _ _ _ _ _=>rfl
abbrev s_ways_from_now:Stmt:=top 37
theorem sc_ways_from_now:FnScope ["plant","states","starts","number"] ["plant"] (defScope s_ways_from_now):=⟨rfl,rfl,rfl,by decide +kernel,rfl,by decide +kernel,by decide +kernel⟩
theorem bi_ways_from_now:BI "ways_from_now" ["plant"] s_ways_from_now:=b1 fun _ _ _ _ _ _ _=>rfl
abbrev s_numbers_at:Stmt:=top 38
theorem sc_numbers_at:FnScope ["ways","quantity","place","number"] ["ways","quantity","place"] (defScope s_numbers_at):=⟨rfl,rfl,rfl,by decide +kernel,rfl,by decide +kernel,by decide +kernel⟩
theorem bi_numbers_at:BI "numbers_at" ["ways","quantity","place"] s_numbers_at:=b3 fun _ _ _ _ _ _ _ _ _=>rfl
abbrev s_ways_without:Stmt:=top 39
theorem sc_ways_without:FnScope ["ways","barred","followers","later","number"] ["ways","barred"] (defScope s_ways_without):=⟨rfl,rfl,rfl,by decide +kernel,rfl,by decide +kernel,by decide +kernel⟩
theorem bi_ways_without:BI "ways_without" ["ways","barred"] s_ways_without:=b2 fun _ _ _ _ _ _ _ _=>rfl
abbrev s_all_after:Stmt:=top 40
theorem sc_all_after:FnScope ["ways","numbers","found","number","later"] ["ways","numbers"] (defScope s_all_after):=⟨rfl,rfl,rfl,by decide +kernel,rfl,by decide +kernel,by decide +kernel⟩
theorem bi_all_after:BI "all_after" ["ways","numbers"] s_all_after:=b2 fun _ _ _ _ _ _ _ _=>rfl
abbrev s_after_moments:Stmt:=top 41
theorem sc_after_moments:FnScope ["ways","moments","numbers","moment"] ["ways","moments"] (defScope s_after_moments):=⟨rfl,rfl,rfl,by decide +kernel,rfl,by decide +kernel,by decide +kernel⟩
theorem bi_after_moments:BI "after_moments" ["ways","moments"] s_after_moments:=b2 fun _ _ _ _ _ _ _ _=>rfl
abbrev s_befores:Stmt:=top 42
theorem sc_befores:FnScope ["ways","before","number","found","at","later"] ["ways"] (defScope s_befores):=⟨rfl,rfl,rfl,by decide +kernel,rfl,by decide +kernel,by decide +kernel⟩
theorem bi_befores:BI "befores" ["ways"] s_befores:=b1 fun _ _ _ _ _ _ _=>rfl
abbrev s_way_to:Stmt:=top 43
theorem sc_way_to:FnScope ["before","number","way"] ["before","number"] (defScope s_way_to):=⟨rfl,rfl,rfl,by decide +kernel,rfl,by decide +kernel,by decide +kernel⟩
theorem bi_way_to:BI "way_to" ["before","number"] s_way_to:=b2 fun _ _ _ _ _ _ _ _=>rfl
abbrev s_shortest_way:Stmt:=top 44
theorem sc_shortest_way:FnScope ["ways","goals","before","number"] ["ways","goals"] (defScope s_shortest_way):=⟨rfl,rfl,rfl,by decide +kernel,rfl,by decide +kernel,by decide +kernel⟩
theorem bi_shortest_way:BI "shortest_way" ["ways","goals"] s_shortest_way:=b2 fun _ _ _ _ _ _ _ _=>rfl
abbrev s_moments_beyond:Stmt:=top 45
theorem sc_moments_beyond:FnScope ["ways","numbers","moments"] ["ways"] (defScope s_moments_beyond):=⟨rfl,rfl,rfl,by decide +kernel,rfl,by decide +kernel,by decide +kernel⟩
theorem bi_moments_beyond:BI "moments_beyond" ["ways"] s_moments_beyond:=b1 fun _ _ _ _ _ _ _=>rfl
abbrev s_shortest_round:Stmt:=top 46
theorem sc_shortest_round:FnScope ["ways","fewest","number","others","back","later"] ["ways"] (defScope s_shortest_round):=⟨rfl,rfl,rfl,by decide +kernel,rfl,by decide +kernel,by decide +kernel⟩
theorem bi_shortest_round:BI "shortest_round" ["ways"] s_shortest_round:=b1 fun _ _ _ _ _ _ _=>rfl
abbrev s_ahead:Stmt:=top 48
theorem sc_ahead:FnScope ["ways","moments"] ["ways","moments"] (defScope s_ahead):=⟨rfl,rfl,rfl,by decide +kernel,rfl,by decide +kernel,by decide +kernel⟩
theorem bi_ahead:BI "ahead" ["ways","moments"] s_ahead:=b2 fun _ _ _ _ _ _ _ _=>rfl
abbrev s_places_among:Stmt:=top 49
theorem sc_places_among:FnScope ["ways","numbers","quantity","places","number"] ["ways","numbers","quantity"] (defScope s_places_among):=⟨rfl,rfl,rfl,by decide +kernel,rfl,by decide +kernel,by decide +kernel⟩
theorem bi_places_among:BI "places_among" ["ways","numbers","quantity"] s_places_among:=b3 fun _ _ _ _ _ _ _ _ _=>rfl
abbrev s_later:Stmt:=top 50
theorem sc_later:FnScope ["ways","quantity","moments"] ["ways","quantity","moments"] (defScope s_later):=⟨rfl,rfl,rfl,by decide +kernel,rfl,by decide +kernel,by decide +kernel⟩
theorem bi_later:BI "later" ["ways","quantity","moments"] s_later:=b3 fun _ _ _ _ _ _ _ _ _=>rfl
abbrev s_ever:Stmt:=top 51
theorem sc_ever:FnScope ["ways","quantity"] ["ways","quantity"] (defScope s_ever):=⟨rfl,rfl,rfl,by decide +kernel,rfl,by decide +kernel,by decide +kernel⟩
theorem bi_ever:BI "ever" ["ways","quantity"] s_ever:=b2 fun _ _ _ _ _ _ _ _=>rfl
abbrev s_reach:Stmt:=top 52
theorem sc_reach:FnScope ["ways"] ["ways"] (defScope s_reach):=⟨rfl,rfl,rfl,by decide +kernel,rfl,by decide +kernel,by decide +kernel⟩
theorem bi_reach:BI "reach" ["ways"] s_reach:=b1 fun _ _ _ _ _ _ _=>rfl
abbrev s_moments_to:Stmt:=top 53
theorem sc_moments_to:FnScope ["ways","goals","way"] ["ways","goals"] (defScope s_moments_to):=⟨rfl,rfl,rfl,by decide +kernel,rfl,by decide +kernel,by decide +kernel⟩
theorem bi_moments_to:BI "moments_to" ["ways","goals"] s_moments_to:=b2 fun _ _ _ _ _ _ _ _=>rfl
abbrev s_may:Stmt:=top 54
theorem sc_may:FnScope ["ways","quantity","place"] ["ways","quantity","place"] (defScope s_may):=⟨rfl,rfl,rfl,by decide +kernel,rfl,by decide +kernel,by decide +kernel⟩
theorem bi_may:BI "may" ["ways","quantity","place"] s_may:=b3 fun _ _ _ _ _ _ _ _ _=>rfl
abbrev s_path:Stmt:=top 55
theorem sc_path:FnScope ["ways","quantity","place","way","told","number"] ["ways","quantity","place"] (defScope s_path):=⟨rfl,rfl,rfl,by decide +kernel,rfl,by decide +kernel,by decide +kernel⟩
theorem bi_path:BI "path" ["ways","quantity","place"] s_path:=b3 fun _ _ _ _ _ _ _ _ _=>rfl
abbrev s_ends:Stmt:=top 56
theorem sc_ends:FnScope ["ways","number"] ["ways"] (defScope s_ends):=⟨rfl,rfl,rfl,by decide +kernel,rfl,by decide +kernel,by decide +kernel⟩
theorem bi_ends:BI "ends" ["ways"] s_ends:=b1 fun _ _ _ _ _ _ _=>rfl
abbrev s_must:Stmt:=top 57
theorem sc_must:FnScope ["ways","quantity","place","off","moments"] ["ways","quantity","place"] (defScope s_must):=⟨rfl,rfl,rfl,by decide +kernel,rfl,by decide +kernel,by decide +kernel⟩
theorem bi_must:BI "must" ["ways","quantity","place"] s_must:=b3 fun _ _ _ _ _ _ _ _ _=>rfl
abbrev s_avoid:Stmt:=top 58
theorem sc_avoid:FnScope ["ways","quantity","place","off"] ["ways","quantity","place"] (defScope s_avoid):=⟨rfl,rfl,rfl,by decide +kernel,rfl,by decide +kernel,by decide +kernel⟩
theorem bi_avoid:BI "avoid" ["ways","quantity","place"] s_avoid:=b3 fun _ _ _ _ _ _ _ _ _=>rfl
abbrev s_both:Stmt:=top 59
theorem sc_both:FnScope ["ways","quantity","place","other","where","there","number"] ["ways","quantity","place","other","where"] (defScope s_both):=⟨rfl,rfl,rfl,by decide +kernel,rfl,by decide +kernel,by decide +kernel⟩
theorem bi_both:BI "both" ["ways","quantity","place","other","where"] s_both:=b5 fun _ _ _ _ _ _ _ _ _ _ _=>rfl
abbrev s_only:Stmt:=top 60
theorem sc_only:FnScope ["ways","quantity","place","other","where"] ["ways","quantity","place","other","where"] (defScope s_only):=⟨rfl,rfl,rfl,by decide +kernel,rfl,by decide +kernel,by decide +kernel⟩
theorem bi_only:BI "only" ["ways","quantity","place","other","where"] s_only:=b5 fun _ _ _ _ _ _ _ _ _ _ _=>rfl
abbrev s_is_steady:Stmt:=top 61
theorem sc_is_steady:FnScope ["state","quantity"] ["state"] (defScope s_is_steady):=⟨rfl,rfl,rfl,by decide +kernel,rfl,by decide +kernel,by decide +kernel⟩
theorem bi_is_steady:BI "is_steady" ["state"] s_is_steady:=b1 fun _ _ _ _ _ _ _=>rfl
abbrev s_rest:Stmt:=top 62
theorem sc_rest:FnScope ["ways","number"] ["ways"] (defScope s_rest):=⟨rfl,rfl,rfl,by decide +kernel,rfl,by decide +kernel,by decide +kernel⟩
theorem bi_rest:BI "rest" ["ways"] s_rest:=b1 fun _ _ _ _ _ _ _=>rfl
abbrev s_stuck:Stmt:=top 63
theorem sc_stuck:FnScope ["ways"] ["ways"] (defScope s_stuck):=⟨rfl,rfl,rfl,by decide +kernel,rfl,by decide +kernel,by decide +kernel⟩
theorem bi_stuck:BI "stuck" ["ways"] s_stuck:=b1 fun _ _ _ _ _ _ _=>rfl
abbrev s_round_way:Stmt:=top 64
theorem sc_round_way:FnScope ["ways","moments"] ["ways"] (defScope s_round_way):=⟨rfl,rfl,rfl,by decide +kernel,rfl,by decide +kernel,by decide +kernel⟩
theorem bi_round_way:BI "round_way" ["ways"] s_round_way:=b1 fun _ _ _ _ _ _ _=>rfl
abbrev s_has_quantity:Stmt:=top 68
theorem sc_has_quantity:FnScope ["plant","quantity"] ["plant","quantity"] (defScope s_has_quantity):=⟨rfl,rfl,rfl,by decide +kernel,rfl,by decide +kernel,by decide +kernel⟩
theorem bi_has_quantity:BI "has_quantity" ["plant","quantity"] s_has_quantity:=b2 fun _ _ _ _ _ _ _ _=>rfl
abbrev s_has_mark:Stmt:=top 69
theorem sc_has_mark:FnScope ["plant","quantity","mark"] ["plant","quantity","mark"] (defScope s_has_mark):=⟨rfl,rfl,rfl,by decide +kernel,rfl,by decide +kernel,by decide +kernel⟩
theorem bi_has_mark:BI "has_mark" ["plant","quantity","mark"] s_has_mark:=b3 fun _ _ _ _ _ _ _ _ _=>rfl
abbrev s_has_place:Stmt:=top 70
theorem sc_has_place:FnScope ["plant","quantity","place"] ["plant","quantity","place"] (defScope s_has_place):=⟨rfl,rfl,rfl,by decide +kernel,rfl,by decide +kernel,by decide +kernel⟩
theorem bi_has_place:BI "has_place" ["plant","quantity","place"] s_has_place:=b3 fun _ _ _ _ _ _ _ _ _=>rfl
abbrev s_too_many_fit:Stmt:=top 71
theorem sc_too_many_fit:FnScope ["plant"] ["plant"] (defScope s_too_many_fit):=⟨rfl,rfl,rfl,by decide +kernel,rfl,by decide +kernel,by decide +kernel⟩
theorem bi_too_many_fit:BI "too_many_fit" ["plant"] s_too_many_fit:=b1 fun _ _ _ _ _ _ _=>rfl
abbrev s_settle:Stmt:=top 72
theorem sc_settle:FnScope ["plant","fitting"] ["plant","fitting"] (defScope s_settle):=⟨rfl,rfl,rfl,by decide +kernel,rfl,by decide +kernel,by decide +kernel⟩
theorem bi_settle:BI "settle" ["plant","fitting"] s_settle:=b2 fun _ _ _ _ _ _ _ _=>rfl
abbrev s_numbers_by_sign:Stmt:=top 76
theorem sc_numbers_by_sign:FnScope ["name","given","wanted","sign","number"] ["name","given","wanted"] (defScope s_numbers_by_sign):=⟨rfl,rfl,rfl,by decide +kernel,rfl,by decide +kernel,by decide +kernel⟩
theorem bi_numbers_by_sign:BI "numbers_by_sign" ["name","given","wanted"] s_numbers_by_sign:=b3 fun _ _ _ _ _ _ _ _ _=>rfl
abbrev s_find_refusal:Stmt:=top 77
theorem sc_find_refusal:FnScope ["plant","name","given","quantities","quantity","place","moments"] ["plant","name","given"] (defScope s_find_refusal):=⟨rfl,rfl,rfl,by decide +kernel,rfl,by decide +kernel,by decide +kernel⟩
theorem bi_find_refusal:BI "find_refusal" ["plant","name","given"] s_find_refusal:=b3 fun _ _ _ _ _ _ _ _ _=>rfl
abbrev s_answer_of_places:Stmt:=top 78
theorem sc_answer_of_places:FnScope ["ways","name","given"] ["ways","name","given"] (defScope s_answer_of_places):=⟨rfl,rfl,rfl,by decide +kernel,rfl,by decide +kernel,by decide +kernel⟩
theorem bi_answer_of_places:BI "answer_of_places" ["ways","name","given"] s_answer_of_places:=b3 fun _ _ _ _ _ _ _ _ _=>rfl
abbrev s_answer_of_ways:Stmt:=top 79
theorem sc_answer_of_ways:FnScope ["ways","name","given"] ["ways","name","given"] (defScope s_answer_of_ways):=⟨rfl,rfl,rfl,by decide +kernel,rfl,by decide +kernel,by decide +kernel⟩
theorem bi_answer_of_ways:BI "answer_of_ways" ["ways","name","given"] s_answer_of_ways:=b3 fun _ _ _ _ _ _ _ _ _=>rfl
abbrev s_ask:Stmt:=top 80
theorem sc_ask:FnScope ["plant","name","given","refusal"] ["plant","name","given"] (defScope s_ask):=⟨rfl,rfl,rfl,by decide +kernel,rfl,by decide +kernel,by decide +kernel⟩
theorem bi_ask:BI "ask" ["plant","name","given"] s_ask:=b3 fun _ _ _ _ _ _ _ _ _=>rfl
abbrev s_begin:Stmt:=top 86
theorem sc_begin:FnScope ["plant"] ["plant"] (defScope s_begin):=⟨rfl,rfl,rfl,by decide +kernel,rfl,by decide +kernel,by decide +kernel⟩
theorem bi_begin:BI "begin" ["plant"] s_begin:=b1 fun _ _ _ _ _ _ _=>rfl
abbrev s_multiply_places:Stmt:=top 87
theorem sc_multiply_places:FnScope ["marks","product","count"] ["marks"] (defScope s_multiply_places):=⟨rfl,rfl,rfl,by decide +kernel,rfl,by decide +kernel,by decide +kernel⟩
theorem bi_multiply_places:BI "multiply_places" ["marks"] s_multiply_places:=b1 fun _ _ _ _ _ _ _=>rfl
abbrev s_add_quantity:Stmt:=top 88
theorem sc_add_quantity:FnScope ["plant","count","marks"] ["plant","count"] (defScope s_add_quantity):=⟨rfl,rfl,rfl,by decide +kernel,rfl,by decide +kernel,by decide +kernel⟩
theorem bi_add_quantity:BI "add_quantity" ["plant","count"] s_add_quantity:=b2 fun _ _ _ _ _ _ _ _=>rfl
abbrev s_names_missing_quantity:Stmt:=top 89
theorem sc_names_missing_quantity:FnScope ["plant","rule","quantity"] ["plant","rule"] (defScope s_names_missing_quantity):=⟨rfl,rfl,rfl,by decide +kernel,rfl,by decide +kernel,by decide +kernel⟩
theorem bi_names_missing_quantity:BI "names_missing_quantity" ["plant","rule"] s_names_missing_quantity:=b2 fun _ _ _ _ _ _ _ _=>rfl
abbrev s_names_missing_mark:Stmt:=top 90
theorem sc_names_missing_mark:FnScope ["plant","rule","quantity","mark"] ["plant","rule"] (defScope s_names_missing_mark):=⟨rfl,rfl,rfl,by decide +kernel,rfl,by decide +kernel,by decide +kernel⟩
theorem bi_names_missing_mark:BI "names_missing_mark" ["plant","rule"] s_names_missing_mark:=b2 fun _ _ _ _ _ _ _ _=>rfl
abbrev s_names_one_twice:Stmt:=top 91
theorem sc_names_one_twice:FnScope ["rule","quantities"] ["rule"] (defScope s_names_one_twice):=⟨rfl,rfl,rfl,by decide +kernel,rfl,by decide +kernel,by decide +kernel⟩
theorem bi_names_one_twice:BI "names_one_twice" ["rule"] s_names_one_twice:=b1 fun _ _ _ _ _ _ _=>rfl
abbrev s_add_rule:Stmt:=top 92
theorem sc_add_rule:FnScope ["plant","rule","rules","fitting"] ["plant","rule"] (defScope s_add_rule):=⟨rfl,rfl,rfl,by decide +kernel,rfl,by decide +kernel,by decide +kernel⟩
theorem bi_add_rule:BI "add_rule" ["plant","rule"] s_add_rule:=b2 fun _ _ _ _ _ _ _ _=>rfl
abbrev s_drop_rule:Stmt:=top 93
theorem sc_drop_rule:FnScope ["plant","number"] ["plant","number"] (defScope s_drop_rule):=⟨rfl,rfl,rfl,by decide +kernel,rfl,by decide +kernel,by decide +kernel⟩
theorem bi_drop_rule:BI "drop_rule" ["plant","number"] s_drop_rule:=b2 fun _ _ _ _ _ _ _ _=>rfl
abbrev s_take_current:Stmt:=top 95
theorem sc_take_current:FnScope ["plant","states"] ["plant","states"] (defScope s_take_current):=⟨rfl,rfl,rfl,by decide +kernel,rfl,by decide +kernel,by decide +kernel⟩
theorem bi_take_current:BI "take_current" ["plant","states"] s_take_current:=b2 fun _ _ _ _ _ _ _ _=>rfl
abbrev s_all_states:Stmt:=top 96
theorem sc_all_states:FnScope ["plant"] ["plant"] (defScope s_all_states):=⟨rfl,rfl,rfl,by decide +kernel,rfl,by decide +kernel,by decide +kernel⟩
theorem bi_all_states:BI "all_states" ["plant"] s_all_states:=b1 fun _ _ _ _ _ _ _=>rfl
abbrev s_from_state:Stmt:=top 97
theorem sc_from_state:FnScope ["plant","numbers","state"] ["plant","numbers"] (defScope s_from_state):=⟨rfl,rfl,rfl,by decide +kernel,rfl,by decide +kernel,by decide +kernel⟩
theorem bi_from_state:BI "from_state" ["plant","numbers"] s_from_state:=b2 fun _ _ _ _ _ _ _ _=>rfl
abbrev s_seen:Stmt:=top 98
theorem sc_seen:FnScope ["plant","quantity","place","state"] ["plant","quantity","place"] (defScope s_seen):=⟨rfl,rfl,rfl,by decide +kernel,rfl,by decide +kernel,by decide +kernel⟩
theorem bi_seen:BI "seen" ["plant","quantity","place"] s_seen:=b3 fun _ _ _ _ _ _ _ _ _=>rfl
abbrev s_goes:Stmt:=top 99
theorem sc_goes:FnScope ["plant","quantity","direction","state"] ["plant","quantity","direction"] (defScope s_goes):=⟨rfl,rfl,rfl,by decide +kernel,rfl,by decide +kernel,by decide +kernel⟩
theorem bi_goes:BI "goes" ["plant","quantity","direction"] s_goes:=b3 fun _ _ _ _ _ _ _ _ _=>rfl
abbrev s_tick:Stmt:=top 100
theorem sc_tick:FnScope ["plant","later","state"] ["plant"] (defScope s_tick):=⟨rfl,rfl,rfl,by decide +kernel,rfl,by decide +kernel,by decide +kernel⟩
theorem bi_tick:BI "tick" ["plant"] s_tick:=b1 fun _ _ _ _ _ _ _=>rfl
abbrev s_split_calls:Stmt:=top 103
theorem sc_split_calls:FnScope ["numbers","calls","at","call","size"] ["numbers"] (defScope s_split_calls):=⟨rfl,rfl,rfl,by decide +kernel,rfl,by decide +kernel,by decide +kernel⟩
theorem bi_split_calls:BI "split_calls" ["numbers"] s_split_calls:=b1 fun _ _ _ _ _ _ _=>rfl
abbrev s_count_current:Stmt:=top 105
theorem sc_count_current:FnScope ["plant"] ["plant"] (defScope s_count_current):=⟨rfl,rfl,rfl,by decide +kernel,rfl,by decide +kernel,by decide +kernel⟩
theorem bi_count_current:BI "count_current" ["plant"] s_count_current:=b1 fun _ _ _ _ _ _ _=>rfl
abbrev s_tell_one:Stmt:=top 106
theorem sc_tell_one:FnScope ["plant","number"] ["plant","number"] (defScope s_tell_one):=⟨rfl,rfl,rfl,by decide +kernel,rfl,by decide +kernel,by decide +kernel⟩
theorem bi_tell_one:BI "tell_one" ["plant","number"] s_tell_one:=b2 fun _ _ _ _ _ _ _ _=>rfl
abbrev s_tell_places:Stmt:=top 107
theorem sc_tell_places:FnScope ["plant","quantity","places"] ["plant","quantity"] (defScope s_tell_places):=⟨rfl,rfl,rfl,by decide +kernel,rfl,by decide +kernel,by decide +kernel⟩
theorem bi_tell_places:BI "tell_places" ["plant","quantity"] s_tell_places:=b2 fun _ _ _ _ _ _ _ _=>rfl
abbrev s_tell_state:Stmt:=top 108
theorem sc_tell_state:FnScope ["plant"] ["plant"] (defScope s_tell_state):=⟨rfl,rfl,rfl,by decide +kernel,rfl,by decide +kernel,by decide +kernel⟩
theorem bi_tell_state:BI "tell_state" ["plant"] s_tell_state:=b1 fun _ _ _ _ _ _ _=>rfl
abbrev s_answer_call:Stmt:=top 110
theorem sc_answer_call:FnScope ["plant","name","given"] ["plant","name","given"] (defScope s_answer_call):=⟨rfl,rfl,rfl,by decide +kernel,rfl,by decide +kernel,by decide +kernel⟩
theorem bi_answer_call:BI "answer_call" ["plant","name","given"] s_answer_call:=b3 fun _ _ _ _ _ _ _ _ _=>rfl
abbrev s_answers:Stmt:=top 111
theorem sc_answers:FnScope ["calls","plant","told","name","given","answer"] ["calls"] (defScope s_answers):=⟨rfl,rfl,rfl,by decide +kernel,rfl,by decide +kernel,by decide +kernel⟩
structure Top (K:PySem.W.Frag) (mg:Str->Option Value):Prop where
  len:mg "len"=none
  range:mg "range"=none
  list:mg "list"=none
  tuple:mg "tuple"=none
  set:mg "set"=none
  abs:mg "abs"=none
  zip:mg "zip"=none
  sorted:mg "sorted"=none
  FALLING:IntC mg "FALLING" 0
  STEADY:IntC mg "STEADY" 1
  RISING:IntC mg "RISING" 2
  DIRECTIONS:IntC mg "DIRECTIONS" 3
  NO_SUCH:IntC mg "NO_SUCH" (-2)
  NOT_BEGUN:IntC mg "NOT_BEGUN" (-11)
  NOT_RIGHT:IntC mg "NOT_RIGHT" (-22)
  TOO_MANY:IntC mg "TOO_MANY" (-28)
  CANNOT_BE:IntC mg "CANNOT_BE" (-33)
  MOST_MARKS:IntC mg "MOST_MARKS" 3
  MOST_QUANTITIES:IntC mg "MOST_QUANTITIES" 4
  MOST_PLACES:IntC mg "MOST_PLACES" 30
  MOST_RULES:IntC mg "MOST_RULES" 8
  MOST_FITTING:IntC mg "MOST_FITTING" 120
  MOST_MOMENTS:IntC mg "MOST_MOMENTS" 40
def LI (H:Hp) (a:Addr) (ns:List Int):Prop:=H a=some (.lst (ns.map V.int))
def LR {α:Type} (sh:α->HO) (H:Hp) (a:Addr) (xs:List α):Prop:=∃ as:List Addr,H a=some (.lst (as.map V.ref))/\Paired (fun b x=>H b=some (sh x)) as xs
def NoRef {α:Type} (sh:α->HO):Prop:=∀ (x:α) (as:List Addr),as≠[]->sh x≠.lst (as.map V.ref)
theorem paired_imp {α β:Type}{F G:α->β->Prop} (f:∀ a b,F a b->G a b):∀ {l:List α}{m:List β},Paired F l m->Paired G l m
  | _,_,.nil=>.nil
  | _,_,.cons r t=>.cons (f _ _ r) (paired_imp f t)
theorem paired_mem {α β:Type}{F:α->β->Prop}:∀ {l:List α}{m:List β},Paired F l m->∀ a∈l,∃ b∈m,F a b
  | _,_,.nil,a,h=>by simp at h
  | _,_,.cons r t,a,h=>by
    rcases List.mem_cons.mp h with rfl | h
    · exact⟨_,List.mem_cons_self,r⟩
    · obtain ⟨b,hb,q⟩:=paired_mem t a h
      exact⟨b,List.mem_cons_of_mem _ hb,q⟩
theorem paired_impM {α β:Type}{F G:α->β->Prop}:∀ {l:List α}{m:List β},Paired F l m->(∀ a b,a∈l->F a b->G a b)->Paired G l m
  | _,_,.nil,_=>.nil
  | _,_,.cons r t,f=>.cons (f _ _ List.mem_cons_self r) (paired_impM t fun a b h=>f a b (List.mem_cons_of_mem _ h))
theorem paired_app {α β:Type}{F:α->β->Prop}:∀ {l l':List α}{m m':List β},Paired F l m->Paired F l' m'->Paired F (l++l') (m++m')
  | _,_,_,_,.nil,s=>s
  | _,_,_,_,.cons r t,s=>.cons r (paired_app t s)
theorem paired_len {α β:Type}{F:α->β->Prop}:∀ {l:List α}{m:List β},Paired F l m->l.length=m.length
  | _,_,.nil=>rfl
  | _,_,.cons _ t=>by simp [paired_len t]
theorem paired_get {α β:Type}{F:α->β->Prop}:∀ {l:List α}{m:List β}{i:Nat}{b:β},Paired F l m->m[i]?=some b->∃ a,l[i]?=some a/\F a b
  | _,_,_,_,.nil,h=>by simp at h
  | _,_,0,b,.cons r t,h=>by simp at h;subst h;exact⟨_,rfl,r⟩
  | _,_,i+1,b,.cons r t,h=>by
    obtain ⟨a,h1,h2⟩:=paired_get (i:=i) (b:=b) t (by simpa using h)
    exact⟨a,by simpa using h1,h2⟩
theorem paired_getL {α β:Type}{F:α->β->Prop}:∀ {l:List α}{m:List β}{i:Nat}{a:α},Paired F l m->l[i]?=some a->∃ b,m[i]?=some b/\F a b
  | _,_,_,_,.nil,h=>by simp at h
  | _,_,0,b,.cons r t,h=>by simp at h;subst h;exact⟨_,rfl,r⟩
  | _,_,i+1,b,.cons r t,h=>by
    obtain ⟨a,h1,h2⟩:=paired_getL (i:=i) (a:=b) t (by simpa using h)
    exact⟨a,by simpa using h1,h2⟩
section
variable {α:Type}{sh:α->HO}{H H':Hp}{a p q:Addr}{xs:List α}{x:α}
theorem LR.same (h:LR sh H a xs) (e:Same H H'):LR sh H' a xs:=by
  obtain ⟨as,h1,h2⟩:=h
  exact⟨as,e _ _ h1,paired_imp (fun _ _ x=>e _ _ x) h2⟩
theorem LR.nil (h:H a=some (.lst [])):LR sh H a []:=⟨[],h,.nil⟩
theorem LR.out (nr:NoRef sh) {as:List Addr} (h1:H a=some (.lst (as.map V.ref))) (h2:Paired (fun b x=>H b=some (sh x)) as xs):¬ a∈as:=fun m=>by
  obtain ⟨y,_,e⟩:=paired_mem h2 a m
  rw [h1] at e
  exact nr y as (List.ne_nil_of_mem m) (Option.some.inj e).symm
theorem LR.app (nr:NoRef sh) (h:LR sh H a xs) (hq:H q=some (sh x)) (hne:q≠a) :
    ∃ as:List Addr,H a=some (.lst (as.map V.ref))/\as.length=xs.length/\LR sh (L2.upd H a (.lst (as.map V.ref++[V.ref q]))) a (xs++[x]):=by
  obtain ⟨as,h1,h2⟩:=h
  refine⟨as,h1,paired_len h2,as++[q],?_,?_⟩
  · rw [upd_same,List.map_append];rfl
  · have o:=LR.out nr h1 h2
    refine paired_app (paired_impM h2 fun b y m e=>?_) (.cons ?_ .nil)
    · have ne:b≠a:=fun z=>by subst z;exact o m
      rw [upd_ne ne];exact e
    · rw [upd_ne hne];exact hq
theorem LR.sq {K:PySem.W.Frag} (h:LR sh H a xs):∃ as:List Addr,SqL K H a (as.map V.ref)/\H a=some (.lst (as.map V.ref))/\as.length=xs.length/\Paired (fun b x=>H b=some (sh x)) as xs:=by
  obtain ⟨as,h1,h2⟩:=h
  exact⟨as,SqL.of h1,h1,paired_len h2,h2⟩
end
theorem Same.upd {H H':Hp}{p:Addr}{o:HO} (e:Same H H') (hp:H' p=none):Same H (L2.upd H' p o):=fun b u h=>by
  rw [upd_ne (ne_of_none (e _ _ h) hp)]
  exact e _ _ h
theorem Same.new {H:Hp}{p:Addr}{o:HO} (hp:H p=none):Same H (L2.upd H p o):=Same.upd (Same.refl H) hp
theorem Same.put {H H':Hp}{p:Addr}{o:HO} (e:Same H H') (hp:H p=none):Same H (L2.upd H' p o):=fun b u h=>by
  rw [upd_ne (ne_of_none h hp)]
  exact e _ _ h
theorem line_lt {n:Nat} (h:n<16777216):n<sizeLine:=by rw [sizeLine_eq];exact h
theorem line_le {n:Nat} (h:n<=16777216):n<=sizeLine:=by rw [sizeLine_eq];exact h
theorem ite_dec {c A B:Prop} [Decidable c] (h1:c->A) (h2:¬ c->B):if decide c=true then A else B:=by
  by_cases h:c
  · rw [if_pos (decide_eq_true h)];exact h1 h
  · rw [if_neg (by simp [h])];exact h2 h
theorem ite_ii {i j:Int}{A B:Prop} (h1:i=j->A) (h2:i≠j->B):if decide (V.int i=V.int j)=true then A else B:=
  ite_dec (fun h=>h1 (V.int.inj h)) (fun h=>h2 fun e=>h (by rw [e]))
theorem ite_ni {i j:Int}{A B:Prop} (h1:i≠j->A) (h2:i=j->B):if (!decide (V.int i=V.int j))=true then A else B:=by
  by_cases h:i=j
  · rw [if_neg (by simp [h])];exact h2 h
  · rw [if_pos (by simp [h])];exact h1 h
theorem ite_ss {i j:Str}{A B:Prop} (h1:i=j->A) (h2:i≠j->B):if decide (V.str i=V.str j)=true then A else B:=
  ite_dec (fun h=>h1 (V.str.inj h)) (fun h=>h2 fun e=>h (by rw [e]))
theorem ite_b {b:Bool}{A B:Prop} (h1:b=true->A) (h2:b=false->B):if b=true then A else B:=by
  cases b with
  | true=>rw [if_pos rfl];exact h1 rfl
  | false=>rw [if_neg (by simp)];exact h2 rfl
theorem ite_nb {b:Bool}{A B:Prop} (h1:b=false->A) (h2:b=true->B):if (!b)=true then A else B:=by
  cases b with
  | true=>rw [if_neg (by simp)];exact h2 rfl
  | false=>rw [if_pos (by simp)];exact h1 rfl
theorem dII (i j:Int):decide (V.int i=V.int j)=decide (i=j):=by
  by_cases h:i=j <;> simp [h]
def shP (x:Nat × Nat):HO:=.lst [.int x.1,.int x.2]
theorem shP_no:NoRef shP:=fun x as h e=>by
  unfold shP at e
  cases as with
  | nil=>exact h rfl
  | cons b r=>simp at e
def shS (s:Kri6.State):HO:=.lst ((Kri6.flat s).map V.int)
theorem shS_no:NoRef shS:=fun x as h e=>by
  unfold shS at e
  cases as with
  | nil=>exact h rfl
  | cons b r=>
    have e:=HO.lst.inj e
    cases f:Kri6.flat x with
    | nil=>rw [f] at e;simp at e
    | cons z l=>rw [f] at e;simp at e
section
variable {P:Program}{w:World}{K:PySem.W.Frag}{mg:Str->Option Value}{base:Heap}
def spCount:L2.Sp:=fun vs H Q _=>∃ m:Int,vs=[.int m]/\Q (.int (2*m+1)) H
theorem ok_count_places (D:DefAt K mg "count_places" s_count_places):OkF P w K mg base 1 "count_places" ["marks"] spCount:=by
  refine D.ok sc_count_places bi_count_places (fun vs H Q E h=>?_) (fun f cdv A outer s H vs Q E hr h=>?_)
  · obtain ⟨m,rfl,_⟩:=h
    rfl
  · obtain ⟨m,rfl,k⟩:=h
    refine⟨_,(pss_one (ps_ret (pe_op op_add (pe_op op_mul pe_int (pv 0)) pe_int))),?_⟩
    exact⟨_,rfl,_,_,rfl,rfl,.inl ⟨by decide,by decide⟩,_,_,rfl,rfl,k⟩
theorem ok_mark_place (D:DefAt K mg "mark_place" s_mark_place):OkF P w K mg base 1 "mark_place" ["mark"] spCount:=by
  refine D.ok sc_mark_place bi_mark_place (fun vs H Q E h=>?_) (fun f cdv A outer s H vs Q E hr h=>?_)
  · obtain ⟨m,rfl,_⟩:=h
    rfl
  · obtain ⟨m,rfl,k⟩:=h
    refine⟨_,(pss_one (ps_ret (pe_op op_add (pe_op op_mul pe_int (pv 0)) pe_int))),?_⟩
    exact⟨_,rfl,_,_,rfl,rfl,.inl ⟨by decide,by decide⟩,_,_,rfl,rfl,k⟩
def spIsMark:L2.Sp:=fun vs H Q _=>∃ p:Int,vs=[.int p]/\Q (.bl (decide (V.int (p % 2)=V.int 1))) H
theorem ok_is_mark (D:DefAt K mg "is_mark" s_is_mark):OkF P w K mg base 1 "is_mark" ["place"] spIsMark:=by
  refine D.ok sc_is_mark bi_is_mark (fun vs H Q E h=>?_) (fun f cdv A outer s H vs Q E hr h=>?_)
  · obtain ⟨m,rfl,_⟩:=h
    rfl
  · obtain ⟨m,rfl,k⟩:=h
    refine⟨_,(pss_one (ps_ret (pe_cmpR op_eq (pe_op op_mod (pv 0) pe_int) pe_int (nomark _)))),?_⟩
    refine⟨_,rfl,_,_,rfl,rfl,(by show (0:Int)<2;decide),rfl,k⟩
def spPairs:L2.Sp:=fun vs H Q _=>∃ m:Nat,vs=[.int m]/\m<=1000/\∀ (H':Hp) (p:Addr),H p=none->Same H H'->LR shP H' p (Kri5.pairsOf m)->Q (.ref p) H'
theorem pairs_len (m:Nat):(Kri5.pairsOf m).length=(2*m+1)*3:=by
  unfold Kri5.pairsOf
  simp [List.length_flatMap,List.map_const',List.sum_replicate_nat]
theorem flat_len (i:Nat):((List.range i).flatMap fun p=>(List.range 3).map fun d=>(p,d)).length=i*3:=by
  simp [List.length_flatMap,List.map_const',List.sum_replicate_nat]
theorem ok_list_pairs (T:Top K mg) (D:DefAt K mg "list_pairs" s_list_pairs) (G_count_places:OkF P w K mg base 1 "count_places" ["marks"] spCount) :
    OkF P w K mg base 2 "list_pairs" ["marks"] spPairs:=by
  refine D.ok sc_list_pairs bi_list_pairs (fun vs H Q E h=>?_) (fun f cdv A outer s H vs Q E hr h=>?_)
  · obtain ⟨m,rfl,_⟩:=h
    rfl
  · obtain ⟨m,rfl,hm,k⟩:=h
    refine⟨_,(pss_cons (ps_set (i:=1) sc_list_pairs.nd rfl (Or.inl rfl) (pe_lst pa_nil))
      (pss_cons (ps_for PassesOwn.never rfl (pi_range1 rfl T.range (pa_cons (pe_fn G_count_places (hr.mono (by decide)) rfl (pa_cons (pv 0) pa_nil)) pa_nil)) (pg_name (i:=2) sc_list_pairs.nd rfl (Or.inl rfl))
        (pss_one (ps_for PassesOwn.never rfl (pi_range1 rfl T.range (pa_cons (pe_gint T.DIRECTIONS rfl) pa_nil)) (pg_name (i:=3) sc_list_pairs.nd rfl (Or.inl rfl))
        (pss_one (ps_expr (pe_bm PySem.F.plainAttrs_list PySem.F.slot_list_append PySem.F.type_list_append mt_append (pv 1) (pa_cons (pe_lst (pa_cons (pv 2) (pa_cons (pv 3) pa_nil))) pa_nil)))))))
      (pss_one (ps_ret (pv 1))))),?_⟩
    refine⟨Nat.zero_le _,fun p hp=>?_⟩
    refine⟨_,rfl,(m:Int),rfl,_,rfl,by omega,by omega,?_⟩
    have en:(2*(m:Int)+1).toNat=2*m+1:=by omega
    refine for_range (fun i σ H'=>∃ v2 v3:Option V,σ=[some (.int m),some (.ref p),v2,v3]/\Same H H'/\LR shP H' p ((List.range i).flatMap fun p=>(List.range 3).map fun d=>(p,d))) ?_ ?_ ?_
    · exact⟨none,none,rfl,Same.new hp,LR.nil upd_same⟩
    · rintro i σ H1 hi ⟨v2,v3,rfl,s1,l1⟩
      refine⟨_,rfl,by decide,by decide,?_⟩
      refine for_range (fun j σ H'=>∃ v3:Option V,σ=[some (.int m),some (.ref p),some (.int (0+(i:Int))),v3]/\Same H H'/\LR shP H' p (((List.range i).flatMap fun p=>(List.range 3).map fun d=>(p,d))++(List.range j).map fun d=>(i,d))) ?_ ?_ ?_
      · exact⟨v3,rfl,s1,by simpa using l1⟩
      · rintro j σ H2 hj ⟨v3,rfl,s2,l2⟩
        refine⟨_,rfl,.inl ⟨rfl,?_⟩,?_⟩
        · obtain ⟨as,h1,_⟩:=l2.sq (K:=K)
          exact⟨_,h1⟩
        · refine⟨_,rfl,_,rfl,(by show 2<=sizeLine;decide),fun q hq=>?_⟩
          have l3:LR shP (L2.upd H2 q (.lst [.int (0+(i:Int)),.int (0+(j:Int))])) p _:=l2.same (Same.new hq)
          have hpq:q≠p:=by
            obtain ⟨as,h1,_⟩:=l2
            exact fun z=>by rw [z,h1] at hq;cases hq
          have hx:L2.upd H2 q (.lst [.int (0+(i:Int)),.int (0+(j:Int))]) q=some (shP (i,j)):=by
            rw [upd_same];simp [shP]
          obtain ⟨as,e1,e2,e3⟩:=LR.app shP_no l3 hx hpq
          refine⟨p,_,_,rfl,rfl,e1,line_lt ?_,?_⟩
          · rw [List.length_map,e2,List.length_append,flat_len,List.length_map,List.length_range]
            have hj3:j<3:=hj
            omega
          · refine⟨_,rfl,Same.put (Same.upd s2 hq) hp,?_⟩
            rw [List.range_succ (n:=j),List.map_append,<- List.append_assoc]
            exact e3
      · rintro σ H2 ⟨v3,rfl,s2,l2⟩
        refine⟨_,_,rfl,s2,?_⟩
        rw [List.range_succ (n:=i),List.flatMap_append,List.flatMap_singleton]
        exact l2
    · rintro σ H1 ⟨v2,v3,rfl,s1,l1⟩
      refine⟨_,rfl,k H1 p hp s1 ?_⟩
      rw [en] at l1
      exact l1
def nextI (m p d:Int):List Int:=
  if d=1 then [p] else if p % 2=1 then [if d=2 then p+1 else p - 1] else
  if (if d=2 then p+1 else p - 1)<0 \/ 2*m+1<=(if d=2 then p+1 else p - 1) then [p] else [p,if d=2 then p+1 else p - 1]
def spLater:L2.Sp:=fun vs H Q _=>∃ m p d:Int,vs=[.int m,.int p,.int d]/\∀ (H':Hp) (q:Addr),H q=none->Same H H'->LI H' q (nextI m p d)->Q (.ref q) H'
theorem ok_later_places (T:Top K mg) (D:DefAt K mg "later_places" s_later_places) (G_count_places:OkF P w K mg base 1 "count_places" ["marks"] spCount) (G_is_mark:OkF P w K mg base 1 "is_mark" ["place"] spIsMark) :
    OkF P w K mg base 2 "later_places" ["marks","place","direction"] spLater:=by
  refine D.ok sc_later_places bi_later_places (fun vs H Q E h=>?_) (fun f cdv A outer s H vs Q E hr h=>?_)
  · obtain ⟨m,p,d,rfl,_⟩:=h
    rfl
  · obtain ⟨m,p,d,rfl,k⟩:=h
    refine⟨_,(pss_cons (ps_if (pt_cmpR op_eq (pv 2) (pe_gint T.STEADY rfl) (nomark _)) (pss_one (ps_ret (pe_lst (pa_cons (pv 1) pa_nil)))) pss_nil)
      (pss_cons (ps_set (i:=3) sc_later_places.nd rfl (Or.inl rfl) (pe_ifExp (pt_cmpR op_eq (pv 2) (pe_gint T.RISING rfl) (nomark _)) (pe_op op_add (pv 1) pe_int) (pe_op op_sub (pv 1) pe_int)))
      (pss_cons (ps_if (pt_val (pe_fn G_is_mark (hr.mono (by decide)) rfl (pa_cons (pv 1) pa_nil))) (pss_one (ps_ret (pe_lst (pa_cons (pv 3) pa_nil)))) pss_nil)
      (pss_cons (ps_if (PW.pt (pw_or (pt_cmpR op_lt (pv 3) pe_int (nomark _)) (pw_or1 (pt_cmpR op_ge (pv 3) (pe_fn G_count_places (hr.mono (by decide)) rfl (pa_cons (pv 0) pa_nil)) (nomark _))))) (pss_one (ps_ret (pe_lst (pa_cons (pv 1) pa_nil)))) pss_nil)
      (pss_one (ps_ret (pe_lst (pa_cons (pv 1) (pa_cons (pv 3) pa_nil))))))))),?_⟩
    have one:(1:Nat)<=sizeLine:=by decide
    have two:(2:Nat)<=sizeLine:=by decide
    refine⟨_,rfl,rfl,_,rfl,ite_ii (fun c1=>?_) (fun c1=>?_)⟩
    · refine⟨_,rfl,one,fun q hq=>k _ q hq (Same.new hq) ?_⟩
      rw [nextI,if_pos c1]
      exact upd_same
    · refine⟨_,rfl,rfl,_,rfl,ite_ii (fun c2=>?_) (fun c2=>?_)⟩
      all_goals
        refine⟨_,rfl,_,_,rfl,rfl,_,rfl,p,rfl,_,rfl,ite_ii (fun c3=>?_) (fun c3=>?_)⟩
        · refine⟨_,rfl,one,fun q hq=>k _ q hq (Same.new hq) ?_⟩
          refine Eq.trans upd_same (congrArg (fun l=>some (HO.lst (List.map V.int l))) (?_:[_]=nextI m p d))
          unfold nextI
          grind
        · refine⟨_,rfl,_,_,rfl,rfl,_,rfl,ite_dec (fun c4=>iteT ?_) (fun c4=>?_)⟩
          · refine⟨_,rfl,one,fun q hq=>k _ q hq (Same.new hq) ?_⟩
            refine Eq.trans upd_same (congrArg (fun l=>some (HO.lst (List.map V.int l))) (?_:[_]=nextI m p d))
            unfold nextI
            grind
          · refine⟨_,rfl,_,rfl,m,rfl,_,_,rfl,rfl,_,rfl,ite_dec (fun c5=>?_) (fun c5=>?_)⟩
            · refine⟨_,rfl,one,fun q hq=>k _ q hq (Same.new hq) ?_⟩
              refine Eq.trans upd_same (congrArg (fun l=>some (HO.lst (List.map V.int l))) (?_:[_]=nextI m p d))
              unfold nextI
              grind
            · refine⟨_,rfl,_,rfl,two,fun q hq=>k _ q hq (Same.new hq) ?_⟩
              refine Eq.trans upd_same (congrArg (fun l=>some (HO.lst (List.map V.int l))) (?_:[_,_]=nextI m p d))
              unfold nextI
              grind
theorem inV_ints (z:Int):∀ l:List Int,inV (.int z) (l.map V.int)=l.contains z
  | []=>rfl
  | a::r=>by
    have ih:=inV_ints z r
    unfold inV at ih ⊢
    rw [List.map_cons,List.any_cons,ih,List.contains_cons]
    show ((a==z)||_)=((z==a)||_)
    rw [Bool.beq_comm]
theorem flat_ints:∀ l:List Int,(l.map V.int).all flatV=true
  | []=>rfl
  | a::r=>by
    rw [List.map_cons,List.all_cons,flat_ints r]
    rfl
theorem next_has {m:Nat}{x:Nat × Nat} (hx:x.1<=2*m) (hd:x.2<=2) (y:Nat):(nextI m x.1 x.2).contains (y:Int)=(Kri5.placesNext m x).contains y:=by
  obtain ⟨p,d⟩:=x
  unfold nextI Kri5.placesNext
  simp only at hx hd ⊢
  rw [Bool.eq_iff_iff]
  simp only [List.contains_iff_mem]
  have hd':d=0 \/ d=1 \/ d=2:=by omega
  rcases hd' with rfl | rfl | rfl
  · grind
  · grind
  · grind
def spPairFollows:L2.Sp:=fun vs H Q _=>∃ (m:Nat) (a b:Addr) (x y:Nat × Nat),vs=[.int m,.ref a,.ref b]/\H a=some (shP x)/\H b=some (shP y)/\x.1<=2*m/\x.2<=2/\y.2<=2 /\
  ∀ H':Hp,Same H H'->Q (.bl (Kri5.follows m x y)) H'
theorem ok_pair_follows (T:Top K mg) (D:DefAt K mg "pair_follows" s_pair_follows) (G_later_places:OkF P w K mg base 2 "later_places" ["marks","place","direction"] spLater) :
    OkF P w K mg base 3 "pair_follows" ["marks","pair","later"] spPairFollows:=by
  refine D.ok sc_pair_follows bi_pair_follows (fun vs H Q E h=>?_) (fun f cdv A outer s H vs Q E hr h=>?_)
  · obtain ⟨m,a,b,x,y,rfl,_⟩:=h
    rfl
  · obtain ⟨m,a,b,x,y,rfl,ha,hb,h1,h2,h3,k⟩:=h
    refine⟨_,(pss_cons (ps_if (pt_cmpR op_notIn_seq (pe_ix ix_list (pv 2) pe_int (fun _ _=>rfl)) (pe_fn G_later_places (hr.mono (by decide)) rfl (pa_cons (pv 0) (pa_cons (pe_ix ix_list (pv 1) pe_int (fun _ _=>rfl)) (pa_cons (pe_ix ix_list (pv 1) pe_int (fun _ _=>rfl)) pa_nil)))) (by with_unfolding_all rfl)) (pss_one (ps_ret pe_bl)) pss_nil)
      (pss_one (ps_ret (pe_cmpR op_le (pe_callB call_abs (by rfl) T.abs PyProof.Rows.boot_abs (pa_cons (pe_op op_sub (pe_ix ix_list (pv 2) pe_int (fun _ _=>rfl)) (pe_ix ix_list (pv 1) pe_int (fun _ _=>rfl))) pa_nil)) pe_int (nomark _))))),?_⟩
    refine⟨_,rfl,b,_,_,_,rfl,rfl,SqL.of hb,atI_nat (j:=0) rfl,_,rfl,_,rfl,a,_,_,_,rfl,rfl,SqL.of ha,atI_nat (j:=0) rfl,_,rfl,a,_,_,_,rfl,rfl,SqL.of ha,atI_nat (j:=1) rfl,m,x.1,x.2,rfl,fun H' q hq s' l=>?_⟩
    refine⟨q,_,rfl,.inl (SqL.of l),rfl,flat_ints _,_,rfl,?_⟩
    have e:inV (.int (y.1:Int)) ((nextI m x.1 x.2).map V.int)=(Kri5.placesNext m x).contains y.1:=by rw [inV_ints,next_has h1 h2]
    rw [if_pos rfl,e]
    refine ite_nb (fun c=>?_) (fun c=>?_)
    · have e2:Kri5.follows m x y=false:=by
        unfold Kri5.follows
        rw [c]
        rfl
      have k:=k H' s'
      rw [e2] at k
      exact k
    · refine⟨_,rfl,b,_,_,_,rfl,rfl,SqL.of (s' _ _ hb),atI_nat (j:=1) rfl,_,rfl,a,_,_,_,rfl,rfl,SqL.of (s' _ _ ha),atI_nat (j:=1) rfl,_,_,rfl,rfl,_,rfl,_,_,rfl,rfl,?_⟩
      have e2:Kri5.follows m x y=decide ((if (y.2:Int) - x.2<0 then -((y.2:Int) - x.2) else (y.2:Int) - x.2)<=1):=by
        unfold Kri5.follows
        rw [c,Bool.true_and]
        unfold Kri5.near
        rw [Bool.eq_iff_iff]
        simp only [Bool.and_eq_true,decide_eq_true_eq]
        split <;> omega
      have k:=k H' s'
      rw [e2] at k
      exact k
end
theorem flat_place {s:Kri6.State}{i:Nat} (h:i<s.length):(Kri6.flat s)[2*i]?=some ((Kri6.at_ s i).1:Int):=by
  induction s generalizing i with
  | nil=>simp at h
  | cons x r ih=>
    have e:Kri6.flat (x::r)=(x.1:Int)::(x.2:Int)::Kri6.flat r:=rfl
    cases i with
    | zero=>rw [e];rfl
    | succ j=>
      have h':j<r.length:=by simpa using h
      rw [e,show 2*(j+1)=2*j+1+1 by omega,List.getElem?_cons_succ,List.getElem?_cons_succ,ih h']
      rfl
theorem flat_dir {s:Kri6.State}{i:Nat} (h:i<s.length):(Kri6.flat s)[2*i+1]?=some ((Kri6.at_ s i).2:Int):=by
  induction s generalizing i with
  | nil=>simp at h
  | cons x r ih=>
    have e:Kri6.flat (x::r)=(x.1:Int)::(x.2:Int)::Kri6.flat r:=rfl
    cases i with
    | zero=>rw [e];rfl
    | succ j=>
      have h':j<r.length:=by simpa using h
      rw [e,show 2*(j+1)+1=2*j+1+1+1 by omega,List.getElem?_cons_succ,List.getElem?_cons_succ,ih h']
      rfl
theorem flat_length (s:Kri6.State):(Kri6.flat s).length=2*s.length:=by
  induction s with
  | nil=>rfl
  | cons x r ih=>
    have e:Kri6.flat (x::r)=(x.1:Int)::(x.2:Int)::Kri6.flat r:=rfl
    rw [e,List.length_cons,List.length_cons,ih,List.length_cons]
    omega
def shR:Kri6.Rule->HO
  | .more a b=>.tup [.str "more",.int a,.int b]
  | .less a b=>.tup [.str "less",.int a,.int b]
  | .sum a b c=>.tup [.str "sum_of",.int a,.int b,.int c]
  | .rate a j b=>.tup [.str "rate",.int a,.int j,.int b]
  | .still a=>.tup [.str "still",.int a]
  | .meet a j b k=>.tup [.str "meet",.int a,.int j,.int b,.int k]
def rqs:Kri6.Rule->List Nat
  | .more a b=>[a,b]
  | .less a b=>[a,b]
  | .sum a b c=>[a,b,c]
  | .rate a _ b=>[a,b]
  | .still a=>[a]
  | .meet a _ b _=>[a,b]
def RIn (n:Nat) (r:Kri6.Rule):Prop:=∀ q∈rqs r,q<n
def Dir (s:Kri6.State):Prop:=∀ i,(Kri6.at_ s i).2<=2
section
variable {P:Program}{w:World}{K:PySem.W.Frag}{mg:Str->Option Value}{base:Heap}
def spPlace:L2.Sp:=fun vs H Q _=>∃ (a:Addr) (s:Kri6.State) (i:Nat),vs=[.ref a,.int i]/\H a=some (shS s)/\i<s.length/\Q (.int (Kri6.at_ s i).1) H
def spDir:L2.Sp:=fun vs H Q _=>∃ (a:Addr) (s:Kri6.State) (i:Nat),vs=[.ref a,.int i]/\H a=some (shS s)/\i<s.length/\Q (.int (Kri6.at_ s i).2) H
theorem ok_place_of (D:DefAt K mg "place_of" s_place_of):OkF P w K mg base 1 "place_of" ["state","quantity"] spPlace:=by
  refine D.ok sc_place_of bi_place_of (fun vs H Q E h=>?_) (fun f cdv A outer s H vs Q E hr h=>?_)
  · obtain ⟨a,s,i,rfl,_⟩:=h
    rfl
  · obtain ⟨a,s,i,rfl,ha,hi,k⟩:=h
    refine⟨_,(pss_one (ps_ret (pe_ix ix_list (pv 0) (pe_op op_mul pe_int (pv 1)) (fun _ _=>rfl)))),?_⟩
    exact⟨_,rfl,_,rfl,_,_,rfl,rfl,.inl ⟨by decide,by decide⟩,a,_,_,_,rfl,rfl,SqL.of ha,at_of (j:=2*i) (by omega) (by rw [List.getElem?_map,flat_place hi];rfl),k⟩
theorem ok_direction_of (D:DefAt K mg "direction_of" s_direction_of):OkF P w K mg base 1 "direction_of" ["state","quantity"] spDir:=by
  refine D.ok sc_direction_of bi_direction_of (fun vs H Q E h=>?_) (fun f cdv A outer s H vs Q E hr h=>?_)
  · obtain ⟨a,s,i,rfl,_⟩:=h
    rfl
  · obtain ⟨a,s,i,rfl,ha,hi,k⟩:=h
    refine⟨_,(pss_one (ps_ret (pe_ix ix_list (pv 0) (pe_op op_add (pe_op op_mul pe_int (pv 1)) pe_int) (fun _ _=>rfl)))),?_⟩
    exact⟨_,rfl,_,rfl,_,_,rfl,rfl,.inl ⟨by decide,by decide⟩,_,_,rfl,rfl,a,_,_,_,rfl,rfl,SqL.of ha,at_of (j:=2*i+1) (by omega) (by rw [List.getElem?_map,flat_dir hi];rfl),k⟩
def spSide:L2.Sp:=fun vs H Q _=>∃ (a:Addr) (s:Kri6.State) (i j:Nat),vs=[.ref a,.int i,.int j]/\H a=some (shS s)/\i<s.length/\Q (.int (Kri6.side (Kri6.at_ s i).1 j)) H
theorem ok_side_of_mark (T:Top K mg) (D:DefAt K mg "side_of_mark" s_side_of_mark) (G_place_of:OkF P w K mg base 1 "place_of" ["state","quantity"] spPlace) (G_mark_place:OkF P w K mg base 1 "mark_place" ["mark"] spCount) :
    OkF P w K mg base 2 "side_of_mark" ["state","quantity","mark"] spSide:=by
  refine D.ok sc_side_of_mark bi_side_of_mark (fun vs H Q E h=>?_) (fun f cdv A outer s H vs Q E hr h=>?_)
  · obtain ⟨a,s,i,j,rfl,_⟩:=h
    rfl
  · obtain ⟨a,s,i,j,rfl,ha,hi,k⟩:=h
    refine⟨_,(pss_cons (ps_set (i:=3) sc_side_of_mark.nd rfl (Or.inl rfl) (pe_fn G_place_of (hr.mono (by decide)) rfl (pa_cons (pv 0) (pa_cons (pv 1) pa_nil))))
      (pss_cons (ps_if (pt_cmpR op_lt (pv 3) (pe_fn G_mark_place (hr.mono (by decide)) rfl (pa_cons (pv 2) pa_nil)) (nomark _)) (pss_one (ps_ret (pe_gint T.FALLING rfl))) pss_nil)
      (pss_cons (ps_if (pt_cmpR op_eq (pv 3) (pe_fn G_mark_place (hr.mono (by decide)) rfl (pa_cons (pv 2) pa_nil)) (nomark _)) (pss_one (ps_ret (pe_gint T.STEADY rfl))) pss_nil)
      (pss_one (ps_ret (pe_gint T.RISING rfl)))))),?_⟩
    refine⟨_,rfl,_,rfl,a,s,i,rfl,ha,hi,_,rfl,_,rfl,(j:Int),rfl,_,_,rfl,rfl,_,rfl,ite_dec (fun c=>?_) (fun c=>?_)⟩
    · have e:Kri6.side (Kri6.at_ s i).1 j=0:=by unfold Kri6.side;rw [if_pos (by omega)]
      rw [e] at k
      exact k
    · refine⟨_,rfl,_,rfl,(j:Int),rfl,rfl,_,rfl,ite_ii (fun c2=>?_) (fun c2=>?_)⟩
      · have e:Kri6.side (Kri6.at_ s i).1 j=1:=by unfold Kri6.side;rw [if_neg (by omega),if_pos (by omega)]
        rw [e] at k
        exact k
      · have e:Kri6.side (Kri6.at_ s i).1 j=2:=by unfold Kri6.side;rw [if_neg (by omega),if_neg (by omega)]
        rw [e] at k
        exact k
def spLess:L2.Sp:=fun vs H Q _=>∃ x y:Nat,vs=[.int x,.int y]/\x<=2/\y<=2/\Q (.bl (x+y==2)) H
theorem ok_less_holds (T:Top K mg) (D:DefAt K mg "less_holds" s_less_holds):OkF P w K mg base 1 "less_holds" ["one","other"] spLess:=by
  refine D.ok sc_less_holds bi_less_holds (fun vs H Q E h=>?_) (fun f cdv A outer s H vs Q E hr h=>?_)
  · obtain ⟨x,y,rfl,_⟩:=h
    rfl
  · obtain ⟨x,y,rfl,hx,hy,k⟩:=h
    refine⟨_,(pss_cons (ps_if (pt_cmpR op_eq (pv 0) (pe_gint T.STEADY rfl) (nomark _)) (pss_one (ps_ret (pe_cmpR op_eq (pv 1) (pe_gint T.STEADY rfl) (nomark _)))) pss_nil)
      (pss_one (ps_ret (pe_and (pe_cmpR op_ne (pv 1) (pe_gint T.STEADY rfl) (nomark _)) (pe_one (pe_cmpR op_ne (pv 0) (pv 1) (nomark _))))))),?_⟩
    refine⟨_,rfl,rfl,_,rfl,ite_ii (fun c=>?_) (fun c=>?_)⟩
    · refine⟨_,rfl,rfl,?_⟩
      have e:(x+y==2)=decide (V.int (y:Int)=V.int 1):=by rw [dII,Bool.eq_iff_iff];simp;omega
      rw [e] at k
      exact k
    · refine⟨_,rfl,rfl,_,rfl,ite_ni (fun c2=>?_) (fun c2=>?_)⟩
      · refine⟨_,rfl,_,rfl,rfl,?_⟩
        have e:(x+y==2)=!decide (V.int (x:Int)=V.int y):=by rw [dII,Bool.eq_iff_iff];simp;omega
        rw [e] at k
        exact k
      · have e:(x+y==2)=false:=by
          rw [Bool.eq_false_iff]
          simp
          omega
        rw [e] at k
        exact k
def spSum:L2.Sp:=fun vs H Q _=>∃ x y z:Nat,vs=[.int x,.int y,.int z]/\Q (.bl (Kri6.mayAdd x y z)) H
theorem ok_sum_holds (T:Top K mg) (D:DefAt K mg "sum_holds" s_sum_holds):OkF P w K mg base 1 "sum_holds" ["one","other","total"] spSum:=by
  refine D.ok sc_sum_holds bi_sum_holds (fun vs H Q E h=>?_) (fun f cdv A outer s H vs Q E hr h=>?_)
  · obtain ⟨x,y,z,rfl,_⟩:=h
    rfl
  · obtain ⟨x,y,z,rfl,k⟩:=h
    refine⟨_,(pss_cons (ps_if (pt_cmpR op_eq (pv 0) (pe_gint T.STEADY rfl) (nomark _)) (pss_one (ps_ret (pe_cmpR op_eq (pv 2) (pv 1) (nomark _)))) pss_nil)
      (pss_cons (ps_if (pt_cmpR op_eq (pv 1) (pe_gint T.STEADY rfl) (nomark _)) (pss_one (ps_ret (pe_cmpR op_eq (pv 2) (pv 0) (nomark _)))) pss_nil)
      (pss_cons (ps_if (pt_cmpR op_eq (pv 0) (pv 1) (nomark _)) (pss_one (ps_ret (pe_cmpR op_eq (pv 2) (pv 0) (nomark _)))) pss_nil)
      (pss_one (ps_ret pe_bl))))),?_⟩
    refine⟨_,rfl,rfl,_,rfl,ite_ii (fun c=>?_) (fun c=>?_)⟩
    · refine⟨_,rfl,_,rfl,rfl,?_⟩
      have e:Kri6.mayAdd x y z=decide (V.int (z:Int)=V.int y):=by unfold Kri6.mayAdd;rw [if_pos (by omega),dII,Bool.eq_iff_iff];simp;omega
      rw [e] at k
      exact k
    · refine⟨_,rfl,rfl,_,rfl,ite_ii (fun c2=>?_) (fun c2=>?_)⟩
      · refine⟨_,rfl,_,rfl,rfl,?_⟩
        have e:Kri6.mayAdd x y z=decide (V.int (z:Int)=V.int x):=by unfold Kri6.mayAdd;rw [if_neg (by omega),if_pos (by omega),dII,Bool.eq_iff_iff];simp;omega
        rw [e] at k
        exact k
      · refine⟨_,rfl,_,rfl,rfl,_,rfl,ite_ii (fun c3=>?_) (fun c3=>?_)⟩
        · refine⟨_,rfl,_,rfl,rfl,?_⟩
          have e:Kri6.mayAdd x y z=decide (V.int (z:Int)=V.int x):=by unfold Kri6.mayAdd;rw [if_neg (by omega),if_neg (by omega),if_pos (by omega),dII,Bool.eq_iff_iff];simp;omega
          rw [e] at k
          exact k
        · have e:Kri6.mayAdd x y z=true:=by unfold Kri6.mayAdd;rw [if_neg (by omega),if_neg (by omega),if_neg (by omega)]
          rw [e] at k
          exact k
def spRule:L2.Sp:=fun vs H Q _=>∃ (t a:Addr) (r:Kri6.Rule) (s:Kri6.State),vs=[.ref t,.ref a]/\H t=some (shR r)/\H a=some (shS s)/\RIn s.length r/\Dir s/\∀ H':Hp,Same H H'->Q (.bl (r.holds s)) H'
theorem dirs_lc {H1:Hp}{D a p:Addr}{s:Kri6.State}{qs:List Nat} (ha:H1 a=some (shS s)) (hq:∀ q∈qs,q<s.length) (hp:H1 p=some (.tup (qs.map fun (q:Nat)=>V.int q))) (hD:H1 D=none) (hlen:qs.length<=100)
    {σ:L2.St}{vs:List Nat}{g:TG}{te:TE}{Qd:Hp->Prop}
    (hturn:∀ (q:Nat) (H:Hp) (R:V->Hp->Prop),H a=some (shS s)->q<s.length->R (.int (Kri6.at_ s q).2) H->g (.int q) (wipe σ vs) H fun σ2 H2=>wipe σ2 vs=wipe σ vs/\te σ2 H2 R)
    (hd:∀ H,Same H1 H->H D=some (.lst (qs.map fun q=>V.int (Kri6.at_ s q).2))->Qd H) :
    ∃ W:Nat->Nat->Hp->Prop,(∃ m,W 0 m (L2.upd H1 D (.lst [])))/\∀ i m H,W i m H ->
      ((Itt K p).stop i H/\Qd H) \/ ((Itt K p).go i H/\∃ Nx:Hp->Prop,(∀ H',Nx H'->∃ m',m'<m/\W (i+1) m' H')/\∀ x H',(Itt K p).yld i H x H'->g x (wipe σ vs) H' fun σ2 H2=>wipe σ2 vs=wipe σ vs/\tYes σ2 H2 fun b H3=>
        if b=true then te σ2 H3 fun y H4=>∃ acc,H4 D=some (.lst acc)/\acc.length<sizeLine/\Nx (L2.upd H4 D (.lst (acc++[y]))) else Nx H3):=by
  refine lc_tup (K:=K) (a:=p) (xs:=qs.map fun (q:Nat)=>V.int q) (fun i H=>Same H1 H/\H D=some (.lst ((qs.take i).map fun q=>V.int (Kri6.at_ s q).2))) ⟨Same.new hD,upd_same⟩ (fun i H _ h=>SqT.of (h.1 _ _ hp)) ?_ ?_
  · rintro i x H hx ⟨s1,h1⟩
    obtain ⟨q,hq',rfl⟩:∃ q,qs[i]?=some q/\x=V.int q:=by
      rw [List.getElem?_map] at hx
      cases e:qs[i]? with
      | none=>rw [e] at hx;cases hx
      | some q=>rw [e] at hx;exact⟨q,rfl,(Option.some.inj hx).symm⟩
    have hlt:q<s.length:=hq q (List.mem_of_getElem? hq')
    refine hturn q H _ (s1 _ _ ha) hlt ?_
    refine⟨_,h1,line_lt (by rw [List.length_map,List.length_take];omega),Same.put s1 hD,?_⟩
    have e:qs.take (i+1)=qs.take i++[q]:=by rw [List.take_add_one,hq'];rfl
    rw [upd_same,e,List.map_append]
    rfl
  · rintro H ⟨s1,h1⟩
    refine hd H s1 ?_
    rw [h1,List.length_map,List.take_length]
theorem ok_rule_holds (T:Top K mg) (D:DefAt K mg "rule_holds" s_rule_holds) (G_direction_of:OkF P w K mg base 1 "direction_of" ["state","quantity"] spDir) (G_side_of_mark:OkF P w K mg base 2 "side_of_mark" ["state","quantity","mark"] spSide)
    (G_less_holds:OkF P w K mg base 1 "less_holds" ["one","other"] spLess) (G_sum_holds:OkF P w K mg base 1 "sum_holds" ["one","other","total"] spSum):OkF P w K mg base 3 "rule_holds" ["rule","state"] spRule:=by
  refine D.ok sc_rule_holds bi_rule_holds (fun vs H Q E h=>?_) (fun f cdv A outer s H vs Q E hr h=>?_)
  · obtain ⟨t,a,r,s,rfl,_⟩:=h
    rfl
  · obtain ⟨t,a,r,s,rfl,ht,ha,hin,hdir,k⟩:=h
    refine⟨_,(pss_cons (ps_set (i:=2) sc_rule_holds.nd rfl (Or.inl rfl) (pe_ix ix_tup (pv 0) pe_int (fun _ _=>rfl)))
      (pss_cons (ps_if (pt_cmpR op_eq (pv 2) pe_str (nomark _)) (pss_one (ps_ret (pe_cmpR op_eq (pe_fn G_direction_of (hr.mono (by decide)) rfl (pa_cons (pv 1) (pa_cons (pe_ix ix_tup (pv 0) pe_int (fun _ _=>rfl)) pa_nil))) (pe_fn G_side_of_mark (hr.mono (by decide)) rfl (pa_cons (pv 1) (pa_cons (pe_ix ix_tup (pv 0) pe_int (fun _ _=>rfl)) (pa_cons (pe_ix ix_tup (pv 0) pe_int (fun _ _=>rfl)) pa_nil)))) (nomark _)))) pss_nil)
      (pss_cons (ps_if (pt_cmpR op_eq (pv 2) pe_str (nomark _)) (pss_one (ps_ret (pe_cmpR op_eq (pe_fn G_side_of_mark (hr.mono (by decide)) rfl (pa_cons (pv 1) (pa_cons (pe_ix ix_tup (pv 0) pe_int (fun _ _=>rfl)) (pa_cons (pe_ix ix_tup (pv 0) pe_int (fun _ _=>rfl)) pa_nil)))) (pe_fn G_side_of_mark (hr.mono (by decide)) rfl (pa_cons (pv 1) (pa_cons (pe_ix ix_tup (pv 0) pe_int (fun _ _=>rfl)) (pa_cons (pe_ix ix_tup (pv 0) pe_int (fun _ _=>rfl)) pa_nil)))) (nomark _)))) pss_nil)
      (pss_cons (ps_setLc (i:=3) rfl sc_rule_holds.nd rfl rfl (sw_true rfl rfl rfl (by decide +kernel)) (pi_tup (pe_slice sl_tup (pv 0) (po_some pe_int) po_none)) (blkOk_by (own:=[("quantity",4)]) (by show blkC ["rule","state","kind","directions","quantity"] (defScope s_rule_holds) _ _=true;decide +kernel)) (fun _ _ _ _ _=>(pg_name (i:=4) sc_rule_holds.nd rfl (Or.inl rfl))) (fun _ _ _ _ _=>pts_nil) (fun _ _ _ _ _=>(pe_fn G_direction_of (hr.mono (by decide)) rfl (pa_cons (pv 1) (pa_cons (pv 4) pa_nil)))))
      (pss_cons (ps_if (pt_cmpR op_eq (pv 2) pe_str (nomark _)) (pss_one (ps_ret (pe_cmpR op_eq (pe_ix ix_list (pv 3) pe_int (fun _ _=>rfl)) (pe_ix ix_list (pv 3) pe_int (fun _ _=>rfl)) (nomark _)))) pss_nil)
      (pss_cons (ps_if (pt_cmpR op_eq (pv 2) pe_str (nomark _)) (pss_one (ps_ret (pe_fn G_less_holds (hr.mono (by decide)) rfl (pa_cons (pe_ix ix_list (pv 3) pe_int (fun _ _=>rfl)) (pa_cons (pe_ix ix_list (pv 3) pe_int (fun _ _=>rfl)) pa_nil))))) pss_nil)
      (pss_cons (ps_if (pt_cmpR op_eq (pv 2) pe_str (nomark _)) (pss_one (ps_ret (pe_fn G_sum_holds (hr.mono (by decide)) rfl (pa_cons (pe_ix ix_list (pv 3) pe_int (fun _ _=>rfl)) (pa_cons (pe_ix ix_list (pv 3) pe_int (fun _ _=>rfl)) (pa_cons (pe_ix ix_list (pv 3) pe_int (fun _ _=>rfl)) pa_nil)))))) pss_nil)
      (pss_one (ps_ret (pe_cmpR op_eq (pe_ix ix_list (pv 3) pe_int (fun _ _=>rfl)) (pe_gint T.STEADY rfl) (nomark _))))))))))),?_⟩
    have no:∀ {i j:Str}{A B:Prop},i≠j->B->if decide (V.str i=V.str j)=true then A else B:=fun h1 h2=>ite_ss (fun c=>absurd c h1) fun _=>h2
    have yes:∀ {i:Str}{A B:Prop},A->if decide (V.str i=V.str i)=true then A else B:=fun h1=>ite_ss (fun _=>h1) fun c=>absurd rfl c
    cases r with
    | rate x j y=>
      have hx:x<s.length:=hin x (by simp [rqs])
      have hy:y<s.length:=hin y (by simp [rqs])
      refine⟨_,rfl,t,_,_,_,rfl,rfl,SqT.of ht,atI_nat (j:=0) rfl,?_⟩
      refine⟨_,rfl,rfl,_,rfl,yes ?_⟩
      refine⟨_,rfl,_,rfl,t,_,_,_,rfl,rfl,SqT.of ht,atI_nat (j:=3) rfl,a,s,y,rfl,ha,hy,?_⟩
      refine⟨_,rfl,_,rfl,t,_,_,_,rfl,rfl,SqT.of ht,atI_nat (j:=1) rfl,_,rfl,t,_,_,_,rfl,rfl,SqT.of ht,atI_nat (j:=2) rfl,a,s,x,j,rfl,ha,hx,rfl,?_⟩
      have k:=k H (Same.refl H)
      have e:Kri6.Rule.holds s (.rate x j y)=decide (V.int ((Kri6.at_ s y).2:Int)=V.int (Kri6.side (Kri6.at_ s x).1 j:Nat)):=by
        rw [dII,Bool.eq_iff_iff];unfold Kri6.Rule.holds;simp;omega
      rw [e] at k
      exact k
    | meet x j y l=>
      have hx:x<s.length:=hin x (by simp [rqs])
      have hy:y<s.length:=hin y (by simp [rqs])
      refine⟨_,rfl,t,_,_,_,rfl,rfl,SqT.of ht,atI_nat (j:=0) rfl,?_⟩
      refine⟨_,rfl,rfl,_,rfl,no (by decide +kernel) ?_⟩
      refine⟨_,rfl,rfl,_,rfl,yes ?_⟩
      refine⟨_,rfl,_,rfl,t,_,_,_,rfl,rfl,SqT.of ht,atI_nat (j:=1) rfl,_,rfl,t,_,_,_,rfl,rfl,SqT.of ht,atI_nat (j:=2) rfl,a,s,x,j,rfl,ha,hx,?_⟩
      refine⟨_,rfl,_,rfl,t,_,_,_,rfl,rfl,SqT.of ht,atI_nat (j:=3) rfl,_,rfl,t,_,_,_,rfl,rfl,SqT.of ht,atI_nat (j:=4) rfl,a,s,y,l,rfl,ha,hy,rfl,?_⟩
      have k:=k H (Same.refl H)
      have e:Kri6.Rule.holds s (.meet x j y l)=decide (V.int (Kri6.side (Kri6.at_ s x).1 j:Nat)=V.int (Kri6.side (Kri6.at_ s y).1 l:Nat)):=by
        rw [dII,Bool.eq_iff_iff];unfold Kri6.Rule.holds;simp;omega
      rw [e] at k
      exact k
    | more x y=>
      have hx:x<s.length:=hin x (by simp [rqs])
      have hy:y<s.length:=hin y (by simp [rqs])
      refine⟨_,rfl,t,_,_,_,rfl,rfl,SqT.of ht,atI_nat (j:=0) rfl,?_⟩
      refine⟨_,rfl,rfl,_,rfl,no (by decide +kernel) ?_⟩
      refine⟨_,rfl,rfl,_,rfl,no (by decide +kernel) ?_⟩
      refine⟨_,rfl,_,rfl,t,_,rfl,SqT.of ht,(fun z=>absurd (show (1:Nat)=0 from z.1) (by decide)),fun p hp=>⟨p,rfl,⟨_,SqT.of upd_same⟩,fun Dl hDl=>?_⟩⟩
      refine dirs_lc (K:=K) (qs:=[x,y]) (a:=a) (s:=s) (by rw [upd_ne (ne_of_none ha hp)];exact ha) hin upd_same hDl (by simp) (fun q H3 R h3 hq hR=>⟨rfl,_,rfl,_,rfl,a,s,q,rfl,h3,hq,hR⟩) (fun H3 s3 h3=>?_)
      have s4:Same H H3:=(Same.new hp).trans s3
      refine⟨_,rfl,rfl,_,rfl,yes ?_⟩
      refine⟨_,rfl,Dl,_,_,_,rfl,rfl,SqL.of h3,atI_nat (j:=0) rfl,_,rfl,Dl,_,_,_,rfl,rfl,SqL.of h3,atI_nat (j:=1) rfl,rfl,?_⟩
      have k:=k H3 s4
      have e:Kri6.Rule.holds s (.more x y)=decide (V.int ((Kri6.at_ s x).2:Int)=V.int (Kri6.at_ s y).2):=by
        rw [dII,Bool.eq_iff_iff];unfold Kri6.Rule.holds;simp;omega
      rw [e] at k
      exact k
    | less x y=>
      have hx:x<s.length:=hin x (by simp [rqs])
      have hy:y<s.length:=hin y (by simp [rqs])
      refine⟨_,rfl,t,_,_,_,rfl,rfl,SqT.of ht,atI_nat (j:=0) rfl,?_⟩
      refine⟨_,rfl,rfl,_,rfl,no (by decide +kernel) ?_⟩
      refine⟨_,rfl,rfl,_,rfl,no (by decide +kernel) ?_⟩
      refine⟨_,rfl,_,rfl,t,_,rfl,SqT.of ht,(fun z=>absurd (show (1:Nat)=0 from z.1) (by decide)),fun p hp=>⟨p,rfl,⟨_,SqT.of upd_same⟩,fun Dl hDl=>?_⟩⟩
      refine dirs_lc (K:=K) (qs:=[x,y]) (a:=a) (s:=s) (by rw [upd_ne (ne_of_none ha hp)];exact ha) hin upd_same hDl (by simp) (fun q H3 R h3 hq hR=>⟨rfl,_,rfl,_,rfl,a,s,q,rfl,h3,hq,hR⟩) (fun H3 s3 h3=>?_)
      have s4:Same H H3:=(Same.new hp).trans s3
      refine⟨_,rfl,rfl,_,rfl,no (by decide +kernel) ?_⟩
      refine⟨_,rfl,rfl,_,rfl,yes ?_⟩
      refine⟨_,rfl,Dl,_,_,_,rfl,rfl,SqL.of h3,atI_nat (j:=0) rfl,_,rfl,Dl,_,_,_,rfl,rfl,SqL.of h3,atI_nat (j:=1) rfl,_,_,rfl,hdir x,hdir y,?_⟩
      exact k H3 s4
    | sum x y z=>
      have hx:x<s.length:=hin x (by simp [rqs])
      have hy:y<s.length:=hin y (by simp [rqs])
      have hz:z<s.length:=hin z (by simp [rqs])
      refine⟨_,rfl,t,_,_,_,rfl,rfl,SqT.of ht,atI_nat (j:=0) rfl,?_⟩
      refine⟨_,rfl,rfl,_,rfl,no (by decide +kernel) ?_⟩
      refine⟨_,rfl,rfl,_,rfl,no (by decide +kernel) ?_⟩
      refine⟨_,rfl,_,rfl,t,_,rfl,SqT.of ht,(fun z=>absurd (show (1:Nat)=0 from z.1) (by decide)),fun p hp=>⟨p,rfl,⟨_,SqT.of upd_same⟩,fun Dl hDl=>?_⟩⟩
      refine dirs_lc (K:=K) (qs:=[x,y,z]) (a:=a) (s:=s) (by rw [upd_ne (ne_of_none ha hp)];exact ha) hin upd_same hDl (by simp) (fun q H3 R h3 hq hR=>⟨rfl,_,rfl,_,rfl,a,s,q,rfl,h3,hq,hR⟩) (fun H3 s3 h3=>?_)
      have s4:Same H H3:=(Same.new hp).trans s3
      refine⟨_,rfl,rfl,_,rfl,no (by decide +kernel) ?_⟩
      refine⟨_,rfl,rfl,_,rfl,no (by decide +kernel) ?_⟩
      refine⟨_,rfl,rfl,_,rfl,yes ?_⟩
      refine⟨_,rfl,Dl,_,_,_,rfl,rfl,SqL.of h3,atI_nat (j:=0) rfl,_,rfl,Dl,_,_,_,rfl,rfl,SqL.of h3,atI_nat (j:=1) rfl,_,rfl,Dl,_,_,_,rfl,rfl,SqL.of h3,atI_nat (j:=2) rfl,_,_,_,rfl,?_⟩
      exact k H3 s4
    | still x=>
      have hx:x<s.length:=hin x (by simp [rqs])
      refine⟨_,rfl,t,_,_,_,rfl,rfl,SqT.of ht,atI_nat (j:=0) rfl,?_⟩
      refine⟨_,rfl,rfl,_,rfl,no (by decide +kernel) ?_⟩
      refine⟨_,rfl,rfl,_,rfl,no (by decide +kernel) ?_⟩
      refine⟨_,rfl,_,rfl,t,_,rfl,SqT.of ht,(fun z=>absurd (show (1:Nat)=0 from z.1) (by decide)),fun p hp=>⟨p,rfl,⟨_,SqT.of upd_same⟩,fun Dl hDl=>?_⟩⟩
      refine dirs_lc (K:=K) (qs:=[x]) (a:=a) (s:=s) (by rw [upd_ne (ne_of_none ha hp)];exact ha) hin upd_same hDl (by simp) (fun q H3 R h3 hq hR=>⟨rfl,_,rfl,_,rfl,a,s,q,rfl,h3,hq,hR⟩) (fun H3 s3 h3=>?_)
      have s4:Same H H3:=(Same.new hp).trans s3
      refine⟨_,rfl,rfl,_,rfl,no (by decide +kernel) ?_⟩
      refine⟨_,rfl,rfl,_,rfl,no (by decide +kernel) ?_⟩
      refine⟨_,rfl,rfl,_,rfl,no (by decide +kernel) ?_⟩
      refine⟨_,rfl,Dl,_,_,_,rfl,rfl,SqL.of h3,atI_nat (j:=0) rfl,rfl,?_⟩
      have k:=k H3 s4
      have e:Kri6.Rule.holds s (.still x)=decide (V.int ((Kri6.at_ s x).2:Int)=V.int 1):=by
        rw [dII,Bool.eq_iff_iff];unfold Kri6.Rule.holds;simp;omega
      rw [e] at k
      exact k
end
theorem map_at {α β:Type}{f:α->β}{l:List α}{i:Nat}{x:β} (h:(l.map f)[i]?=some x):∃ b,l[i]?=some b/\x=f b:=by
  rw [List.getElem?_map] at h
  cases e:l[i]? with
  | none=>rw [e] at h;cases h
  | some b=>rw [e] at h;exact⟨b,rfl,(Option.some.inj h).symm⟩
theorem take_snoc {α:Type}{l:List α}{i:Nat}{x:α} (h:l[i]?=some x):l.take (i+1)=l.take i++[x]:=by
  rw [List.take_add_one,h];rfl
theorem at_lt {α:Type}{l:List α}{i:Nat}{x:α} (h:l[i]?=some x):i<l.length:=(List.getElem?_eq_some_iff.mp h).1
def cross (sts:List Kri6.State) (ps:List (Nat × Nat)):List Kri6.State:=sts.flatMap fun s=>ps.map fun x=>s++[x]
theorem cross_len (sts:List Kri6.State) (ps:List (Nat × Nat)):(cross sts ps).length=sts.length*ps.length:=by
  unfold cross
  simp [List.length_flatMap,List.map_const',List.sum_replicate_nat]
theorem cross_snoc (sts:List Kri6.State) (s:Kri6.State) (ps:List (Nat × Nat)):cross (sts++[s]) ps=cross sts ps++ps.map fun x=>s++[x]:=by
  unfold cross
  rw [List.flatMap_append,List.flatMap_singleton]
theorem rowsOf_snoc (l:List (Nat × Nat)):∀ ls:List (List (Nat × Nat)),Kri6.rowsOf (ls++[l])=cross (Kri6.rowsOf ls) l
  | []=>by
    simp [Kri6.rowsOf,cross]
    induction l with
    | nil=>rfl
    | cons a r ih=>simp [ih]
  | a::r=>by
    have ih:=rowsOf_snoc l r
    show (a.flatMap fun x=>(Kri6.rowsOf (r++[l])).map fun s=>x::s)=cross (a.flatMap fun x=>(Kri6.rowsOf r).map fun s=>x::s) l
    rw [ih]
    unfold cross
    rw [List.flatMap_assoc]
    congr 1
    funext x
    rw [List.map_flatMap,List.flatMap_map]
    congr 1
    funext s
    rw [List.map_map]
    rfl
def rows (ms:List Nat):List Kri6.State:=Kri6.rowsOf (ms.map Kri5.pairsOf)
theorem rows_snoc (ms:List Nat) (m:Nat):rows (ms++[m])=cross (rows ms) (Kri5.pairsOf m):=by
  unfold rows
  rw [List.map_append,List.map_cons,List.map_nil,rowsOf_snoc]
theorem rows_len:∀ ms:List Nat,(rows ms).length=(ms.map fun m=>(2*m+1)*3).foldr (·*·) 1
  | []=>rfl
  | m::r=>by
    have ih:=rows_len r
    have e:rows (m::r)=(Kri5.pairsOf m).flatMap fun x=>(rows r).map fun s=>x::s:=rfl
    rw [e]
    simp only [List.length_flatMap,List.length_map,List.map_const',List.sum_replicate_nat,ih,List.map_cons,List.foldr_cons,pairs_len]
theorem pairs_mem {m:Nat}{x:Nat × Nat}:x∈Kri5.pairsOf m↔x.1<=2*m/\x.2<=2:=by
  unfold Kri5.pairsOf
  obtain ⟨p,d⟩:=x
  simp only [List.mem_flatMap,List.mem_range,List.mem_map,Prod.mk.injEq]
  constructor
  · rintro ⟨a,h1,b,h2,rfl,rfl⟩
    omega
  · rintro ⟨h1,h2⟩
    exact⟨p,by omega,d,by omega,rfl,rfl⟩
def IsSt (ms:List Nat) (s:Kri6.State):Prop:=s.length=ms.length/\∀ (i:Nat) (x:Nat × Nat) (m:Nat),s[i]?=some x->ms[i]?=some m->x.1<=2*m/\x.2<=2
theorem rows_mem:∀ {ms:List Nat}{s:Kri6.State},s∈rows ms↔IsSt ms s
  | [],s=>by
    show s∈[[]]↔_
    unfold IsSt
    constructor
    · intro h
      have h:=List.mem_singleton.mp h
      subst h
      exact⟨rfl,fun i x m h=>by simp at h⟩
    · rintro ⟨h,_⟩
      have:s=[]:=List.eq_nil_of_length_eq_zero h
      rw [this];exact List.mem_singleton.mpr rfl
  | m::r,s=>by
    have e:rows (m::r)=(Kri5.pairsOf m).flatMap fun x=>(rows r).map fun s=>x::s:=rfl
    rw [e]
    simp only [List.mem_flatMap,List.mem_map]
    constructor
    · rintro ⟨x,hx,t,ht,rfl⟩
      obtain ⟨h1,h2⟩:=rows_mem.mp ht
      refine⟨by simp [h1],fun i y n hy hn=>?_⟩
      cases i with
      | zero=>
        simp at hy hn
        subst hy hn
        exact pairs_mem.mp hx
      | succ j=>exact h2 j y n (by simpa using hy) (by simpa using hn)
    · rintro ⟨h1,h2⟩
      cases s with
      | nil=>simp at h1
      | cons x t=>
        refine⟨x,pairs_mem.mpr (h2 0 x m rfl rfl),t,rows_mem.mpr ⟨by simpa using h1,fun i y n hy hn=>h2 (i+1) y n (by simpa using hy) (by simpa using hn)⟩,rfl⟩
theorem IsSt.dir {ms:List Nat}{s:Kri6.State} (h:IsSt ms s):Dir s:=fun i=>by
  unfold Kri6.at_
  rw [List.getD_eq_getElem?_getD]
  cases e:s[i]? with
  | none=>decide
  | some x=>
    have hi:=at_lt e
    have hm:i<ms.length:=by rw [<- h.1];exact hi
    exact (h.2 i x _ e (List.getElem?_eq_getElem hm)).2
theorem flat_app (s:Kri6.State) (x:Nat × Nat):(Kri6.flat (s++[x])).map V.int=(Kri6.flat s).map V.int++[.int x.1,.int x.2]:=by
  unfold Kri6.flat
  rw [List.flatMap_append,List.flatMap_singleton,List.map_append]
  rfl
section
variable {P:Program}{w:World}{K:PySem.W.Frag}{mg:Str->Option Value}{base:Heap}
def spAddPairs:L2.Sp:=fun vs H Q _=>∃ (a b:Addr) (sts:List Kri6.State) (ps:List (Nat × Nat)),vs=[.ref a,.ref b]/\LR shS H a sts/\LR shP H b ps/\sts.length*ps.length<=1000000/\(∀ s∈sts,s.length<=1000) /\
  ∀ (H':Hp) (p:Addr),H p=none->Same H H'->LR shS H' p (cross sts ps)->Q (.ref p) H'
theorem ok_add_pairs (T:Top K mg) (D:DefAt K mg "add_pairs" s_add_pairs):OkF P w K mg base 1 "add_pairs" ["states","pairs"] spAddPairs:=by
  refine D.ok sc_add_pairs bi_add_pairs (fun vs H Q E h=>?_) (fun f cdv A outer s H vs Q E hr h=>?_)
  · obtain ⟨a,b,sts,ps,rfl,_⟩:=h
    rfl
  · obtain ⟨a,b,sts,ps,rfl,ha,hb,hlen,hsl,k⟩:=h
    refine⟨_,(pss_cons (ps_set (i:=2) sc_add_pairs.nd rfl (Or.inl rfl) (pe_lst pa_nil))
      (pss_cons (ps_for PassesOwn.never rfl (pi_list (pv 0)) (pg_name (i:=3) sc_add_pairs.nd rfl (Or.inl rfl))
        (pss_one (ps_for PassesOwn.never rfl (pi_list (pv 1)) (pg_name (i:=4) sc_add_pairs.nd rfl (Or.inl rfl))
        (pss_one (ps_expr (pe_bm PySem.F.plainAttrs_list PySem.F.slot_list_append PySem.F.type_list_append mt_append (pv 2) (pa_cons (pe_op op_cat (pv 3) (pv 4)) pa_nil)))))))
      (pss_one (ps_ret (pv 2))))),?_⟩
    obtain ⟨as,a1,a2,a3,a4⟩:=ha.sq (K:=K)
    obtain ⟨bs,b1,b2,b3,b4⟩:=hb.sq (K:=K)
    refine⟨Nat.zero_le _,fun p hp=>?_⟩
    have s0:Same H (L2.upd H p (.lst [])):=Same.new hp
    refine⟨_,rfl,a,rfl,⟨_,s0.seq a1⟩,?_⟩
    refine for_list (K:=K) (a:=a) (xs:=as.map V.ref) (fun i σ H'=>∃ v3 v4:Option V,σ=[some (.ref a),some (.ref b),some (.ref p),v3,v4]/\Same H H'/\LR shS H' p (cross (sts.take i) ps))
      ⟨none,none,rfl,s0,LR.nil upd_same⟩ (fun i σ H' _ ⟨_,_,_,s1,_⟩=>s1.seq a1) ?_ ?_
    · rintro i x σ H1 hi ⟨v3,v4,rfl,s1,l1⟩
      obtain ⟨c,hc,rfl⟩:=map_at hi
      obtain ⟨st,hst,hcs⟩:=paired_getL a4 hc
      refine⟨_,rfl,b,rfl,⟨_,s1.seq b1⟩,?_⟩
      refine for_list (K:=K) (a:=b) (xs:=bs.map V.ref) (fun j σ H'=>∃ v4:Option V,σ=[some (.ref a),some (.ref b),some (.ref p),some (.ref c),v4]/\Same H H'/\LR shS H' p (cross (sts.take i) ps++(ps.take j).map fun x=>st++[x]))
        ⟨v4,rfl,s1,by simpa using l1⟩ (fun i σ H' _ ⟨_,_,s1,_⟩=>s1.seq b1) ?_ ?_
      · rintro j y σ H2 hj ⟨v4,rfl,s2,l2⟩
        obtain ⟨e,he,rfl⟩:=map_at hj
        obtain ⟨x,hx,hex⟩:=paired_getL b4 he
        obtain ⟨zs,z1,_⟩:=l2.sq (K:=K)
        refine⟨_,rfl,.inl ⟨rfl,_,z1⟩,?_⟩
        refine⟨_,rfl,_,rfl,c,e,_,_,rfl,rfl,s2 _ _ hcs,s2 _ _ hex,?_,fun q hq=>?_⟩
        · have:=hsl st (List.mem_of_getElem? hst)
          refine line_le ?_
          rw [List.length_map,flat_length]
          show _+2<=_
          omega
        · have l3:LR shS (L2.upd H2 q (.lst ((Kri6.flat st).map V.int++[.int x.1,.int x.2]))) p _:=l2.same (Same.new hq)
          have hqp:q≠p:=by
            obtain ⟨_,h1,_⟩:=l2
            exact fun z=>by rw [z,h1] at hq;cases hq
          have hn:L2.upd H2 q (.lst ((Kri6.flat st).map V.int++[.int x.1,.int x.2])) q=some (shS (st++[x])):=by
            rw [upd_same,shS,flat_app]
          obtain ⟨ws,e1,e2,e3⟩:=LR.app shS_no l3 hn hqp
          refine⟨p,_,_,rfl,rfl,e1,line_lt ?_,?_⟩
          · rw [List.length_map,e2,List.length_append,cross_len,List.length_map,List.length_take,List.length_take]
            have h1:=at_lt hst
            have h2:=at_lt hx
            have h3:(i+1)*ps.length<=sts.length*ps.length:=Nat.mul_le_mul_right _ h1
            rw [Nat.add_mul,Nat.one_mul] at h3
            have h4:min i sts.length=i:=by omega
            rw [h4]
            omega
          · refine⟨_,rfl,Same.put (Same.upd s2 hq) hp,?_⟩
            rw [take_snoc hx,List.map_append,<- List.append_assoc]
            exact e3
      · rintro σ H2 ⟨v4,rfl,s2,l2⟩
        refine⟨_,_,rfl,s2,?_⟩
        rw [take_snoc hst,cross_snoc]
        rw [List.length_map,b3,List.take_length] at l2
        exact l2
    · rintro σ H1 ⟨v3,v4,rfl,s1,l1⟩
      refine⟨_,rfl,k H1 p hp s1 ?_⟩
      rw [List.length_map,a3,List.take_length] at l1
      exact l1
end
def LN (H:Hp) (a:Addr) (ns:List Nat):Prop:=H a=some (.lst (ns.map fun (n:Nat)=>V.int n))
def MOk (ms:List Nat):Prop:=ms.length<=4/\∀ m∈ms,m<=3
theorem rows_cons (m:Nat) (r:List Nat):(rows (m::r)).length=(2*m+1)*3*(rows r).length:=by
  rw [rows_len,rows_len];rfl
theorem rows_pow:∀ ms:List Nat,(∀ m∈ms,m<=3)->(rows ms).length<=21 ^ ms.length
  | [],_=>by decide
  | m::r,h=>by
    have ih:=rows_pow r fun x hx=>h x (List.mem_cons_of_mem _ hx)
    have hm:m<=3:=h m List.mem_cons_self
    rw [rows_cons,List.length_cons,Nat.pow_succ,Nat.mul_comm]
    exact Nat.mul_le_mul ih (by omega)
theorem MOk.few {ms:List Nat} (h:MOk ms):(rows ms).length<=194481:=by
  refine Nat.le_trans (rows_pow ms h.2) ?_
  have:21 ^ ms.length<=21 ^ 4:=Nat.pow_le_pow_right (by decide) h.1
  simpa using this
theorem MOk.take {ms:List Nat} (h:MOk ms) (i:Nat):MOk (ms.take i):=⟨by rw [List.length_take];have:=h.1;omega,fun m hm=>h.2 m (List.mem_of_mem_take hm)⟩
theorem wipe_back {σ:L2.St}{i:Nat}{v:Option V}:wipe ((wipe σ [i]).set i v) [i]=wipe σ [i]:=by
  show ((σ.set i none).set i v).set i none=σ.set i none
  rw [List.set_set,List.set_set]
theorem wipe_got {σ:L2.St}{i:Nat}{v:V} (h:i<σ.length):((wipe σ [i]).set i (some v))[i]?=some (some v):=by
  show ((σ.set i none).set i (some v))[i]?=_
  rw [List.getElem?_set_self (by rw [List.length_set];exact h)]
section
variable {P:Program}{w:World}{K:PySem.W.Frag}{mg:Str->Option Value}{base:Heap}
theorem filter_lc {α:Type}{sh:α->HO} (nr:NoRef sh) {H1:Hp}{D a:Addr}{xs:List α} (hl:LR sh H1 a xs) (hD:H1 D=none) (hlen:xs.length<=1000000) {σ:L2.St}{i:Nat} (hi:i<σ.length) {tt:TT}{Qd:Hp->Prop} (f:α->Bool)
    (htt:∀ (b:Addr) (x:α) (H:Hp) (R:Bool->Hp->Prop),Same H1 H->x∈xs->H b=some (sh x)->(∀ H',Same H H'->R (f x) H')->tt ((wipe σ [i]).set i (some (.ref b))) H R)
    (hd:∀ H,Same H1 H->LR sh H D (xs.filter f)->Qd H) :
    (∃ ys,SqL K H1 a ys)/\∃ W:Nat->Nat->Hp->Prop,(∃ m,W 0 m (L2.upd H1 D (.lst [])))/\∀ j m H,W j m H ->
      ((Itl K a).stop j H/\Qd H) \/ ((Itl K a).go j H/\∃ Nx:Hp->Prop,(∀ H',Nx H'->∃ m',m'<m/\W (j+1) m' H')/\∀ x H',(Itl K a).yld j H x H'->gName i x (wipe σ [i]) H' fun σ2 H2=>wipe σ2 [i]=wipe σ [i]/\tt σ2 H2 fun b H3=>
        if b=true then tVar i σ2 H3 fun y H4=>∃ acc,H4 D=some (.lst acc)/\acc.length<sizeLine/\Nx (L2.upd H4 D (.lst (acc++[y]))) else Nx H3):=by
  obtain ⟨as,a1,a2,a3,a4⟩:=hl.sq (K:=K)
  refine⟨⟨_,a1⟩,lc_list (K:=K) (a:=a) (xs:=as.map V.ref) (fun j H=>Same H1 H/\LR sh H D ((xs.take j).filter f)) ⟨Same.new hD,LR.nil upd_same⟩ (fun j H _ h=>h.1.seq a1) ?_ ?_⟩
  · rintro j x H hx ⟨s1,l1⟩
    obtain ⟨b,hb,rfl⟩:=map_at hx
    obtain ⟨y,hy,hby⟩:=paired_getL a4 hb
    refine⟨wipe_back,htt b y H _ s1 (List.mem_of_getElem? hy) (s1 _ _ hby) fun H3 s3=>ite_b (fun c=>?_) (fun c=>?_)⟩
    · refine⟨_,wipe_got hi,?_⟩
      have s4:Same H1 H3:=s1.trans s3
      obtain ⟨ws,e1,e2,e3⟩:=LR.app nr (l1.same s3) (s4 _ _ hby) (ne_of_none hby hD)
      refine⟨_,e1,line_lt ?_,Same.put s4 hD,?_⟩
      · rw [List.length_map,e2]
        have q1:((xs.take j).filter f).length<=(xs.take j).length:=List.length_filter_le _ _
        rw [List.length_take] at q1
        omega
      · rw [take_snoc hy,List.filter_append]
        have e:[y].filter f=[y]:=by simp [c]
        rw [e]
        exact e3
    · refine⟨s1.trans s3,?_⟩
      rw [take_snoc hy,List.filter_append]
      have e:[y].filter f=[]:=by simp [c]
      rw [e,List.append_nil]
      exact l1.same s3
  · rintro H ⟨s1,l1⟩
    rw [List.length_map,a3,List.take_length] at l1
    exact hd H s1 l1
def spStates:L2.Sp:=fun vs H Q _=>∃ (a:Addr) (ms:List Nat),vs=[.ref a]/\LN H a ms/\MOk ms/\∀ (H':Hp) (p:Addr),H p=none->Same H H'->LR shS H' p (rows ms)->Q (.ref p) H'
theorem ok_list_states (T:Top K mg) (D:DefAt K mg "list_states" s_list_states) (G_list_pairs:OkF P w K mg base 2 "list_pairs" ["marks"] spPairs) (G_add_pairs:OkF P w K mg base 1 "add_pairs" ["states","pairs"] spAddPairs) :
    OkF P w K mg base 3 "list_states" ["marks"] spStates:=by
  refine D.ok sc_list_states bi_list_states (fun vs H Q E h=>?_) (fun f cdv A outer s H vs Q E hr h=>?_)
  · obtain ⟨a,ms,rfl,_⟩:=h
    rfl
  · obtain ⟨a,ms,rfl,ha,hm,k⟩:=h
    refine⟨_,(pss_cons (ps_set (i:=1) sc_list_states.nd rfl (Or.inl rfl) (pe_lst (pa_cons (pe_lst pa_nil) pa_nil)))
      (pss_cons (ps_for PassesOwn.never rfl (pi_list (pv 0)) (pg_name (i:=2) sc_list_states.nd rfl (Or.inl rfl))
        (pss_one (ps_set (i:=1) sc_list_states.nd rfl (Or.inl rfl) (pe_fn G_add_pairs (hr.mono (by decide)) rfl (pa_cons (pv 1) (pa_cons (pe_fn G_list_pairs (hr.mono (by decide)) rfl (pa_cons (pv 2) pa_nil)) pa_nil))))))
      (pss_one (ps_ret (pv 1))))),?_⟩
    refine⟨Nat.zero_le _,fun p0 hp0=>⟨(by show 1<=sizeLine;decide),fun p1 hp1=>?_⟩⟩
    have s1:Same H (L2.upd (L2.upd H p0 (.lst [])) p1 (.lst [.ref p0])):=Same.upd (Same.new hp0) hp1
    have e01:p0≠p1:=fun z=>by subst z;rw [upd_same] at hp1;cases hp1
    refine⟨_,rfl,a,rfl,⟨_,SqL.of (s1 _ _ ha)⟩,?_⟩
    have hfree:∀ {q:Addr}{H':Hp},Same H H'->H' q=none->H q=none:=fun e h=>e.free h
    refine for_list (K:=K) (a:=a) (xs:=ms.map fun (n:Nat)=>V.int n) (fun i σ H'=>∃ (p:Addr) (v2:Option V),σ=[some (.ref a),some (.ref p),v2]/\H p=none/\Same H H'/\LR shS H' p (rows (ms.take i)))
      ⟨p1,none,rfl,(by rw [upd_ne (fun z=>e01 z.symm)] at hp1;exact hp1),s1,[p0],upd_same,.cons ?_ .nil⟩ (fun i σ H' _ ⟨_,_,_,_,s1,_⟩=>SqL.of (s1 _ _ ha)) ?_ ?_
    · rw [upd_ne e01,upd_same];rfl
    · rintro i x σ H1 hi ⟨p,v2,rfl,hp,s2,l2⟩
      obtain ⟨m,hmi,rfl⟩:=map_at hi
      have hm3:m<=3:=hm.2 m (List.mem_of_getElem? hmi)
      refine⟨_,rfl,_,rfl,m,rfl,by omega,fun H2 q hq s3 l3=>?_⟩
      refine⟨p,q,_,_,rfl,l2.same s3,l3,?_,?_,fun H3 r hr3 s4 l4=>?_⟩
      · have h1:=(hm.take (i+1)).few
        rw [take_snoc hmi,rows_snoc,cross_len] at h1
        omega
      · intro s hs
        have h1:=(rows_mem.mp hs).1
        have h2:=(hm.take i).1
        omega
      · refine⟨r,_,rfl,(s2.trans s3).free hr3,(s2.trans s3).trans s4,?_⟩
        rw [take_snoc hmi,rows_snoc]
        exact l4
    · rintro σ H1 ⟨p,v2,rfl,hp,s2,l2⟩
      refine⟨_,rfl,k H1 p hp s2 ?_⟩
      rw [List.length_map,List.take_length] at l2
      exact l2
def fitOf (ms:List Nat) (rs:List Kri6.Rule):List Kri6.State:=(rows ms).filter fun s=>rs.all fun r=>r.holds s
def spFit:L2.Sp:=fun vs H Q _=>∃ (a b:Addr) (ms:List Nat) (rs:List Kri6.Rule),vs=[.ref a,.ref b]/\LN H a ms/\MOk ms/\LR shR H b rs/\(∀ r∈rs,RIn ms.length r) /\
  ∀ (H':Hp) (p:Addr),H p=none->Same H H'->LR shS H' p (fitOf ms rs)->Q (.ref p) H'
theorem ok_fitting_states (T:Top K mg) (D:DefAt K mg "fitting_states" s_fitting_states) (G_list_states:OkF P w K mg base 3 "list_states" ["marks"] spStates) (G_rule_holds:OkF P w K mg base 3 "rule_holds" ["rule","state"] spRule) :
    OkF P w K mg base 4 "fitting_states" ["marks","rules"] spFit:=by
  refine D.ok sc_fitting_states bi_fitting_states (fun vs H Q E h=>?_) (fun f cdv A outer s H vs Q E hr h=>?_)
  · obtain ⟨a,b,ms,rs,rfl,_⟩:=h
    rfl
  · obtain ⟨a,b,ms,rs,rfl,ha,hm,hb,hrs,k⟩:=h
    refine⟨_,(pss_cons (ps_set (i:=2) sc_fitting_states.nd rfl (Or.inl rfl) (pe_fn G_list_states (hr.mono (by decide)) rfl (pa_cons (pv 0) pa_nil)))
      (pss_cons (ps_for PassesOwn.never rfl (pi_list (pv 1)) (pg_name (i:=3) sc_fitting_states.nd rfl (Or.inr rfl))
        (pss_one (ps_setLc (i:=2) rfl sc_fitting_states.nd rfl rfl (sw_true rfl rfl rfl (by decide +kernel)) (pi_list (pv 2)) (blkOk_by (own:=[("state",4)]) (by show blkC ["marks","rules","states","rule","state"] (defScope s_fitting_states) _ _=true;decide +kernel)) (fun _ _ _ _ _=>(pg_name (i:=4) sc_fitting_states.nd rfl (Or.inl rfl))) (fun _ _ _ _ _=>(pts_one (pt_val (pe_fn G_rule_holds (hr.mono (by decide)) rfl (pa_cons (pv 3) (pa_cons (pv 4) pa_nil)))))) (fun _ _ _ _ _=>(pv 4)))))
      (pss_one (ps_ret (pv 2))))),?_⟩
    refine⟨_,rfl,a,ms,rfl,ha,hm,fun H1 p hp s1 l1=>?_⟩
    obtain ⟨bs,b1,b2,b3,b4⟩:=hb.sq (K:=K)
    refine⟨_,rfl,b,rfl,⟨_,s1.seq b1⟩,?_⟩
    refine for_list (K:=K) (a:=b) (xs:=bs.map V.ref) (fun i σ H'=>∃ (p:Addr) (v3 v4:Option V),σ=[some (.ref a),some (.ref b),some (.ref p),v3,v4]/\H p=none/\Same H H'/\LR shS H' p (fitOf ms (rs.take i)))
      ⟨p,none,none,rfl,hp,s1,?_⟩ (fun i σ H' _ ⟨_,_,_,_,_,s1,_⟩=>s1.seq b1) ?_ ?_
    · unfold fitOf
      rw [List.take_zero,List.filter_eq_self.mpr (by simp)]
      exact l1
    · rintro i x σ H2 hi ⟨p,v3,v4,rfl,hp,s2,l2⟩
      obtain ⟨t,ht,rfl⟩:=map_at hi
      obtain ⟨r,hri,htr⟩:=paired_getL b4 ht
      have hlen:(fitOf ms (rs.take i)).length<=1000000:=by
        have q1:(fitOf ms (rs.take i)).length<=(rows ms).length:=List.length_filter_le _ _
        have:=hm.few
        omega
      refine⟨_,rfl,p,rfl,?_,fun Dl hDl=>(filter_lc (K:=K) shS_no l2 hDl hlen (i:=4) (by show 4<5;decide) (fun s=>r.holds s) ?_ ?_).2⟩
      · obtain ⟨as,a1,_⟩:=l2.sq (K:=K)
        exact⟨_,a1⟩
      · intro c st H3 R s3 hst hc kR
        have hs':=List.mem_filter.mp hst
        have hi':=rows_mem.mp hs'.1
        refine⟨_,rfl,_,rfl,t,c,r,st,rfl,s3 _ _ (s2 _ _ htr),hc,?_,hi'.dir,fun H4 s4=>⟨_,rfl,kR H4 s4⟩⟩
        rw [hi'.1]
        exact hrs r (List.mem_of_getElem? hri)
      · intro H3 s3 l3
        refine⟨Dl,_,_,rfl,s2.free hDl,s2.trans s3,?_⟩
        unfold fitOf at l3 ⊢
        rw [List.filter_filter] at l3
        rw [take_snoc hri]
        simp only [List.all_append,List.all_cons,List.all_nil,Bool.and_true]
        have e:(fun a=>(Kri6.Rule.holds a r&&(rs.take i).all fun r=>r.holds a))=fun s=>((rs.take i).all fun r=>r.holds s)&&r.holds s:=by
          funext s;rw [Bool.and_comm]
        rw [e] at l3
        exact l3
    · rintro σ H2 ⟨p,v3,v4,rfl,hp,s2,l2⟩
      refine⟨_,rfl,k H2 p hp s2 ?_⟩
      rw [List.length_map,b3,List.take_length] at l2
      exact l2
end
theorem cut_pair {s:Kri6.State}{i:Nat} (h:i<s.length) {lo hi:Int} (e1:lo=((2*i:Nat):Int)) (e2:hi=((2*i+2:Nat):Int)):cutV ((Kri6.flat s).map V.int) (some lo) (some hi)=[.int (Kri6.at_ s i).1,.int (Kri6.at_ s i).2]:=by
  subst e1 e2
  unfold cutV
  rw [HT.sIx_nat,HT.sIx_nat,List.length_map,flat_length,Nat.min_eq_left (by omega),Nat.min_eq_left (by omega),show 2*i+2 - 2*i=2 by omega,<- List.map_drop,<- List.map_take]
  have h0:=flat_place h
  have h1:=flat_dir h
  have hl:2*i+1<(Kri6.flat s).length:=by rw [flat_length];omega
  rw [List.drop_eq_getElem_cons (by omega),List.drop_eq_getElem_cons hl]
  rw [List.getElem?_eq_getElem (by omega)] at h0
  rw [List.getElem?_eq_getElem hl] at h1
  rw [Option.some.inj h0,Option.some.inj h1]
  rfl
def goesOn (ms:List Nat) (s t:Kri6.State):Bool:=(List.range ms.length).all fun i=>Kri5.follows (ms.getD i 0) (Kri6.at_ s i) (Kri6.at_ t i)
theorem at_get {s:Kri6.State}{i:Nat} (h:i<s.length):s[i]?=some (Kri6.at_ s i):=by
  unfold Kri6.at_
  rw [List.getD_eq_getElem?_getD,List.getElem?_eq_getElem h]
  rfl
theorem getD_get {ms:List Nat}{i:Nat} (h:i<ms.length):ms[i]?=some (ms.getD i 0):=by
  rw [List.getD_eq_getElem?_getD,List.getElem?_eq_getElem h]
  rfl
theorem IsSt.at {ms:List Nat}{s:Kri6.State} (h:IsSt ms s) {i:Nat} (hi:i<ms.length):(Kri6.at_ s i).1<=2*ms.getD i 0/\(Kri6.at_ s i).2<=2:=h.2 i _ _ (at_get (by rw [h.1];exact hi)) (getD_get hi)
section
variable {P:Program}{w:World}{K:PySem.W.Frag}{mg:Str->Option Value}{base:Heap}
def spGoes:L2.Sp:=fun vs H Q _=>∃ (a b c:Addr) (ms:List Nat) (s t:Kri6.State),vs=[.ref a,.ref b,.ref c]/\LN H a ms/\MOk ms/\H b=some (shS s)/\H c=some (shS t)/\IsSt ms s/\IsSt ms t/\∀ H',Same H H'->Q (.bl (goesOn ms s t)) H'
theorem ok_state_follows (T:Top K mg) (D:DefAt K mg "state_follows" s_state_follows) (G_pair_follows:OkF P w K mg base 3 "pair_follows" ["marks","pair","later"] spPairFollows) :
    OkF P w K mg base 4 "state_follows" ["marks","state","later"] spGoes:=by
  refine D.ok sc_state_follows bi_state_follows (fun vs H Q E h=>?_) (fun f cdv A outer s H vs Q E hr h=>?_)
  · obtain ⟨a,b,c,ms,s,t,rfl,_⟩:=h
    rfl
  · obtain ⟨a,b,c,ms,s,t,rfl,ha,hm,hb,hc,hs,ht,k⟩:=h
    refine⟨_,(pss_cons (ps_for PassesOwn.never rfl (pi_range1 rfl T.range (pa_cons (pe_callB call_len_seq (by rfl) T.len PySem.boot_len (pa_cons (pv 0) pa_nil)) pa_nil)) (pg_name (i:=3) sc_state_follows.nd rfl (Or.inl rfl))
        (pss_one (ps_if (pt_not (pt_val (pe_fn G_pair_follows (hr.mono (by decide)) rfl (pa_cons (pe_ix ix_list (pv 0) (pv 3) (fun _ _=>rfl)) (pa_cons (pe_slice sl_list (pv 1) (po_some (pe_op op_mul pe_int (pv 3))) (po_some (pe_op op_add (pe_op op_mul pe_int (pv 3)) pe_int))) (pa_cons (pe_slice sl_list (pv 2) (po_some (pe_op op_mul pe_int (pv 3))) (po_some (pe_op op_add (pe_op op_mul pe_int (pv 3)) pe_int))) pa_nil)))))) (pss_one (ps_ret pe_bl)) pss_nil)))
      (pss_one (ps_ret pe_bl))),?_⟩
    have hm4:=hm.1
    refine⟨_,rfl,a,_,rfl,.inl (SqL.of ha),_,rfl,by omega,by rw [List.length_map];omega,?_⟩
    have en:(((ms.map fun (n:Nat)=>V.int n).length:Nat):Int).toNat=ms.length:=by rw [List.length_map];omega
    refine for_range (fun i σ H'=>∃ v3:Option V,σ=[some (.ref a),some (.ref b),some (.ref c),v3]/\Same H H'/\(List.range i).all (fun i=>Kri5.follows (ms.getD i 0) (Kri6.at_ s i) (Kri6.at_ t i))=true) ⟨none,rfl,Same.refl H,rfl⟩ ?_ ?_
    · rintro i σ H1 hi ⟨v3,rfl,s1,q1⟩
      rw [en] at hi
      have hs1:=hs.at hi
      have ht1:=ht.at hi
      refine⟨_,rfl,_,rfl,a,_,_,_,rfl,rfl,SqL.of (s1 _ _ ha),at_of (j:=i) (by omega) (by rw [List.getElem?_map,getD_get hi];rfl),?_⟩
      refine⟨_,rfl,_,rfl,_,_,rfl,rfl,.inl ⟨by decide,by decide⟩,_,rfl,_,rfl,_,_,rfl,rfl,.inl ⟨by decide,by decide⟩,_,_,rfl,rfl,_,rfl,b,_,rfl,SqL.of (s1 _ _ hb),fun p1 hp1=>?_⟩
      refine⟨_,rfl,_,rfl,_,_,rfl,rfl,.inl ⟨by decide,by decide⟩,_,rfl,_,rfl,_,_,rfl,rfl,.inl ⟨by decide,by decide⟩,_,_,rfl,rfl,_,rfl,c,_,rfl,SqL.of (Same.new hp1 _ _ (s1 _ _ hc)),fun p2 hp2=>?_⟩
      have e12:p1≠p2:=fun z=>by subst z;rw [upd_same] at hp2;cases hp2
      refine⟨ms.getD i 0,p1,p2,Kri6.at_ s i,Kri6.at_ t i,rfl,?_,?_,hs1.1,hs1.2,ht1.2,fun H2 s2=>?_⟩
      · rw [upd_ne e12,upd_same,cut_pair (i:=i) (by rw [hs.1];exact hi) (by omega) (by omega)]
        rfl
      · rw [upd_same,cut_pair (i:=i) (by rw [ht.1];exact hi) (by omega) (by omega)]
        rfl
      · have s3:Same H H2:=(Same.upd (Same.upd s1 hp1) hp2).trans s2
        refine⟨_,rfl,ite_nb (fun c=>?_) (fun c=>?_)⟩
        · have e:goesOn ms s t=false:=by
            unfold goesOn
            rw [Bool.eq_false_iff]
            intro z
            have:=List.all_eq_true.mp z i (List.mem_range.mpr hi)
            rw [c] at this
            cases this
          have k:=k H2 s3
          rw [e] at k
          exact k
        · refine⟨_,rfl,s3,?_⟩
          rw [List.range_succ,List.all_append,q1,List.all_cons,List.all_nil,c]
          rfl
    · rintro σ H1 ⟨v3,rfl,s1,q1⟩
      rw [en] at q1
      have k:=k H1 s1
      have e:goesOn ms s t=true:=q1
      rw [e] at k
      exact k
def spSome:L2.Sp:=fun vs H Q _=>∃ (a b c:Addr) (ms:List Nat) (ss:List Kri6.State) (t:Kri6.State),vs=[.ref a,.ref b,.ref c]/\LN H a ms/\MOk ms/\LR shS H b ss/\H c=some (shS t)/\(∀ s∈ss,IsSt ms s)/\IsSt ms t /\
  ∀ H',Same H H'->Q (.bl (ss.any fun s=>goesOn ms s t)) H'
theorem ok_follows_some (T:Top K mg) (D:DefAt K mg "follows_some" s_follows_some) (G_state_follows:OkF P w K mg base 4 "state_follows" ["marks","state","later"] spGoes) :
    OkF P w K mg base 5 "follows_some" ["marks","states","later"] spSome:=by
  refine D.ok sc_follows_some bi_follows_some (fun vs H Q E h=>?_) (fun f cdv A outer s H vs Q E hr h=>?_)
  · obtain ⟨a,b,c,ms,ss,t,rfl,_⟩:=h
    rfl
  · obtain ⟨a,b,c,ms,ss,t,rfl,ha,hm,hb,hc,hs,ht,k⟩:=h
    refine⟨_,(pss_cons (ps_for PassesOwn.never rfl (pi_list (pv 1)) (pg_name (i:=3) sc_follows_some.nd rfl (Or.inl rfl))
        (pss_one (ps_if (pt_val (pe_fn G_state_follows (hr.mono (by decide)) rfl (pa_cons (pv 0) (pa_cons (pv 3) (pa_cons (pv 2) pa_nil))))) (pss_one (ps_ret pe_bl)) pss_nil)))
      (pss_one (ps_ret pe_bl))),?_⟩
    obtain ⟨bs,b1,b2,b3,b4⟩:=hb.sq (K:=K)
    refine⟨_,rfl,b,rfl,⟨_,b1⟩,?_⟩
    refine for_list (K:=K) (a:=b) (xs:=bs.map V.ref) (fun i σ H'=>∃ v3:Option V,σ=[some (.ref a),some (.ref b),some (.ref c),v3]/\Same H H'/\(ss.take i).any (fun s=>goesOn ms s t)=false) ⟨none,rfl,Same.refl H,rfl⟩ (fun i σ H' _ ⟨_,_,s1,_⟩=>s1.seq b1) ?_ ?_
    · rintro i x σ H1 hi ⟨v3,rfl,s1,q1⟩
      obtain ⟨d,hd,rfl⟩:=map_at hi
      obtain ⟨st,hst,hds⟩:=paired_getL b4 hd
      refine⟨_,rfl,_,rfl,_,rfl,a,d,c,ms,st,t,rfl,s1 _ _ ha,hm,s1 _ _ hds,s1 _ _ hc,hs st (List.mem_of_getElem? hst),ht,fun H2 s2=>⟨_,rfl,ite_b (fun z=>?_) (fun z=>?_)⟩⟩
      · have k:=k H2 (s1.trans s2)
        have e:(ss.any fun s=>goesOn ms s t)=true:=List.any_eq_true.mpr ⟨st,List.mem_of_getElem? hst,z⟩
        rw [e] at k
        exact k
      · refine⟨_,rfl,s1.trans s2,?_⟩
        rw [take_snoc hst,List.any_append,q1]
        simp [z]
    · rintro σ H1 ⟨v3,rfl,s1,q1⟩
      rw [List.length_map,b3,List.take_length] at q1
      have k:=k H1 s1
      rw [q1] at k
      exact k
def isSt (ms ns:List Nat):Bool:=ns.length==2*ms.length&&(List.range ms.length).all fun i=>decide (ns.getD (2*i) 0<=2*ms.getD i 0)&&decide (ns.getD (2*i+1) 0<=2)
def spIsState:L2.Sp:=fun vs H Q _=>∃ (a b:Addr) (ms ns:List Nat),vs=[.ref a,.ref b]/\LN H a ms/\MOk ms/\LN H b ns/\ns.length<=1000/\Q (.bl (isSt ms ns)) H
theorem ok_is_state (T:Top K mg) (D:DefAt K mg "is_state" s_is_state) (G_count_places:OkF P w K mg base 1 "count_places" ["marks"] spCount):OkF P w K mg base 2 "is_state" ["marks","numbers"] spIsState:=by
  refine D.ok sc_is_state bi_is_state (fun vs H Q E h=>?_) (fun f cdv A outer s H vs Q E hr h=>?_)
  · obtain ⟨a,b,ms,ns,rfl,_⟩:=h
    rfl
  · obtain ⟨a,b,ms,ns,rfl,ha,hm,hb,hn,k⟩:=h
    refine⟨_,(pss_cons (ps_if (pt_cmpR op_ne (pe_callB call_len_seq (by rfl) T.len PySem.boot_len (pa_cons (pv 1) pa_nil)) (pe_op op_mul pe_int (pe_callB call_len_seq (by rfl) T.len PySem.boot_len (pa_cons (pv 0) pa_nil))) (nomark _)) (pss_one (ps_ret pe_bl)) pss_nil)
      (pss_cons (ps_for PassesOwn.never rfl (pi_range1 rfl T.range (pa_cons (pe_callB call_len_seq (by rfl) T.len PySem.boot_len (pa_cons (pv 0) pa_nil)) pa_nil)) (pg_name (i:=2) sc_is_state.nd rfl (Or.inl rfl))
        (pss_one (ps_if (PW.pt (pw_or (pt_cmpR op_ge (pe_ix ix_list (pv 1) (pe_op op_mul pe_int (pv 2)) (fun _ _=>rfl)) (pe_fn G_count_places (hr.mono (by decide)) rfl (pa_cons (pe_ix ix_list (pv 0) (pv 2) (fun _ _=>rfl)) pa_nil)) (nomark _)) (pw_or1 (pt_cmpR op_ge (pe_ix ix_list (pv 1) (pe_op op_add (pe_op op_mul pe_int (pv 2)) pe_int) (fun _ _=>rfl)) (pe_gint T.DIRECTIONS rfl) (nomark _))))) (pss_one (ps_ret pe_bl)) pss_nil)))
      (pss_one (ps_ret pe_bl)))),?_⟩
    have hm4:=hm.1
    refine⟨_,rfl,b,_,rfl,.inl (SqL.of hb),_,rfl,a,_,rfl,.inl (SqL.of ha),_,_,rfl,rfl,.inl ⟨by decide,by decide⟩,rfl,_,rfl,ite_ni (fun c=>?_) (fun c=>?_)⟩
    · have e:isSt ms ns=false:=by
        unfold isSt
        rw [Bool.eq_false_iff]
        intro z
        rw [Bool.and_eq_true] at z
        have:=eq_of_beq z.1
        rw [List.length_map,List.length_map] at c
        omega
      rw [e] at k
      exact k
    · rw [List.length_map,List.length_map] at c
      have hl:ns.length=2*ms.length:=by omega
      refine⟨_,rfl,a,_,rfl,.inl (SqL.of ha),_,rfl,by omega,by rw [List.length_map];omega,?_⟩
      have en:(((ms.map fun (n:Nat)=>V.int n).length:Nat):Int).toNat=ms.length:=by rw [List.length_map];omega
      refine for_range (fun i σ H'=>∃ v2:Option V,σ=[some (.ref a),some (.ref b),v2]/\H'=H/\(List.range i).all (fun i=>decide (ns.getD (2*i) 0<=2*ms.getD i 0)&&decide (ns.getD (2*i+1) 0<=2))=true) ⟨none,rfl,rfl,rfl⟩ ?_ ?_
      · rintro i σ H1 hi ⟨v2,rfl,rfl,q1⟩
        rw [en] at hi
        have bad:(decide (ns.getD (2*i) 0<=2*ms.getD i 0)&&decide (ns.getD (2*i+1) 0<=2))=false->isSt ms ns=false:=fun z=>by
          unfold isSt
          rw [Bool.eq_false_iff]
          intro y
          rw [Bool.and_eq_true] at y
          have:=List.all_eq_true.mp y.2 i (List.mem_range.mpr hi)
          rw [z] at this
          cases this
        refine⟨_,rfl,_,rfl,_,_,rfl,rfl,.inl ⟨by decide,by decide⟩,b,_,_,_,rfl,rfl,SqL.of hb,at_of (j:=2*i) (by omega) (by rw [List.getElem?_map,getD_get (by omega)];rfl),?_⟩
        refine⟨_,rfl,_,rfl,a,_,_,_,rfl,rfl,SqL.of ha,at_of (j:=i) (by omega) (by rw [List.getElem?_map,getD_get hi];rfl),_,rfl,_,_,rfl,rfl,_,rfl,ite_dec (fun c1=>iteT ?_) (fun c1=>?_)⟩
        · have e:=bad (by rw [decide_eq_false (by omega)];rfl)
          rw [e] at k
          exact k
        · refine⟨_,rfl,_,rfl,_,_,rfl,rfl,.inl ⟨by decide,by decide⟩,_,_,rfl,rfl,b,_,_,_,rfl,rfl,SqL.of hb,at_of (j:=2*i+1) (by omega) (by rw [List.getElem?_map,getD_get (by omega)];rfl),_,_,rfl,rfl,_,rfl,ite_dec (fun c2=>?_) (fun c2=>?_)⟩
          · have e:=bad (by rw [decide_eq_false (p:=ns.getD (2*i+1) 0<=2) (by omega),Bool.and_false])
            rw [e] at k
            exact k
          · refine⟨_,rfl,rfl,?_⟩
            rw [List.range_succ,List.all_append,q1]
            have z1:ns.getD (2*i) 0<=2*ms.getD i 0:=by omega
            have z2:ns.getD (2*i+1) 0<=2:=by omega
            rw [List.all_cons,List.all_nil,decide_eq_true z1,decide_eq_true z2]
            rfl
      · rintro σ H1 ⟨v2,rfl,rfl,q1⟩
        rw [en] at q1
        have e:isSt ms ns=true:=by
          unfold isSt
          rw [hl,q1]
          simp
        rw [e] at k
        exact k
end
def pf (b m r f c:V):List (Str × V):=[("begun",b),("marks",m),("rules",r),("fitting",f),("current",c)]
section
variable {b m r f c v:V}
theorem pf_b:(pf b m r f c).lookup ("begun":Str)=some b:=rfl
theorem pf_m:(pf b m r f c).lookup ("marks":Str)=some m:=rfl
theorem pf_r:(pf b m r f c).lookup ("rules":Str)=some r:=rfl
theorem pf_f:(pf b m r f c).lookup ("fitting":Str)=some f:=rfl
theorem pf_c:(pf b m r f c).lookup ("current":Str)=some c:=rfl
theorem put_b:putF "begun" v (pf b m r f c)=pf v m r f c:=by
  unfold pf
  simp only [putF]
  rw [if_pos trivial]
theorem put_m:putF "marks" v (pf b m r f c)=pf b v r f c:=by
  unfold pf
  simp only [putF]
  rw [if_neg (by decide +kernel),if_pos trivial]
theorem put_r:putF "rules" v (pf b m r f c)=pf b m v f c:=by
  unfold pf
  simp only [putF]
  rw [if_neg (by decide +kernel),if_neg (by decide +kernel),if_pos trivial]
theorem put_f:putF "fitting" v (pf b m r f c)=pf b m r v c:=by
  unfold pf
  simp only [putF]
  rw [if_neg (by decide +kernel),if_neg (by decide +kernel),if_neg (by decide +kernel),if_pos trivial]
theorem put_c:putF "current" v (pf b m r f c)=pf b m r f v:=by
  unfold pf
  simp only [putF]
  rw [if_neg (by decide +kernel),if_neg (by decide +kernel),if_neg (by decide +kernel),if_neg (by decide +kernel),if_pos trivial]
end
structure PC (K:PySem.W.Frag) (C:Addr):Prop where
  cl:Cls K C
  nB:NoAttr K C "begun"
  nM:NoAttr K C "marks"
  nR:NoAttr K C "rules"
  nF:NoAttr K C "fitting"
  nC:NoAttr K C "current"
def NI (o:HO):Prop:=∀ C dx fs,o≠.ins C dx fs
def Keep (p:Addr) (H H':Hp):Prop:=∀ b o,H b=some o->b≠p->H' b=some o
theorem ni_lst {xs:List V}:NI (.lst xs):=fun _ _ _ e=>by cases e
theorem ni_R (r:Kri6.Rule):NI (shR r):=fun _ _ _ e=>by cases r <;> cases e
theorem ni_S (s:Kri6.State):NI (shS s):=fun _ _ _ e=>by cases e
section
variable {H H' H1 H2:Hp}{a p q:Addr}{o:HO}{C dx:Addr}{fs fs':List (Str × V)}
theorem Keep.refl (p:Addr) (H:Hp):Keep p H H:=fun _ _ e _=>e
theorem Keep.of (s:Same H H'):Keep p H H':=fun b o e _=>s b o e
theorem Keep.trans (h1:Keep p H H1) (h2:Keep p H1 H2):Keep p H H2:=fun b o e n=>h2 b o (h1 b o e n) n
theorem Keep.free (h:Keep p H H') (hp':H' p=some o) (hq:H' q=none):H q=none:=by
  have ne:q≠p:=fun z=>by subst z;rw [hp'] at hq;cases hq
  cases e:H q with
  | none=>rfl
  | some u=>rw [h q u e ne] at hq;cases hq
theorem Keep.upd:Keep p H (L2.upd H p o):=fun b u e n=>by rw [upd_ne n];exact e
theorem Keep.at (k:Keep p H H') (hp:H p=some (.ins C dx fs)) (e:H a=some o) (n:NI o):H' a=some o:=k a o e fun z=>by
  subst z
  rw [hp] at e
  exact n _ _ _ (Option.some.inj e).symm
theorem LN.keep {ns:List Nat} (h:LN H a ns) (hp:H p=some (.ins C dx fs)) (k:Keep p H H'):LN H' a ns:=k.at hp h ni_lst
theorem LN.same {ns:List Nat} (h:LN H a ns) (k:Same H H'):LN H' a ns:=k _ _ h
theorem LR.keep {α:Type}{sh:α->HO}{xs:List α} (n:∀ x,NI (sh x)) (h:LR sh H a xs) (hp:H p=some (.ins C dx fs)) (k:Keep p H H'):LR sh H' a xs:=by
  obtain ⟨as,h1,h2⟩:=h
  exact⟨as,k.at hp h1 ni_lst,paired_imp (fun _ x e=>k.at hp e (n x)) h2⟩
end
structure Pl (C:Addr) (H:Hp) (p:Addr) (ms:List Nat) (rs:List Kri6.Rule) (now:List Kri6.State):Prop where
  ex:∃ dx am ar af ac:Addr,H p=some (.ins C dx (pf (.bl true) (.ref am) (.ref ar) (.ref af) (.ref ac)))/\LN H am ms/\LR shR H ar rs/\LR shS H af (fitOf ms rs)/\LR shS H ac now
  mo:MOk ms
  rl:∀ r∈rs,RIn ms.length r
  r8:rs.length<=8
  sb:now.Sublist (fitOf ms rs)
  nl:now.length<=194481
  ne:now≠[]
theorem Pl.nw {C:Addr}{H:Hp}{p:Addr}{ms:List Nat}{rs:List Kri6.Rule}{now:List Kri6.State} (h:Pl C H p ms rs now):∀ s∈now,s∈fitOf ms rs:=fun _ hs=>h.sb.subset hs
theorem Pl.same {C:Addr}{H H':Hp}{p:Addr}{ms:List Nat}{rs:List Kri6.Rule}{now:List Kri6.State} (h:Pl C H p ms rs now) (e:Same H H'):Pl C H' p ms rs now:=by
  obtain ⟨⟨dx,am,ar,af,ac,h1,h2,h3,h4,h5⟩,a,b,c,d,i,j⟩:=h
  exact⟨⟨dx,am,ar,af,ac,e _ _ h1,e _ _ h2,h3.same e,h4.same e,h5.same e⟩,a,b,c,d,i,j⟩
section
variable {P:Program}{w:World}{K:PySem.W.Frag}{mg:Str->Option Value}{base:Heap}{C:Addr}
def spHasQ (C:Addr):L2.Sp:=fun vs H Q _=>∃ (p:Addr) (i:Nat) (ms:List Nat) (rs:List Kri6.Rule) (now:List Kri6.State),vs=[.ref p,.int i]/\Pl C H p ms rs now/\Q (.bl (decide (i<ms.length))) H
theorem ok_has_quantity (T:Top K mg) (U:PC K C) (D:DefAt K mg "has_quantity" s_has_quantity):OkF P w K mg base 1 "has_quantity" ["plant","quantity"] (spHasQ C):=by
  refine D.ok sc_has_quantity bi_has_quantity (fun vs H Q E h=>?_) (fun f cdv A outer s H vs Q E hr h=>?_)
  · obtain ⟨p,i,ms,rs,now,rfl,_⟩:=h
    rfl
  · obtain ⟨p,i,ms,rs,now,rfl,hp,k⟩:=h
    obtain ⟨dx,am,ar,af,ac,h1,h2,h3,h4,h5⟩:=hp.ex
    refine⟨_,(pss_one (ps_ret (pe_cmpR op_lt (pv 1) (pe_callB call_len_seq (by rfl) T.len PySem.boot_len (pa_cons (pe_fld (pv 0) (by rfl)) pa_nil)) (nomark _)))),?_⟩
    refine⟨_,rfl,_,rfl,p,C,dx,_,_,rfl,h1,U.cl,U.nM,pf_m,am,_,rfl,.inl (SqL.of h2),_,_,rfl,rfl,?_⟩
    have e:decide (i<ms.length)=decide ((i:Int)<((ms.map fun (n:Nat)=>V.int n).length:Nat)):=by
      rw [List.length_map]
      exact decide_eq_decide.mpr (by omega)
    rw [e] at k
    exact k
def spHasM (C:Addr):L2.Sp:=fun vs H Q _=>∃ (p:Addr) (i j:Nat) (ms:List Nat) (rs:List Kri6.Rule) (now:List Kri6.State),vs=[.ref p,.int i,.int j]/\Pl C H p ms rs now/\i<ms.length/\Q (.bl (decide (j<ms.getD i 0))) H
theorem ok_has_mark (T:Top K mg) (U:PC K C) (D:DefAt K mg "has_mark" s_has_mark):OkF P w K mg base 1 "has_mark" ["plant","quantity","mark"] (spHasM C):=by
  refine D.ok sc_has_mark bi_has_mark (fun vs H Q E h=>?_) (fun f cdv A outer s H vs Q E hr h=>?_)
  · obtain ⟨p,i,j,ms,rs,now,rfl,_⟩:=h
    rfl
  · obtain ⟨p,i,j,ms,rs,now,rfl,hp,hi,k⟩:=h
    obtain ⟨dx,am,ar,af,ac,h1,h2,h3,h4,h5⟩:=hp.ex
    refine⟨_,(pss_one (ps_ret (pe_cmpR op_lt (pv 2) (pe_ix ix_list (pe_fld (pv 0) (by rfl)) (pv 1) (fun _ _=>rfl)) (nomark _)))),?_⟩
    refine⟨_,rfl,_,rfl,p,C,dx,_,_,rfl,h1,U.cl,U.nM,pf_m,_,rfl,am,_,_,_,rfl,rfl,SqL.of h2,at_of (j:=i) rfl (by rw [List.getElem?_map,getD_get hi];rfl),_,_,rfl,rfl,?_⟩
    have e:decide (j<ms.getD i 0)=decide ((j:Int)<(ms.getD i 0:Nat)):=decide_eq_decide.mpr (by omega)
    rw [e] at k
    exact k
def spHasP (C:Addr):L2.Sp:=fun vs H Q _=>∃ (p:Addr) (i j:Nat) (ms:List Nat) (rs:List Kri6.Rule) (now:List Kri6.State),vs=[.ref p,.int i,.int j]/\Pl C H p ms rs now/\i<ms.length/\Q (.bl (!decide (2*ms.getD i 0<j))) H
theorem ok_has_place (T:Top K mg) (U:PC K C) (D:DefAt K mg "has_place" s_has_place) (G_count_places:OkF P w K mg base 1 "count_places" ["marks"] spCount):OkF P w K mg base 2 "has_place" ["plant","quantity","place"] (spHasP C):=by
  refine D.ok sc_has_place bi_has_place (fun vs H Q E h=>?_) (fun f cdv A outer s H vs Q E hr h=>?_)
  · obtain ⟨p,i,j,ms,rs,now,rfl,_⟩:=h
    rfl
  · obtain ⟨p,i,j,ms,rs,now,rfl,hp,hi,k⟩:=h
    obtain ⟨dx,am,ar,af,ac,h1,h2,h3,h4,h5⟩:=hp.ex
    refine⟨_,(pss_one (ps_ret (pe_cmpR op_lt (pv 2) (pe_fn G_count_places (hr.mono (by decide)) rfl (pa_cons (pe_ix ix_list (pe_fld (pv 0) (by rfl)) (pv 1) (fun _ _=>rfl)) pa_nil)) (nomark _)))),?_⟩
    refine⟨_,rfl,_,rfl,p,C,dx,_,_,rfl,h1,U.cl,U.nM,pf_m,_,rfl,am,_,_,_,rfl,rfl,SqL.of h2,at_of (j:=i) rfl (by rw [List.getElem?_map,getD_get hi];rfl),_,rfl,_,_,rfl,rfl,?_⟩
    have e:(!decide (2*ms.getD i 0<j))=decide ((j:Int)<2*(ms.getD i 0:Nat)+1):=by
      rw [Bool.eq_iff_iff,Bool.not_eq_true',decide_eq_false_iff_not,decide_eq_true_iff]
      omega
    rw [e] at k
    exact k
def spBig (C:Addr):L2.Sp:=fun vs H Q _=>∃ (p:Addr) (ms:List Nat) (rs:List Kri6.Rule) (now:List Kri6.State),vs=[.ref p]/\Pl C H p ms rs now/\Q (.bl (decide (120<(fitOf ms rs).length))) H
theorem ok_too_many_fit (T:Top K mg) (U:PC K C) (D:DefAt K mg "too_many_fit" s_too_many_fit):OkF P w K mg base 1 "too_many_fit" ["plant"] (spBig C):=by
  refine D.ok sc_too_many_fit bi_too_many_fit (fun vs H Q E h=>?_) (fun f cdv A outer s H vs Q E hr h=>?_)
  · obtain ⟨p,ms,rs,now,rfl,_⟩:=h
    rfl
  · obtain ⟨p,ms,rs,now,rfl,hp,k⟩:=h
    obtain ⟨dx,am,ar,af,ac,h1,h2,h3,h4,h5⟩:=hp.ex
    obtain ⟨as,a1,a2,a3,a4⟩:=h4.sq (K:=K)
    refine⟨_,(pss_one (ps_ret (pe_cmpR op_gt (pe_callB call_len_seq (by rfl) T.len PySem.boot_len (pa_cons (pe_fld (pv 0) (by rfl)) pa_nil)) (pe_gint T.MOST_FITTING rfl) (nomark _)))),?_⟩
    refine⟨_,rfl,p,C,dx,_,_,rfl,h1,U.cl,U.nF,pf_f,af,_,rfl,.inl a1,_,_,rfl,rfl,?_⟩
    have e:decide (120<(fitOf ms rs).length)=decide (((as.map V.ref).length:Int) > 120):=by
      rw [List.length_map,a3]
      exact decide_eq_decide.mpr (by omega)
    rw [e] at k
    exact k
def spSettle (C:Addr):L2.Sp:=fun vs H Q _=>∃ (p dx q:Addr) (b m r f c:V) (sts:List Kri6.State),vs=[.ref p,.ref q]/\H p=some (.ins C dx (pf b m r f c))/\LR shS H q sts /\
  ∀ (H':Hp) (l:Addr),Keep p H H'->H' p=some (.ins C dx (pf b m r (.ref q) (.ref l)))->LR shS H' l sts->Q .non H'
theorem ok_settle (T:Top K mg) (U:PC K C) (D:DefAt K mg "settle" s_settle):OkF P w K mg base 1 "settle" ["plant","fitting"] (spSettle C):=by
  refine D.ok sc_settle bi_settle (fun vs H Q E h=>?_) (fun fa cdv A outer s H vs Q E hr h=>?_)
  · obtain ⟨p,dx,q,b,m,r,f,c,sts,rfl,_⟩:=h
    rfl
  · obtain ⟨p,dx,q,b,m,r,f,c,sts,rfl,hp,hq,k⟩:=h
    refine⟨_,(pss_cons (ps_fld (pv 0) (pv 1) rfl)
      (pss_one (ps_fld (pv 0) (pe_callTy call_list_of (by rfl) T.list PyProof.Rows.boot_list (pa_cons (pv 1) pa_nil)) rfl))),?_⟩
    refine⟨_,rfl,_,rfl,p,C,dx,_,rfl,hp,U.cl,U.nF,(by show 5<1000;decide),?_⟩
    rw [put_f]
    have k1:Keep p H (L2.upd H p (.ins C dx (pf b m r (.ref q) c))):=Keep.upd
    have q1:=hq.keep ni_S hp k1
    obtain ⟨as,a1,a2,a3,a4⟩:=q1.sq (K:=K)
    refine⟨_,rfl,q,_,rfl,.inl a1,fun l hl=>?_⟩
    have s2:=Same.new (o:=.lst (as.map V.ref)) hl
    have hp1:=s2 p _ upd_same
    refine⟨_,rfl,p,C,dx,_,rfl,hp1,U.cl,U.nC,(by show 5<1000;decide),?_⟩
    rw [put_c]
    have k3:Keep p _ (L2.upd (L2.upd (L2.upd H p (.ins C dx (pf b m r (.ref q) c))) l (.lst (as.map V.ref))) p (.ins C dx (pf b m r (.ref q) (.ref l)))):=Keep.upd
    refine k _ l ((k1.trans (Keep.of s2)).trans k3) upd_same ?_
    exact LR.keep ni_S ⟨as,upd_same,paired_imp (fun _ x e=>s2 _ _ e) a4⟩ hp1 k3
def Gives (p:Addr) (H:Hp) (Q:VK) (ns:List Int) (R:Hp->Prop):Prop:=∀ (H':Hp) (q:Addr),Keep p H H'->H q=none->R H'->LI H' q ns->Q (.ref q) H'
theorem gives_one {p:Addr}{H H1:Hp}{Q:VK}{n:Int}{R:Hp->Prop}{o:HO} (k:Gives p H Q [n] R) (kp:Keep p H H1) (hp:H1 p=some o) (hR:∀ H',Same H1 H'->R H') :
    [V.int n].length<=sizeLine/\∀ q,H1 q=none->Q (.ref q) (L2.upd H1 q (.lst [.int n])):=
  ⟨(by show 1<=sizeLine;decide),fun q hq=>k _ q (kp.trans (Keep.of (Same.new hq))) (kp.free hp hq) (hR _ (Same.new hq)) upd_same⟩
theorem Gives.mono {p:Addr}{H H1:Hp}{Q:VK}{ns:List Int}{R:Hp->Prop}{o:HO} (k:Gives p H Q ns R) (kp:Keep p H H1) (hp:H1 p=some o):Gives p H1 Q ns R:=fun H' q k1 hq hR hl=>k H' q (kp.trans k1) (kp.free hp hq) hR hl
def spBegin (C:Addr):L2.Sp:=fun vs H Q _=>∃ (p dx:Addr) (b m r f c:V),vs=[.ref p]/\H p=some (.ins C dx (pf b m r f c))/\Gives p H Q [0] fun H'=>Pl C H' p [] [] [[]]
theorem ok_begin (T:Top K mg) (U:PC K C) (D:DefAt K mg "begin" s_begin) (G_settle:OkF P w K mg base 1 "settle" ["plant","fitting"] (spSettle C)) (G_fitting_states:OkF P w K mg base 4 "fitting_states" ["marks","rules"] spFit) :
    OkF P w K mg base 5 "begin" ["plant"] (spBegin C):=by
  refine D.ok sc_begin bi_begin (fun vs H Q E h=>?_) (fun fa cdv A outer s H vs Q E hr h=>?_)
  · obtain ⟨p,dx,b,m,r,f,c,rfl,_⟩:=h
    rfl
  · obtain ⟨p,dx,b,m,r,f,c,rfl,hp,k⟩:=h
    refine⟨_,(pss_cons (ps_fld (pv 0) pe_bl rfl)
      (pss_cons (ps_fld (pv 0) (pe_lst pa_nil) rfl)
      (pss_cons (ps_fld (pv 0) (pe_lst pa_nil) rfl)
      (pss_cons (ps_expr (pe_fn G_settle (hr.mono (by decide)) rfl (pa_cons (pv 0) (pa_cons (pe_fn G_fitting_states (hr.mono (by decide)) rfl (pa_cons (pe_lst pa_nil) (pa_cons (pe_lst pa_nil) pa_nil))) pa_nil))))
      (pss_one (ps_ret (pe_lst (pa_cons pe_int pa_nil)))))))),?_⟩
    refine⟨_,rfl,p,C,dx,_,rfl,hp,U.cl,U.nB,(by show 5<1000;decide),?_⟩
    rw [put_b]
    refine⟨Nat.zero_le _,fun a1 ha1=>⟨_,rfl,p,C,dx,_,rfl,(Same.new ha1) _ _ upd_same,U.cl,U.nM,(by show 5<1000;decide),?_⟩⟩
    rw [put_m]
    refine⟨Nat.zero_le _,fun a2 ha2=>⟨_,rfl,p,C,dx,_,rfl,(Same.new ha2) _ _ upd_same,U.cl,U.nR,(by show 5<1000;decide),?_⟩⟩
    rw [put_r]
    have k1:Keep p H (L2.upd H p (.ins C dx (pf (.bl true) m r f c))):=Keep.upd
    generalize eH1:L2.upd H p (.ins C dx (pf (.bl true) m r f c))=H1 at *
    have p1:H1 p=some (.ins C dx (pf (.bl true) m r f c)):=by rw [<- eH1];exact upd_same
    have k2:Keep p H1 (L2.upd (L2.upd H1 a1 (.lst [])) p (.ins C dx (pf (.bl true) (.ref a1) r f c))):=(Keep.of (Same.new ha1)).trans Keep.upd
    have l1:LN (L2.upd (L2.upd H1 a1 (.lst [])) p (.ins C dx (pf (.bl true) (.ref a1) r f c))) a1 []:=LN.keep upd_same ((Same.new ha1) _ _ p1) Keep.upd
    generalize eH2:L2.upd (L2.upd H1 a1 (.lst [])) p (.ins C dx (pf (.bl true) (.ref a1) r f c))=H2 at *
    have p2:H2 p=some (.ins C dx (pf (.bl true) (.ref a1) r f c)):=by rw [<- eH2];exact upd_same
    have k3:Keep p H2 (L2.upd (L2.upd H2 a2 (.lst [])) p (.ins C dx (pf (.bl true) (.ref a1) (.ref a2) f c))):=(Keep.of (Same.new ha2)).trans Keep.upd
    have l2:LR shR (L2.upd (L2.upd H2 a2 (.lst [])) p (.ins C dx (pf (.bl true) (.ref a1) (.ref a2) f c))) a2 []:=LR.keep ni_R (LR.nil upd_same) ((Same.new ha2) _ _ p2) Keep.upd
    have l1':=l1.keep p2 k3
    generalize eH3:L2.upd (L2.upd H2 a2 (.lst [])) p (.ins C dx (pf (.bl true) (.ref a1) (.ref a2) f c))=H3 at *
    have p3:H3 p=some (.ins C dx (pf (.bl true) (.ref a1) (.ref a2) f c)):=by rw [<- eH3];exact upd_same
    refine⟨_,rfl,Nat.zero_le _,fun b1 hb1=>⟨Nat.zero_le _,fun b2 hb2=>?_⟩⟩
    have s1:=Same.new (o:=.lst []) hb1
    have s2:=Same.new (o:=.lst []) hb2
    refine⟨b1,b2,[],[],rfl,s2 _ _ upd_same,⟨by decide,by simp⟩,LR.nil upd_same,by simp,fun H4 q hq s3 l3=>?_⟩
    have s4:Same H3 H4:=(s1.trans s2).trans s3
    refine⟨p,dx,q,_,_,_,_,_,_,rfl,s4 _ _ p3,l3,fun H5 l k5 p5 l5=>?_⟩
    have k6:Keep p H H5:=((((k1.trans k2).trans k3).trans (Keep.of s4))).trans k5
    have p4:=s4 _ _ p3
    have pl:Pl C H5 p [] [] [[]]:=⟨⟨dx,a1,a2,q,l,p5,(l1'.same s4).keep p4 k5,LR.keep ni_R (l2.same s4) p4 k5,LR.keep ni_S l3 p4 k5,l5⟩,⟨by decide,by simp⟩,by simp,by decide,List.Sublist.refl _,by decide,by simp⟩
    exact gives_one k k6 p5 fun H' e=>pl.same e
end
end Sp
end
section
namespace Sp
theorem map_range_getD (f:Nat->List (Nat × Nat)):∀ ms:List Nat,((List.range ms.length).map fun i=>f (ms.getD i 0))=ms.map f
  | []=>rfl
  | m::r=>by
    have ih:=map_range_getD f r
    rw [List.length_cons,List.range_succ_eq_map,List.map_cons,List.map_map,List.map_cons]
    show f m::_=f m::_
    rw [<- ih]
    rfl
theorem states_eq (ms:List Nat) (rs:List Kri6.Rule):Kri6.Net.states ⟨ms,rs⟩=fitOf ms rs:=by
  unfold Kri6.Net.states fitOf rows
  have e:(Kri6.Net.qs ⟨ms,rs⟩).map (fun i=>Kri5.pairsOf (Kri6.Net.m ⟨ms,rs⟩ i))=ms.map Kri5.pairsOf:=map_range_getD Kri5.pairsOf ms
  rw [e]
  rfl
theorem fit_mem {ms:List Nat}{rs:List Kri6.Rule}{s:Kri6.State}:s∈fitOf ms rs↔IsSt ms s/\∀ r∈rs,r.holds s=true:=by
  unfold fitOf
  rw [List.mem_filter,rows_mem,List.all_eq_true]
theorem nodup_flat {α β:Type}{f:α->List β}:∀ {l:List α},l.Nodup->(∀ a∈l,(f a).Nodup)->(∀ a b x,a∈l->b∈l->x∈f a->x∈f b->a=b)->(l.flatMap f).Nodup
  | [],_,_,_=>by simp
  | a::r,h,h1,h2=>by
    rw [List.flatMap_cons,List.nodup_append]
    obtain ⟨g1,g2⟩:=List.nodup_cons.mp h
    refine⟨h1 a List.mem_cons_self,nodup_flat g2 (fun b hb=>h1 b (List.mem_cons_of_mem _ hb)) fun b c x hb hc=>h2 b c x (List.mem_cons_of_mem _ hb) (List.mem_cons_of_mem _ hc),?_⟩
    intro x hx y hy e
    subst e
    obtain ⟨b,hb,hxb⟩:=List.mem_flatMap.mp hy
    have:=h2 a b x List.mem_cons_self (List.mem_cons_of_mem _ hb) hx hxb
    subst this
    exact g1 hb
theorem nodup_map {α β:Type}{f:α->β} (hf:∀ a b,f a=f b->a=b):∀ {l:List α},l.Nodup->(l.map f).Nodup
  | [],_=>by simp
  | a::r,h=>by
    obtain ⟨g1,g2⟩:=List.nodup_cons.mp h
    rw [List.map_cons]
    refine List.nodup_cons.mpr ⟨fun m=>?_,nodup_map hf g2⟩
    obtain ⟨b,hb,e⟩:=List.mem_map.mp m
    exact g1 (hf _ _ e ▸ hb)
theorem pairs_nodup (m:Nat):(Kri5.pairsOf m).Nodup:=by
  unfold Kri5.pairsOf
  refine nodup_flat List.nodup_range (fun p _=>nodup_map (fun a b e=>(Prod.mk.inj e).2) List.nodup_range) ?_
  intro a b x _ _ h1 h2
  obtain ⟨d,_,rfl⟩:=List.mem_map.mp h1
  obtain ⟨d',_,e⟩:=List.mem_map.mp h2
  exact ((Prod.mk.inj e).1).symm
theorem rows_nodup:∀ ms:List Nat,(rows ms).Nodup
  | []=>by decide
  | m::r=>by
    have e:rows (m::r)=(Kri5.pairsOf m).flatMap fun x=>(rows r).map fun s=>x::s:=rfl
    rw [e]
    refine nodup_flat (pairs_nodup m) (fun x _=>nodup_map (fun a b e=>(List.cons.inj e).2) (rows_nodup r)) ?_
    intro a b x _ _ h1 h2
    obtain ⟨d,_,rfl⟩:=List.mem_map.mp h1
    obtain ⟨d',_,e⟩:=List.mem_map.mp h2
    exact ((List.cons.inj e).1).symm
theorem fit_nodup (ms:List Nat) (rs:List Kri6.Rule):(fitOf ms rs).Nodup:=(rows_nodup ms).sublist List.filter_sublist
theorem fit_few {ms:List Nat} (h:MOk ms) (rs:List Kri6.Rule):(fitOf ms rs).length<=194481:=Nat.le_trans (List.length_filter_le _ _) h.few
theorem at_app {s:Kri6.State}{x:Nat × Nat}{i:Nat} (h:i<s.length):Kri6.at_ (s++[x]) i=Kri6.at_ s i:=by
  unfold Kri6.at_
  rw [List.getD_eq_getElem?_getD,List.getD_eq_getElem?_getD,List.getElem?_append_left h]
theorem holds_app {s:Kri6.State}{x:Nat × Nat}{r:Kri6.Rule} (h:RIn s.length r):r.holds (s++[x])=r.holds s:=by
  cases r with
  | more a b=>have h1:=h a (by simp [rqs]);have h2:=h b (by simp [rqs]);simp only [Kri6.Rule.holds,at_app h1,at_app h2]
  | less a b=>have h1:=h a (by simp [rqs]);have h2:=h b (by simp [rqs]);simp only [Kri6.Rule.holds,at_app h1,at_app h2]
  | sum a b c=>have h1:=h a (by simp [rqs]);have h2:=h b (by simp [rqs]);have h3:=h c (by simp [rqs]);simp only [Kri6.Rule.holds,at_app h1,at_app h2,at_app h3]
  | rate a j b=>have h1:=h a (by simp [rqs]);have h2:=h b (by simp [rqs]);simp only [Kri6.Rule.holds,at_app h1,at_app h2]
  | still a=>have h1:=h a (by simp [rqs]);simp only [Kri6.Rule.holds,at_app h1]
  | meet a j b k=>have h1:=h a (by simp [rqs]);have h2:=h b (by simp [rqs]);simp only [Kri6.Rule.holds,at_app h1,at_app h2]
theorem fit_grow {ms:List Nat}{rs:List Kri6.Rule} (m:Nat) (hr:∀ r∈rs,RIn ms.length r) (hne:fitOf ms rs≠[]):fitOf (ms++[m]) rs≠[]:=by
  obtain ⟨s,hs⟩:=List.exists_mem_of_ne_nil _ hne
  obtain ⟨h1,h2⟩:=fit_mem.mp hs
  refine List.ne_nil_of_mem (a:=s++[(0,1)]) (fit_mem.mpr ⟨⟨by simp [h1.1],?_⟩,fun r hr'=>?_⟩)
  · intro i x n hx hn
    by_cases hi:i<s.length
    · rw [List.getElem?_append_left hi] at hx
      rw [List.getElem?_append_left (by rw [<- h1.1];exact hi)] at hn
      exact h1.2 i x n hx hn
    · rw [List.getElem?_append_right (by omega)] at hx
      have:i - s.length=0:=by
        have:=(List.getElem?_eq_some_iff.mp hx).1
        simp at this
        omega
      rw [this] at hx
      simp at hx
      subst hx
      exact⟨Nat.zero_le _,by decide⟩
  · rw [holds_app (by rw [h1.1];exact hr r hr')]
    exact h2 r hr'
theorem RIn.mono {n k:Nat}{r:Kri6.Rule} (h:RIn n r) (e:n<=k):RIn k r:=fun q hq=>Nat.lt_of_lt_of_le (h q hq) e
theorem fit_drop {ms:List Nat}{rs rs':List Kri6.Rule} (h:∀ r∈rs',r∈rs) (hne:fitOf ms rs≠[]):fitOf ms rs'≠[]:=by
  obtain ⟨s,hs⟩:=List.exists_mem_of_ne_nil _ hne
  obtain ⟨h1,h2⟩:=fit_mem.mp hs
  exact List.ne_nil_of_mem (fit_mem.mpr ⟨h1,fun r hr=>h2 r (h r hr)⟩)
end Sp
end
section
namespace Sp
open PySem PySem.Spec PyProof.Rows L2
theorem dNN (a b:Nat):decide (V.int (a:Int)=V.int (b:Int))=(a==b):=by
  rw [dII,Bool.eq_iff_iff]
  simp
  omega
def narrowTo (h:Kri7.House) (l:List Kri6.State):Kri7.Abs × Kri7.Ans:=if l=[] then (some h,Kri7.say (-33)) else ((some { h with now:=l }:Kri7.Abs),Kri7.say l.length)
section
variable (ms:List Nat) (rs:List Kri6.Rule) (now:List Kri6.State)
theorem act_all:Kri7.act (some ⟨⟨ms,rs⟩,now⟩) .all=(some ⟨⟨ms,rs⟩,Kri6.Net.states ⟨ms,rs⟩⟩,Kri7.say (Kri6.Net.states ⟨ms,rs⟩).length):=rfl
theorem act_from (s:List Nat):Kri7.act (some ⟨⟨ms,rs⟩,now⟩) (.from_ s)=(match Kri6.Net.read ⟨ms,rs⟩ s with
        | none=>(some ⟨⟨ms,rs⟩,now⟩,Kri7.say (-22))
        | some s=>if Kri6.Net.fits ⟨ms,rs⟩ s=false then (some ⟨⟨ms,rs⟩,now⟩,Kri7.say (-33)) else (some ⟨⟨ms,rs⟩,[s]⟩,Kri7.say 1)):=rfl
theorem act_seen (i p:Nat):Kri7.act (some ⟨⟨ms,rs⟩,now⟩) (.seen i p)=if decide (ms.length<=i)=true then (some ⟨⟨ms,rs⟩,now⟩,Kri7.say (-2)) else if decide (2*ms.getD i 0<p)=true then (some ⟨⟨ms,rs⟩,now⟩,Kri7.say (-22)) else narrowTo ⟨⟨ms,rs⟩,now⟩ (now.filter fun s=>(Kri6.at_ s i).1==p):=rfl
theorem act_goes (i d:Nat):Kri7.act (some ⟨⟨ms,rs⟩,now⟩) (.goes i d)=if decide (ms.length<=i)=true then (some ⟨⟨ms,rs⟩,now⟩,Kri7.say (-2)) else if 2<d then (some ⟨⟨ms,rs⟩,now⟩,Kri7.say (-22)) else narrowTo ⟨⟨ms,rs⟩,now⟩ (now.filter fun s=>(Kri6.at_ s i).2==d):=rfl
theorem act_tick:Kri7.act (some ⟨⟨ms,rs⟩,now⟩) .tick=if Kri7.House.big ⟨⟨ms,rs⟩,now⟩=true then (some ⟨⟨ms,rs⟩,now⟩,Kri7.say (-28)) else narrowTo ⟨⟨ms,rs⟩,now⟩ (((Kri7.House.graph ⟨⟨ms,rs⟩,now⟩).step (Kri7.House.nows ⟨⟨ms,rs⟩,now⟩ (Kri7.House.graph ⟨⟨ms,rs⟩,now⟩))).map fun k=>(Kri7.House.graph ⟨⟨ms,rs⟩,now⟩).nth k):=rfl
theorem act_one (k:Nat):Kri7.act (some ⟨⟨ms,rs⟩,now⟩) (.one k)=(some ⟨⟨ms,rs⟩,now⟩,match now[k]? with
          | none=>Kri7.say (-33)
          | some s=>{ num:=ms.length,nums:=Kri6.flat s }):=rfl
end
def PlH (C:Addr) (H:Hp) (p:Addr) (h:Kri7.House):Prop:=Pl C H p h.net.marks h.net.rules h.now
def Takes (C p:Addr) (H:Hp) (Q:VK) (h:Kri7.House) (c:Kri7.Call):Prop:=
  Gives p H Q (Kri7Neutral.told (Kri7.act (some h) c).2) fun H'=>∃ h',(Kri7.act (some h) c).1=some h'/\PlH C H' p h'
theorem Takes.say {C p:Addr}{H:Hp}{Q:VK}{h h':Kri7.House}{c:Kri7.Call}{n:Int} (k:Takes C p H Q h c) (e:Kri7.act (some h) c=(some h',Kri7.say n)):Gives p H Q [n] fun H'=>PlH C H' p h':=by
  unfold Takes at k
  rw [e] at k
  exact fun H' q k1 hq hR hl=>k H' q k1 hq ⟨h',rfl,hR⟩ hl
theorem Takes.tell {C p:Addr}{H:Hp}{Q:VK}{h h':Kri7.House}{c:Kri7.Call}{a:Kri7.Ans} (k:Takes C p H Q h c) (e:Kri7.act (some h) c=(some h',a)):Gives p H Q (a.num::a.nums) fun H'=>PlH C H' p h':=by
  unfold Takes at k
  rw [e] at k
  exact fun H' q k1 hq hR hl=>k H' q k1 hq ⟨h',rfl,hR⟩ hl
section
variable {P:Program}{w:World}{K:PySem.W.Frag}{mg:Str->Option Value}{base:Heap}{C:Addr}
def spTake (C:Addr):L2.Sp:=fun vs H Q _=>∃ (p a:Addr) (ms:List Nat) (rs:List Kri6.Rule) (now sts:List Kri6.State),vs=[.ref p,.ref a]/\Pl C H p ms rs now/\LR shS H a sts/\sts.Sublist (fitOf ms rs)/\sts.length<=194481 /\
  (sts=[]->Gives p H Q [-33] fun H'=>Pl C H' p ms rs now)/\(sts≠[]->Gives p H Q [(sts.length:Int)] fun H'=>Pl C H' p ms rs sts)
theorem ok_take_current (T:Top K mg) (U:PC K C) (D:DefAt K mg "take_current" s_take_current):OkF P w K mg base 1 "take_current" ["plant","states"] (spTake C):=by
  refine D.ok sc_take_current bi_take_current (fun vs H Q E h=>?_) (fun fa cdv A outer s H vs Q E hr h=>?_)
  · obtain ⟨p,a,ms,rs,now,sts,rfl,_⟩:=h
    rfl
  · obtain ⟨p,a,ms,rs,now,sts,rfl,hp,ha,hf,hl,k1,k2⟩:=h
    obtain ⟨dx,am,ar,af,ac,h1,h2,h3,h4,h5⟩:=hp.ex
    obtain ⟨as,a1,a2,a3,a4⟩:=ha.sq (K:=K)
    refine⟨_,(pss_cons (ps_if (pt_cmpR op_eq (pe_callB call_len_seq (by rfl) T.len PySem.boot_len (pa_cons (pv 1) pa_nil)) pe_int (nomark _)) (pss_one (ps_ret (pe_lst (pa_cons (pe_gint T.CANNOT_BE rfl) pa_nil)))) pss_nil)
      (pss_cons (ps_fld (pv 0) (pv 1) rfl)
      (pss_one (ps_ret (pe_lst (pa_cons (pe_callB call_len_seq (by rfl) T.len PySem.boot_len (pa_cons (pv 1) pa_nil)) pa_nil)))))),?_⟩
    refine⟨_,rfl,a,_,rfl,.inl a1,rfl,_,rfl,ite_ii (fun c=>?_) (fun c=>?_)⟩
    · rw [List.length_map,a3] at c
      have e:sts=[]:=List.eq_nil_of_length_eq_zero (by omega)
      exact gives_one (k1 e) (Keep.refl p H) h1 fun H' s'=>hp.same s'
    · rw [List.length_map,a3] at c
      have e:sts≠[]:=fun z=>c (by rw [z];rfl)
      refine⟨_,rfl,_,rfl,p,C,dx,_,rfl,h1,U.cl,U.nC,(by show 5<1000;decide),?_⟩
      rw [put_c]
      have kp:Keep p H (L2.upd H p (.ins C dx (pf (.bl true) (.ref am) (.ref ar) (.ref af) (.ref a)))):=Keep.upd
      have ha':=LR.keep ni_S ha h1 kp
      obtain ⟨bs,b1,b2,b3,b4⟩:=ha'.sq (K:=K)
      refine⟨_,rfl,a,_,rfl,.inl b1,?_⟩
      rw [List.length_map,b3]
      refine gives_one (k2 e) kp upd_same fun H' s'=>?_
      have pl:Pl C (L2.upd H p (.ins C dx (pf (.bl true) (.ref am) (.ref ar) (.ref af) (.ref a)))) p ms rs sts:=
        ⟨⟨dx,am,ar,af,a,upd_same,h2.keep h1 kp,LR.keep ni_R h3 h1 kp,LR.keep ni_S h4 h1 kp,ha'⟩,hp.mo,hp.rl,hp.r8,hf,hl,e⟩
      exact pl.same s'
def spCall1 (C:Addr) (c:Nat->Kri7.Call):L2.Sp:=fun vs H Q _=>∃ (p:Addr) (x:Nat) (h:Kri7.House),vs=[.ref p,.int x]/\PlH C H p h/\Takes C p H Q h (c x)
def spCall0 (C:Addr) (c:Kri7.Call):L2.Sp:=fun vs H Q _=>∃ (p:Addr) (h:Kri7.House),vs=[.ref p]/\PlH C H p h/\Takes C p H Q h c
def spCall2 (C:Addr) (c:Nat->Nat->Kri7.Call):L2.Sp:=fun vs H Q _=>∃ (p:Addr) (x y:Nat) (h:Kri7.House),vs=[.ref p,.int x,.int y]/\PlH C H p h/\Takes C p H Q h (c x y)
theorem ok_all_states (T:Top K mg) (U:PC K C) (D:DefAt K mg "all_states" s_all_states) (G_take_current:OkF P w K mg base 1 "take_current" ["plant","states"] (spTake C)):OkF P w K mg base 2 "all_states" ["plant"] (spCall0 C .all):=by
  refine D.ok sc_all_states bi_all_states (fun vs H Q E h=>?_) (fun fa cdv A outer s H vs Q E hr h=>?_)
  · obtain ⟨p,h,rfl,_⟩:=h
    rfl
  · obtain ⟨p,⟨⟨ms,rs⟩,now⟩,rfl,hp,k⟩:=h
    have hp:Pl C H p ms rs now:=hp
    obtain ⟨dx,am,ar,af,ac,h1,h2,h3,h4,h5⟩:=hp.ex
    obtain ⟨as,a1,a2,a3,a4⟩:=h4.sq (K:=K)
    refine⟨_,(pss_one (ps_ret (pe_fn G_take_current (hr.mono (by decide)) rfl (pa_cons (pv 0) (pa_cons (pe_callTy call_list_of (by rfl) T.list PyProof.Rows.boot_list (pa_cons (pe_fld (pv 0) (by rfl)) pa_nil)) pa_nil))))),?_⟩
    refine⟨_,rfl,_,rfl,p,C,dx,_,_,rfl,h1,U.cl,U.nF,pf_f,af,_,rfl,.inl a1,fun l hl=>?_⟩
    have s1:=Same.new (o:=.lst (as.map V.ref)) hl
    have ne:fitOf ms rs≠[]:=by
      obtain ⟨s,hs⟩:=List.exists_mem_of_ne_nil _ hp.ne
      exact List.ne_nil_of_mem (hp.nw s hs)
    refine⟨p,l,ms,rs,now,fitOf ms rs,rfl,hp.same s1,⟨as,upd_same,paired_imp (fun _ x e=>s1 _ _ e) a4⟩,List.Sublist.refl _,fit_few hp.mo rs,fun e=>absurd e ne,fun _=>?_⟩
    have e:Kri7.act (some ⟨⟨ms,rs⟩,now⟩) .all=(some ⟨⟨ms,rs⟩,fitOf ms rs⟩,Kri7.say (fitOf ms rs).length):=by
      rw [act_all]
      simp only [states_eq]
    exact (k.say e).mono (Keep.of s1) (s1 _ _ h1)
theorem ok_count_current (T:Top K mg) (U:PC K C) (D:DefAt K mg "count_current" s_count_current):OkF P w K mg base 1 "count_current" ["plant"] (spCall0 C .now):=by
  refine D.ok sc_count_current bi_count_current (fun vs H Q E h=>?_) (fun fa cdv A outer s H vs Q E hr h=>?_)
  · obtain ⟨p,h,rfl,_⟩:=h
    rfl
  · obtain ⟨p,⟨⟨ms,rs⟩,now⟩,rfl,hp,k⟩:=h
    have hp:Pl C H p ms rs now:=hp
    obtain ⟨dx,am,ar,af,ac,h1,h2,h3,h4,h5⟩:=hp.ex
    obtain ⟨as,a1,a2,a3,a4⟩:=h5.sq (K:=K)
    refine⟨_,(pss_one (ps_ret (pe_lst (pa_cons (pe_callB call_len_seq (by rfl) T.len PySem.boot_len (pa_cons (pe_fld (pv 0) (by rfl)) pa_nil)) pa_nil)))),?_⟩
    refine⟨_,rfl,p,C,dx,_,_,rfl,h1,U.cl,U.nC,pf_c,ac,_,rfl,.inl a1,?_⟩
    rw [List.length_map,a3]
    exact gives_one (k.say (h':=⟨⟨ms,rs⟩,now⟩) rfl) (Keep.refl p H) h1 fun H' s'=>hp.same s'
theorem ok_tell_one (T:Top K mg) (U:PC K C) (D:DefAt K mg "tell_one" s_tell_one):OkF P w K mg base 1 "tell_one" ["plant","number"] (spCall1 C .one):=by
  refine D.ok sc_tell_one bi_tell_one (fun vs H Q E h=>?_) (fun fa cdv A outer s H vs Q E hr h=>?_)
  · obtain ⟨p,x,h,rfl,_⟩:=h
    rfl
  · obtain ⟨p,x,⟨⟨ms,rs⟩,now⟩,rfl,hp,k⟩:=h
    have hp:Pl C H p ms rs now:=hp
    obtain ⟨dx,am,ar,af,ac,h1,h2,h3,h4,h5⟩:=hp.ex
    obtain ⟨as,a1,a2,a3,a4⟩:=h5.sq (K:=K)
    refine⟨_,(pss_cons (ps_if (pt_cmpR op_ge (pv 1) (pe_callB call_len_seq (by rfl) T.len PySem.boot_len (pa_cons (pe_fld (pv 0) (by rfl)) pa_nil)) (nomark _)) (pss_one (ps_ret (pe_lst (pa_cons (pe_gint T.CANNOT_BE rfl) pa_nil)))) pss_nil)
      (pss_one (ps_ret (pe_op op_cat (pe_lst (pa_cons (pe_callB call_len_seq (by rfl) T.len PySem.boot_len (pa_cons (pe_fld (pv 0) (by rfl)) pa_nil)) pa_nil)) (pe_ix ix_list (pe_fld (pv 0) (by rfl)) (pv 1) (fun _ _=>rfl)))))),?_⟩
    refine⟨_,rfl,_,rfl,p,C,dx,_,_,rfl,h1,U.cl,U.nC,pf_c,ac,_,rfl,.inl a1,_,_,rfl,rfl,_,rfl,ite_dec (fun c=>?_) (fun c=>?_)⟩
    · rw [List.length_map,a3] at c
      have e:now[x]?=none:=List.getElem?_eq_none_iff.mpr (by omega)
      have e2:Kri7.act (some ⟨⟨ms,rs⟩,now⟩) (.one x)=(some ⟨⟨ms,rs⟩,now⟩,Kri7.say (-33)):=by rw [act_one];simp only [e]
      exact gives_one (k.say e2) (Keep.refl p H) h1 fun H' s'=>hp.same s'
    · rw [List.length_map,a3] at c
      have hx:x<now.length:=by omega
      obtain ⟨b,hb,hbs⟩:=paired_get a4 (List.getElem?_eq_getElem hx)
      have e2:Kri7.act (some ⟨⟨ms,rs⟩,now⟩) (.one x)=(some ⟨⟨ms,rs⟩,now⟩,{ num:=ms.length,nums:=Kri6.flat now[x] }):=by
        rw [act_one]
        simp only [List.getElem?_eq_getElem hx]
      refine⟨_,rfl,p,C,dx,_,_,rfl,h1,U.cl,U.nM,pf_m,am,_,rfl,.inl (SqL.of h2),(by show 1<=sizeLine;decide),fun q hq=>?_⟩
      have s1:=Same.new (o:=.lst [V.int ((ms.map fun (n:Nat)=>V.int n).length:Nat)]) hq
      have hst:=(fit_mem.mp (hp.nw _ (List.getElem_mem hx))).1
      refine⟨_,rfl,p,C,dx,_,_,rfl,s1 _ _ h1,U.cl,U.nC,pf_c,_,rfl,ac,_,_,_,rfl,rfl,s1.seq a1,at_of (j:=x) rfl (by rw [List.getElem?_map,hb];rfl),q,b,_,_,rfl,rfl,upd_same,s1 _ _ hbs,line_le ?_,fun l hl=>?_⟩
      · have:=hp.mo.1
        have:=hst.1
        have e3:((Kri6.flat now[x]).map V.int).length=2*now[x].length:=by rw [List.length_map,flat_length]
        show 1+((Kri6.flat now[x]).map V.int).length<=_
        rw [e3]
        omega
      · have s2:Same H _:=Same.upd (o:=.lst ([V.int ((ms.map fun (n:Nat)=>V.int n).length:Nat)]++(Kri6.flat now[x]).map V.int)) s1 hl
        refine k.tell e2 _ l (Keep.of s2) (s1.free hl) (hp.same s2) ?_
        rw [LI,upd_same,List.length_map]
        rfl
end
section
variable {X:Cx}{K:PySem.W.Frag}{o e a b:Expr}{f:Str}{pos:Pos}{ta tb:TE}
theorem pe_fldK (hK:X.K=K) (he:PE X e ta) (hb:attributeBase e f X.env (eval e X.env)=eval e X.env:=by rfl):PE X (.Attribute e f pos) (tFld K ta f):=by
  subst hK
  exact pe_fld he hb
theorem ixK_list (hK:X.K=K):IxR X (rIxL K):=by
  subst hK
  exact ix_list
theorem inK_seq (hK:X.K=K):OpR X (compareOp .In) (rIn K false):=by
  subst hK
  exact op_in_seq
theorem notInK_seq (hK:X.K=K):OpR X (compareOp .NotIn) (rIn K true):=by
  subst hK
  exact op_notIn_seq
theorem eqK_D (hK:X.K=K) (hu:X.A.units+64<cLine):OpR X (compareOp .Eq) (rEqD K):=by
  subst hK
  exact op_eqD hu
theorem lenK_seq (hK:X.K=K):CallR X (.builtin "len") (fun xs H Q=>∃ p ys,xs=[.ref p]/\(SqL K H p ys \/ SqT K H p ys)/\Q (.int ys.length) H):=by
  subst hK
  exact call_len_seq
end
theorem narrow_take {C p:Addr}{H H1:Hp}{Q:VK}{h:Kri7.House}{c:Kri7.Call}{l:List Kri6.State}{o:HO} (k:Takes C p H Q h c) (e:Kri7.act (some h) c=narrowTo h l) (kp:Keep p H H1) (hp:H1 p=some o) :
    (l=[]->Gives p H1 Q [-33] fun H'=>PlH C H' p h)/\(l≠[]->Gives p H1 Q [(l.length:Int)] fun H'=>PlH C H' p { h with now:=l }):=by
  unfold narrowTo at e
  refine⟨fun z=>?_,fun z=>?_⟩
  · rw [if_pos z] at e
    exact (k.say e).mono kp hp
  · rw [if_neg z] at e
    exact (k.say e).mono kp hp
section
variable {P:Program}{w:World}{K:PySem.W.Frag}{mg:Str->Option Value}{base:Heap}{C:Addr}
theorem ok_seen (T:Top K mg) (U:PC K C) (D:DefAt K mg "seen" s_seen) (G_has_quantity:OkF P w K mg base 1 "has_quantity" ["plant","quantity"] (spHasQ C)) (G_has_place:OkF P w K mg base 2 "has_place" ["plant","quantity","place"] (spHasP C))
    (G_place_of:OkF P w K mg base 1 "place_of" ["state","quantity"] spPlace) (G_take_current:OkF P w K mg base 1 "take_current" ["plant","states"] (spTake C)):OkF P w K mg base 3 "seen" ["plant","quantity","place"] (spCall2 C .seen):=by
  refine D.ok sc_seen bi_seen (fun vs H Q E h=>?_) (fun fa cdv A outer s H vs Q E hr h=>?_)
  · obtain ⟨p,x,y,h,rfl,_⟩:=h
    rfl
  · obtain ⟨p,i,pl,⟨⟨ms,rs⟩,now⟩,rfl,hp,k⟩:=h
    have hp:Pl C H p ms rs now:=hp
    obtain ⟨dx,am,ar,af,ac,h1,h2,h3,h4,h5⟩:=hp.ex
    refine⟨_,(pss_cons (ps_if (pt_not (pt_val (pe_fn G_has_quantity (hr.mono (by decide)) rfl (pa_cons (pv 0) (pa_cons (pv 1) pa_nil))))) (pss_one (ps_ret (pe_lst (pa_cons (pe_gint T.NO_SUCH rfl) pa_nil)))) pss_nil)
      (pss_cons (ps_if (pt_not (pt_val (pe_fn G_has_place (hr.mono (by decide)) rfl (pa_cons (pv 0) (pa_cons (pv 1) (pa_cons (pv 2) pa_nil)))))) (pss_one (ps_ret (pe_lst (pa_cons (pe_gint T.NOT_RIGHT rfl) pa_nil)))) pss_nil)
      (pss_one (ps_ret (pe_fn G_take_current (hr.mono (by decide)) rfl (pa_cons (pv 0) (pa_cons (pe_lc rfl sc_seen.nd (pi_list (pe_fld (pv 0) (by rfl))) (blkOk_by (own:=[("state",3)]) (by show blkC ["plant","quantity","place","state"] (defScope s_seen) _ _=true;decide +kernel)) (fun _ _ _ _ _=>(pg_name (i:=3) sc_seen.nd rfl (Or.inl rfl))) (fun _ _ _ _ _=>(pts_one (pt_cmpR op_eq (pe_fn G_place_of (hr.mono (by decide)) rfl (pa_cons (pv 3) (pa_cons (pv 1) pa_nil))) (pv 2) (nomark _)))) (fun _ _ _ _ _=>(pv 3))) pa_nil))))))),?_⟩
    refine⟨_,rfl,_,rfl,p,i,ms,rs,now,rfl,hp,_,rfl,ite_nb (fun c=>?_) (fun c=>?_)⟩
    · have c':decide (ms.length<=i)=true:=by
        have:=of_decide_eq_false c
        exact decide_eq_true (by omega)
      have e:=act_seen ms rs now i pl
      rw [if_pos c'] at e
      exact gives_one (k.say e) (Keep.refl p H) h1 fun H' s'=>hp.same s'
    · have hi:i<ms.length:=of_decide_eq_true c
      have c':¬ decide (ms.length<=i)=true:=by
        intro z
        have:=of_decide_eq_true z
        omega
      have e:=act_seen ms rs now i pl
      rw [if_neg c'] at e
      refine⟨_,rfl,_,rfl,_,rfl,p,i,pl,ms,rs,now,rfl,hp,hi,_,rfl,ite_nb (fun c2=>?_) (fun c2=>?_)⟩
      · have c3:decide (2*ms.getD i 0<pl)=true:=by simpa using c2
        rw [if_pos c3] at e
        exact gives_one (k.say e) (Keep.refl p H) h1 fun H' s'=>hp.same s'
      · have c3:¬ decide (2*ms.getD i 0<pl)=true:=by
          rw [Bool.not_eq_true',decide_eq_false_iff_not] at c2
          rw [decide_eq_true_iff]
          exact c2
        rw [if_neg c3] at e
        obtain ⟨as,a1,a2,a3,a4⟩:=h5.sq (K:=K)
        have hlen:now.length<=1000000:=by have:=hp.nl;omega
        refine⟨_,rfl,_,rfl,p,C,dx,_,_,rfl,h1,U.cl,U.nC,pf_c,ac,rfl,⟨_,a1⟩,fun Dl hDl=>(filter_lc (K:=K) shS_no h5 hDl hlen (i:=3) (by show 3<4;decide) (fun s=>(Kri6.at_ s i).1==pl) ?_ ?_).2⟩
        · intro b st H3 R s3 hst hb kR
          have hs':=(fit_mem.mp (hp.nw st hst)).1
          refine⟨_,rfl,_,rfl,b,st,i,rfl,hb,(by rw [hs'.1];exact hi),_,rfl,rfl,_,rfl,?_⟩
          rw [dNN]
          exact kR H3 (Same.refl H3)
        · intro H3 s3 l3
          obtain ⟨k1,k2⟩:=narrow_take k e (Keep.of s3) (s3 _ _ h1)
          exact⟨p,Dl,ms,rs,now,_,rfl,hp.same s3,l3,List.filter_sublist.trans hp.sb,Nat.le_trans (List.length_filter_le _ _) hp.nl,k1,k2⟩
theorem ok_goes (T:Top K mg) (U:PC K C) (D:DefAt K mg "goes" s_goes) (G_has_quantity:OkF P w K mg base 1 "has_quantity" ["plant","quantity"] (spHasQ C))
    (G_direction_of:OkF P w K mg base 1 "direction_of" ["state","quantity"] spDir) (G_take_current:OkF P w K mg base 1 "take_current" ["plant","states"] (spTake C)):OkF P w K mg base 2 "goes" ["plant","quantity","direction"] (spCall2 C .goes):=by
  refine D.ok sc_goes bi_goes (fun vs H Q E h=>?_) (fun fa cdv A outer s H vs Q E hr h=>?_)
  · obtain ⟨p,x,y,h,rfl,_⟩:=h
    rfl
  · obtain ⟨p,i,pl,⟨⟨ms,rs⟩,now⟩,rfl,hp,k⟩:=h
    have hp:Pl C H p ms rs now:=hp
    obtain ⟨dx,am,ar,af,ac,h1,h2,h3,h4,h5⟩:=hp.ex
    refine⟨_,(pss_cons (ps_if (pt_not (pt_val (pe_fn G_has_quantity (hr.mono (by decide)) rfl (pa_cons (pv 0) (pa_cons (pv 1) pa_nil))))) (pss_one (ps_ret (pe_lst (pa_cons (pe_gint T.NO_SUCH rfl) pa_nil)))) pss_nil)
      (pss_cons (ps_if (pt_cmpR op_ge (pv 2) (pe_gint T.DIRECTIONS rfl) (nomark _)) (pss_one (ps_ret (pe_lst (pa_cons (pe_gint T.NOT_RIGHT rfl) pa_nil)))) pss_nil)
      (pss_one (ps_ret (pe_fn G_take_current (hr.mono (by decide)) rfl (pa_cons (pv 0) (pa_cons (pe_lc rfl sc_goes.nd (pi_list (pe_fld (pv 0) (by rfl))) (blkOk_by (own:=[("state",3)]) (by show blkC ["plant","quantity","direction","state"] (defScope s_goes) _ _=true;decide +kernel)) (fun _ _ _ _ _=>(pg_name (i:=3) sc_goes.nd rfl (Or.inl rfl))) (fun _ _ _ _ _=>(pts_one (pt_cmpR op_eq (pe_fn G_direction_of (hr.mono (by decide)) rfl (pa_cons (pv 3) (pa_cons (pv 1) pa_nil))) (pv 2) (nomark _)))) (fun _ _ _ _ _=>(pv 3))) pa_nil))))))),?_⟩
    refine⟨_,rfl,_,rfl,p,i,ms,rs,now,rfl,hp,_,rfl,ite_nb (fun c=>?_) (fun c=>?_)⟩
    · have c':decide (ms.length<=i)=true:=by
        have:=of_decide_eq_false c
        exact decide_eq_true (by omega)
      have e:=act_goes ms rs now i pl
      rw [if_pos c'] at e
      exact gives_one (k.say e) (Keep.refl p H) h1 fun H' s'=>hp.same s'
    · have hi:i<ms.length:=of_decide_eq_true c
      have c':¬ decide (ms.length<=i)=true:=by
        intro z
        have:=of_decide_eq_true z
        omega
      have e:=act_goes ms rs now i pl
      rw [if_neg c'] at e
      refine⟨_,rfl,_,_,rfl,rfl,_,rfl,ite_dec (fun c2=>?_) (fun c2=>?_)⟩
      · rw [if_pos (by omega)] at e
        exact gives_one (k.say e) (Keep.refl p H) h1 fun H' s'=>hp.same s'
      · rw [if_neg (by omega)] at e
        obtain ⟨as,a1,a2,a3,a4⟩:=h5.sq (K:=K)
        have hlen:now.length<=1000000:=by have:=hp.nl;omega
        refine⟨_,rfl,_,rfl,p,C,dx,_,_,rfl,h1,U.cl,U.nC,pf_c,ac,rfl,⟨_,a1⟩,fun Dl hDl=>(filter_lc (K:=K) shS_no h5 hDl hlen (i:=3) (by show 3<4;decide) (fun s=>(Kri6.at_ s i).2==pl) ?_ ?_).2⟩
        · intro b st H3 R s3 hst hb kR
          have hs':=(fit_mem.mp (hp.nw st hst)).1
          refine⟨_,rfl,_,rfl,b,st,i,rfl,hb,(by rw [hs'.1];exact hi),_,rfl,rfl,_,rfl,?_⟩
          rw [dNN]
          exact kR H3 (Same.refl H3)
        · intro H3 s3 l3
          obtain ⟨k1,k2⟩:=narrow_take k e (Keep.of s3) (s3 _ _ h1)
          exact⟨p,Dl,ms,rs,now,_,rfl,hp.same s3,l3,List.filter_sublist.trans hp.sb,Nat.le_trans (List.length_filter_le _ _) hp.nl,k1,k2⟩
def tickOf (ms:List Nat) (rs:List Kri6.Rule) (now:List Kri6.State):List Kri6.State:=(fitOf ms rs).filter fun t=>now.any fun s=>goesOn ms s t
theorem ok_tick (T:Top K mg) (U:PC K C) (D:DefAt K mg "tick" s_tick) (G_too_many_fit:OkF P w K mg base 1 "too_many_fit" ["plant"] (spBig C)) (G_follows_some:OkF P w K mg base 5 "follows_some" ["marks","states","later"] spSome) (G_take_current:OkF P w K mg base 1 "take_current" ["plant","states"] (spTake C))
    (math:∀ ms rs now,(∀ s∈now,s∈fitOf ms rs)->(Kri7.Graph.step (Kri7.House.graph ⟨⟨ms,rs⟩,now⟩) (Kri7.House.nows ⟨⟨ms,rs⟩,now⟩ (Kri7.House.graph ⟨⟨ms,rs⟩,now⟩))).map (fun k=>(Kri7.House.graph ⟨⟨ms,rs⟩,now⟩).nth k)=tickOf ms rs now) :
    OkF P w K mg base 6 "tick" ["plant"] (spCall0 C .tick):=by
  refine D.ok sc_tick bi_tick (fun vs H Q E h=>?_) (fun fa cdv A outer s H vs Q E hr h=>?_)
  · obtain ⟨p,h,rfl,_⟩:=h
    rfl
  · obtain ⟨p,⟨⟨ms,rs⟩,now⟩,rfl,hp,k⟩:=h
    have hp:Pl C H p ms rs now:=hp
    obtain ⟨dx,am,ar,af,ac,h1,h2,h3,h4,h5⟩:=hp.ex
    refine⟨_,(pss_cons (ps_if (pt_val (pe_fn G_too_many_fit (hr.mono (by decide)) rfl (pa_cons (pv 0) pa_nil))) (pss_one (ps_ret (pe_lst (pa_cons (pe_gint T.TOO_MANY rfl) pa_nil)))) pss_nil)
      (pss_cons (ps_setLc (i:=1) rfl sc_tick.nd rfl rfl (sw_true rfl rfl rfl (by decide +kernel)) (pi_list (pe_fld (pv 0) (by rfl))) (blkOk_by (own:=[("state",2)]) (by show blkC ["plant","later","state"] (defScope s_tick) _ _=true;decide +kernel)) (fun _ _ _ _ _=>(pg_name (i:=2) sc_tick.nd rfl (Or.inl rfl))) (fun _ _ _ _ _=>(pts_one (pt_val (pe_fn G_follows_some (hr.mono (by decide)) rfl (pa_cons (pe_fldK (K:=K) rfl (pv 0)) (pa_cons (pe_fldK (K:=K) rfl (pv 0)) (pa_cons (pv 2) pa_nil))))))) (fun _ _ _ _ _=>(pv 2)))
      (pss_one (ps_ret (pe_fn G_take_current (hr.mono (by decide)) rfl (pa_cons (pv 0) (pa_cons (pv 1) pa_nil))))))),?_⟩
    obtain ⟨as,a1,a2,a3,a4⟩:=h4.sq (K:=K)
    have e:=act_tick ms rs now
    have eb:Kri7.House.big ⟨⟨ms,rs⟩,now⟩=decide (120<(fitOf ms rs).length):=by
      unfold Kri7.House.big
      rw [states_eq]
      rfl
    rw [eb] at e
    refine⟨_,rfl,p,ms,rs,now,rfl,hp,_,rfl,ite_b (fun c=>?_) (fun c=>?_)⟩
    · rw [if_pos c] at e
      exact gives_one (k.say e) (Keep.refl p H) h1 fun H' s'=>hp.same s'
    · have c:=of_decide_eq_false c
      rw [if_neg (by intro z;exact c (of_decide_eq_true z)),math ms rs now hp.nw] at e
      have hlen:(fitOf ms rs).length<=1000000:=by omega
      refine⟨_,rfl,p,C,dx,_,_,rfl,h1,U.cl,U.nF,pf_f,af,rfl,⟨_,a1⟩,fun Dl hDl=>(filter_lc (K:=K) shS_no h4 hDl hlen (i:=2) (by show 2<3;decide) (fun t=>now.any fun s=>goesOn ms s t) ?_ ?_).2⟩
      · intro b st H3 R s3 hst hb kR
        refine⟨_,rfl,p,C,dx,_,_,rfl,s3 _ _ h1,U.cl,U.nM,pf_m,_,rfl,p,C,dx,_,_,rfl,s3 _ _ h1,U.cl,U.nC,pf_c,_,rfl,am,ac,b,ms,now,st,rfl,s3 _ _ h2,hp.mo,h5.same s3,hb,fun s hs=>(fit_mem.mp (hp.nw s hs)).1,(fit_mem.mp hst).1,fun H4 s4=>⟨_,rfl,kR H4 s4⟩⟩
      · intro H3 s3 l3
        obtain ⟨k1,k2⟩:=narrow_take k e (Keep.of s3) (s3 _ _ h1)
        exact⟨_,rfl,_,rfl,p,Dl,ms,rs,now,tickOf ms rs now,rfl,hp.same s3,l3,List.filter_sublist,Nat.le_trans (List.length_filter_le _ _) (by omega),k1,k2⟩
end
def once (ns:List Int):List Int:=firstMet (fun i=>ns.getD i 0) ns.length
section
variable {X:Cx}
theorem call_set_ints (hh:X.A.handled=none):CallR X (.type "set") (fun xs H Q=>∃ (p:Addr) (ns:List Int),xs=[.ref p]/\SqL X.K H p (ns.map V.int)/\ns.length<=1000 /\
    ∀ l,H l=none->Q (.ref l) (L2.upd H l (.set (fun k=>(once ns).any (·==k)) (once ns).length))):=by
  intro pins s σ H xs us Q I r h
  obtain ⟨p,ns,rfl,hq,hlen,q⟩:=h
  obtain ⟨u,rfl,rx⟩:=vals1 r
  cases rx
  obtain ⟨its,r',pl,hz⟩:=I.list hq
  have hl:=r'.length
  rw [List.length_map] at hl
  have hsz:its.toArray.size=ns.length:=by rw [List.size_toArray,hl]
  refine PySem.call_set_list (items:=its.toArray) (ns:=ns) hh pl.isList (by simpa using intsAre_of r') (by rw [hsz];exact Nat.lt_of_le_of_lt (Nat.add_le_add_right hlen 1) (by decide)) fun h' tk hS hk=>?_
  rw [hsz] at hS
  refine⟨.ref s.heap.objs.size,_,I.laid (t':=tk) (o:=.set (fun k=>(once ns).any (·==k)) (once ns).length) (fun b u e=>hk b u (Heap.lt_size e) e) (Nat.le_refl _) hS,rfl,q _ (I.hok.fresh (Nat.le_refl _))⟩
theorem call_len_setO:CallR X (.builtin "len") (fun xs H Q=>∃ (p:Addr) (S:Int->Bool) (n:Nat),xs=[.ref p]/\H p=some (.set S n)/\(n:Int)<2 ^ 63/\Q (.int n) H):=by
  intro pins s σ H xs us Q I r h
  obtain ⟨p,S,n,rfl,hp,hn,q⟩:=h
  obtain ⟨u,rfl,rx⟩:=vals1 r
  cases rx
  have hS:s.heap.SetOf (intKind X.prog X.w) p S n:=I.hok _ _ hp
  obtain ⟨o,es,ep,t,ho,hex,hd,_,_,_,hf,hsize⟩:=hS
  rw [<- hsize] at hn q
  exact call_len_set ho hex hd hf hn ⟨.int es.size,H,I.tok _,⟨_,rfl⟩,q⟩
end
end Sp
end
section
namespace Sp
def callOf:Kri6.Rule->Kri7.Call
  | .more a b=>.more a b
  | .less a b=>.less a b
  | .sum a b c=>.sum a b c
  | .rate a j b=>.rate a j b
  | .still a=>.still a
  | .meet a j b k=>.meet a j b k
def rmk:Kri6.Rule->List (Nat × Nat)
  | .rate a j _=>[(a,j)]
  | .meet a j b k=>[(a,j),(b,k)]
  | _=>[]
def rtw:Kri6.Rule->Bool
  | .more a b=>a==b
  | .less a b=>a==b
  | .sum a b c=>a==b||(a==c||b==c)
  | .rate a _ b=>a==b
  | .still _=>false
  | .meet a _ b _=>a==b
theorem ite_decide {α:Type} (p:Prop) [Decidable p] (x y:α):(if p then x else y)=if decide p=true then x else y:=by
  by_cases h:p
  · rw [if_pos h,if_pos (decide_eq_true h)]
  · rw [if_neg h,if_neg (by simp [h])]
def addOf (ms:List Nat) (rs:List Kri6.Rule) (now:List Kri6.State) (r:Kri6.Rule):Kri7.Abs × Kri7.Ans:=
  if (rqs r).any (fun q=>decide (ms.length<=q))=true then (some ⟨⟨ms,rs⟩,now⟩,Kri7.say (-2)) else
  if (rtw r||(rmk r).any fun x=>decide (ms.getD x.1 0<=x.2))=true then (some ⟨⟨ms,rs⟩,now⟩,Kri7.say (-22)) else
  if 8<=rs.length then (some ⟨⟨ms,rs⟩,now⟩,Kri7.say (-28)) else
  if fitOf ms (rs++[r])=[] then (some ⟨⟨ms,rs⟩,now⟩,Kri7.say (-33)) else (some ⟨⟨ms,rs++[r]⟩,fitOf ms (rs++[r])⟩,Kri7.say rs.length)
def by6Of (ms:List Nat) (rs:List Kri6.Rule) (now:List Kri6.State) (x:Kri6.Abs × Kri6.Ans):Kri7.Abs × Kri7.Ans:=match x with
  | (some g,r)=>if r.num<0 then (some ⟨⟨ms,rs⟩,now⟩,r) else if g.states=[] then (some ⟨⟨ms,rs⟩,now⟩,Kri7.say (-33)) else (some ⟨g,g.states⟩,r)
  | (none,r)=>(some ⟨⟨ms,rs⟩,now⟩,r)
section
variable (ms:List Nat) (rs:List Kri6.Rule) (now:List Kri6.State)
theorem by6_no {n:Int} (h:n<0):by6Of ms rs now (some ⟨ms,rs⟩,Kri6.say n)=(some ⟨⟨ms,rs⟩,now⟩,Kri7.say n):=by
  unfold by6Of
  dsimp only
  rw [if_pos (show (Kri6.say n).num<0 from h)]
  rfl
theorem by6_yes {ms':List Nat}{rs':List Kri6.Rule}{n:Nat}:by6Of ms rs now (some ⟨ms',rs'⟩,Kri6.say n)=if fitOf ms' rs'=[] then (some ⟨⟨ms,rs⟩,now⟩,Kri7.say (-33)) else (some ⟨⟨ms',rs'⟩,fitOf ms' rs'⟩,Kri7.say n):=by
  unfold by6Of
  dsimp only
  rw [if_neg (show ¬ (Kri6.say (n:Int)).num<0 from by show ¬ (n:Int)<0;omega),states_eq]
  rfl
def putOf (r:Kri6.Rule):Kri6.Abs × Kri6.Ans:=if 8<=rs.length then (some ⟨ms,rs⟩,Kri6.say (-28)) else (some ⟨ms,rs++[r]⟩,Kri6.say rs.length)
def mayPut (a b:Bool) (r:Kri6.Rule):Kri6.Abs × Kri6.Ans:=if a=true then (some ⟨ms,rs⟩,Kri6.say (-2)) else if b=true then (some ⟨ms,rs⟩,Kri6.say (-22)) else putOf ms rs r
theorem by6_put (a b:Bool) (r:Kri6.Rule):by6Of ms rs now (mayPut ms rs a b r)=if a=true then (some ⟨⟨ms,rs⟩,now⟩,Kri7.say (-2)) else if b=true then (some ⟨⟨ms,rs⟩,now⟩,Kri7.say (-22)) else
    if 8<=rs.length then (some ⟨⟨ms,rs⟩,now⟩,Kri7.say (-28)) else if fitOf ms (rs++[r])=[] then (some ⟨⟨ms,rs⟩,now⟩,Kri7.say (-33)) else (some ⟨⟨ms,rs++[r]⟩,fitOf ms (rs++[r])⟩,Kri7.say rs.length):=by
  unfold mayPut
  by_cases ha:a=true
  · rw [if_pos ha,if_pos ha];exact by6_no ms rs now (by decide)
  · rw [if_neg ha,if_neg ha]
    by_cases hb:b=true
    · rw [if_pos hb,if_pos hb];exact by6_no ms rs now (by decide)
    · rw [if_neg hb,if_neg hb]
      unfold putOf
      by_cases hc:8<=rs.length
      · rw [if_pos hc,if_pos hc];exact by6_no ms rs now (by decide)
      · rw [if_neg hc,if_neg hc];exact by6_yes ms rs now
theorem act_rule (r:Kri6.Rule):Kri7.act (some ⟨⟨ms,rs⟩,now⟩) (callOf r)=addOf ms rs now r:=by
  cases r with
  | more a b=>
    have e:Kri7.act (some ⟨⟨ms,rs⟩,now⟩) (callOf (.more a b))=by6Of ms rs now (mayPut ms rs (decide (ms.length<=a)||decide (ms.length<=b)) (decide (a=b)) (.more a b)):=by
      show by6Of ms rs now (Kri6.act (some ⟨ms,rs⟩) (.more a b))=_
      congr 1
      unfold mayPut
      rw [<- ite_decide]
      rfl
    rw [e,by6_put]
    unfold addOf
    have e1:(rqs (.more a b)).any (fun q=>decide (ms.length<=q))=(decide (ms.length<=a)||decide (ms.length<=b)):=by simp [rqs]
    have e2:(rtw (.more a b)||(rmk (.more a b)).any fun x=>decide (ms.getD x.1 0<=x.2))=decide (a=b):=by rw [Bool.eq_iff_iff];simp [rtw,rmk]
    rw [e1,e2]
  | less a b=>
    have e:Kri7.act (some ⟨⟨ms,rs⟩,now⟩) (callOf (.less a b))=by6Of ms rs now (mayPut ms rs (decide (ms.length<=a)||decide (ms.length<=b)) (decide (a=b)) (.less a b)):=by
      show by6Of ms rs now (Kri6.act (some ⟨ms,rs⟩) (.less a b))=_
      congr 1
      unfold mayPut
      rw [<- ite_decide]
      rfl
    rw [e,by6_put]
    unfold addOf
    have e1:(rqs (.less a b)).any (fun q=>decide (ms.length<=q))=(decide (ms.length<=a)||decide (ms.length<=b)):=by simp [rqs]
    have e2:(rtw (.less a b)||(rmk (.less a b)).any fun x=>decide (ms.getD x.1 0<=x.2))=decide (a=b):=by rw [Bool.eq_iff_iff];simp [rtw,rmk]
    rw [e1,e2]
  | sum a b c=>
    have e:Kri7.act (some ⟨⟨ms,rs⟩,now⟩) (callOf (.sum a b c))=by6Of ms rs now (mayPut ms rs (decide (ms.length<=a)||decide (ms.length<=b)||decide (ms.length<=c)) (decide (a=b \/ a=c \/ b=c)) (.sum a b c)):=by
      show by6Of ms rs now (Kri6.act (some ⟨ms,rs⟩) (.sum a b c))=_
      congr 1
      unfold mayPut
      rw [<- ite_decide]
      rfl
    rw [e,by6_put]
    unfold addOf
    have e1:(rqs (.sum a b c)).any (fun q=>decide (ms.length<=q))=(decide (ms.length<=a)||decide (ms.length<=b)||decide (ms.length<=c)):=by simp [rqs,Bool.or_assoc]
    have e2:(rtw (.sum a b c)||(rmk (.sum a b c)).any fun x=>decide (ms.getD x.1 0<=x.2))=decide (a=b \/ a=c \/ b=c):=by
      rw [Bool.eq_iff_iff];simp [rtw,rmk]
    rw [e1,e2]
  | rate a j b=>
    have e:Kri7.act (some ⟨⟨ms,rs⟩,now⟩) (callOf (.rate a j b))=by6Of ms rs now (mayPut ms rs (decide (ms.length<=a)||decide (ms.length<=b)) (decide (a=b \/ decide (ms.getD a 0<=j)=true)) (.rate a j b)):=by
      show by6Of ms rs now (Kri6.act (some ⟨ms,rs⟩) (.rate a j b))=_
      congr 1
      unfold mayPut
      rw [<- ite_decide]
      rfl
    rw [e,by6_put]
    unfold addOf
    have e1:(rqs (.rate a j b)).any (fun q=>decide (ms.length<=q))=(decide (ms.length<=a)||decide (ms.length<=b)):=by simp [rqs]
    have e2:(rtw (.rate a j b)||(rmk (.rate a j b)).any fun x=>decide (ms.getD x.1 0<=x.2))=decide (a=b \/ decide (ms.getD a 0<=j)=true):=by
      rw [Bool.eq_iff_iff];simp [rtw,rmk]
    rw [e1,e2]
  | still a=>
    have e:Kri7.act (some ⟨⟨ms,rs⟩,now⟩) (callOf (.still a))=by6Of ms rs now (mayPut ms rs (decide (ms.length<=a)) false (.still a)):=by
      show by6Of ms rs now (Kri6.act (some ⟨ms,rs⟩) (.still a))=_
      congr 1
    rw [e,by6_put]
    unfold addOf
    have e1:(rqs (.still a)).any (fun q=>decide (ms.length<=q))=decide (ms.length<=a):=by simp [rqs]
    have e2:(rtw (.still a)||(rmk (.still a)).any fun x=>decide (ms.getD x.1 0<=x.2))=false:=by simp [rtw,rmk]
    rw [e1,e2]
  | meet a j b k=>
    have e:Kri7.act (some ⟨⟨ms,rs⟩,now⟩) (callOf (.meet a j b k))=by6Of ms rs now (mayPut ms rs (decide (ms.length<=a)||decide (ms.length<=b)) (decide (a=b \/ decide (ms.getD a 0<=j)=true \/ decide (ms.getD b 0<=k)=true)) (.meet a j b k)):=by
      show by6Of ms rs now (Kri6.act (some ⟨ms,rs⟩) (.meet a j b k))=_
      congr 1
      unfold mayPut
      rw [<- ite_decide]
      rfl
    rw [e,by6_put]
    unfold addOf
    have e1:(rqs (.meet a j b k)).any (fun q=>decide (ms.length<=q))=(decide (ms.length<=a)||decide (ms.length<=b)):=by simp [rqs]
    have e2:(rtw (.meet a j b k)||(rmk (.meet a j b k)).any fun x=>decide (ms.getD x.1 0<=x.2))=decide (a=b \/ decide (ms.getD a 0<=j)=true \/ decide (ms.getD b 0<=k)=true):=by
      rw [Bool.eq_iff_iff];simp [rtw,rmk]
    rw [e1,e2]
theorem act_quantity (m:Nat):Kri7.act (some ⟨⟨ms,rs⟩,now⟩) (.quantity m)=if 3<m then (some ⟨⟨ms,rs⟩,now⟩,Kri7.say (-22)) else if 4<=ms.length \/ 30<Kri6.waysOf (ms++[m]) then (some ⟨⟨ms,rs⟩,now⟩,Kri7.say (-28)) else
    if fitOf (ms++[m]) rs=[] then (some ⟨⟨ms,rs⟩,now⟩,Kri7.say (-33)) else (some ⟨⟨ms++[m],rs⟩,fitOf (ms++[m]) rs⟩,Kri7.say ms.length):=by
  have e:Kri7.act (some ⟨⟨ms,rs⟩,now⟩) (.quantity m)=by6Of ms rs now (if 3<m then (some ⟨ms,rs⟩,Kri6.say (-22)) else if 4<=ms.length \/ 30<Kri6.waysOf (ms++[m]) then (some ⟨ms,rs⟩,Kri6.say (-28)) else (some ⟨ms++[m],rs⟩,Kri6.say ms.length)):=rfl
  rw [e]
  by_cases h1:3<m
  · rw [if_pos h1,if_pos h1];exact by6_no ms rs now (by decide)
  · rw [if_neg h1,if_neg h1]
    by_cases h2:4<=ms.length \/ 30<Kri6.waysOf (ms++[m])
    · rw [if_pos h2,if_pos h2];exact by6_no ms rs now (by decide)
    · rw [if_neg h2,if_neg h2];exact by6_yes ms rs now
theorem act_drop (r:Nat):Kri7.act (some ⟨⟨ms,rs⟩,now⟩) (.drop r)=if decide (rs.length<=r)=true then (some ⟨⟨ms,rs⟩,now⟩,Kri7.say (-2)) else
    if fitOf ms (rs.eraseIdx r)=[] then (some ⟨⟨ms,rs⟩,now⟩,Kri7.say (-33)) else (some ⟨⟨ms,rs.eraseIdx r⟩,fitOf ms (rs.eraseIdx r)⟩,Kri7.say (rs.eraseIdx r).length):=by
  have e:Kri7.act (some ⟨⟨ms,rs⟩,now⟩) (.drop r)=by6Of ms rs now (if decide (rs.length<=r)=true then (some ⟨ms,rs⟩,Kri6.say (-2)) else (some ⟨ms,rs.eraseIdx r⟩,Kri6.say (rs.eraseIdx r).length)):=rfl
  rw [e]
  by_cases h1:decide (rs.length<=r)=true
  · rw [if_pos h1,if_pos h1];exact by6_no ms rs now (by decide)
  · rw [if_neg h1,if_neg h1];exact by6_yes ms rs now
end
end Sp
end
section
namespace Sp
open PySem PySem.Spec PyProof.Rows L2
def nints (l:List Nat):List Int:=l.map fun (n:Nat)=>(n:Int)
theorem nints_map (l:List Nat):(nints l).map V.int=l.map fun (n:Nat)=>V.int n:=by
  unfold nints
  rw [List.map_map]
  rfl
def shM (x:Nat × Nat):HO:=.tup [.int x.1,.int x.2]
section
variable {P:Program}{w:World}{K:PySem.W.Frag}{mg:Str->Option Value}{base:Heap}{C:Addr}
def spRQ:L2.Sp:=fun vs H Q _=>∃ (t:Addr) (r:Kri6.Rule),vs=[.ref t]/\H t=some (shR r)/\∀ (H':Hp) (q:Addr),H q=none->Same H H'->LN H' q (rqs r)->Q (.ref q) H'
theorem ok_rule_quantities (T:Top K mg) (D:DefAt K mg "rule_quantities" s_rule_quantities):OkF P w K mg base 1 "rule_quantities" ["rule"] spRQ:=by
  refine D.ok sc_rule_quantities bi_rule_quantities (fun vs H Q E h=>?_) (fun fa cdv A outer s H vs Q E hr h=>?_)
  · obtain ⟨t,r,rfl,_⟩:=h
    rfl
  · obtain ⟨t,r,rfl,ht,k⟩:=h
    refine⟨_,(pss_cons (ps_if (pt_cmpR op_in_seq (pe_ix ix_tup (pv 0) pe_int (fun _ _=>rfl)) (pe_tup (pa_cons pe_str (pa_cons pe_str pa_nil))) (by with_unfolding_all rfl)) (pss_one (ps_ret (pe_lst (pa_cons (pe_ix ix_tup (pv 0) pe_int (fun _ _=>rfl)) (pa_cons (pe_ix ix_tup (pv 0) pe_int (fun _ _=>rfl)) pa_nil))))) pss_nil)
      (pss_one (ps_ret (pe_callTy call_list_of (by rfl) T.list PyProof.Rows.boot_list (pa_cons (pe_slice sl_tup (pv 0) (po_some pe_int) po_none) pa_nil))))),?_⟩
    have two:(2:Nat)<=sizeLine:=by decide
    cases r with
    | rate x j y=>
      refine⟨_,rfl,t,_,_,_,rfl,rfl,SqT.of ht,atI_nat (j:=0) rfl,two,fun p hp=>?_⟩
      refine⟨p,_,rfl,.inr (SqT.of upd_same),rfl,rfl,_,rfl,?_⟩
      rw [show inV (V.str "rate") [V.str "rate",V.str "meet"]=true by decide +kernel]
      have s1:=Same.new (o:=.tup [V.str "rate",V.str "meet"]) hp
      refine iteT ⟨_,rfl,t,_,_,_,rfl,rfl,SqT.of (s1 _ _ ht),atI_nat (j:=1) rfl,_,rfl,t,_,_,_,rfl,rfl,SqT.of (s1 _ _ ht),atI_nat (j:=3) rfl,two,fun q hq=>?_⟩
      exact k _ q (s1.free hq) (Same.upd s1 hq) upd_same
    | meet x j y l=>
      refine⟨_,rfl,t,_,_,_,rfl,rfl,SqT.of ht,atI_nat (j:=0) rfl,two,fun p hp=>?_⟩
      refine⟨p,_,rfl,.inr (SqT.of upd_same),rfl,rfl,_,rfl,?_⟩
      rw [show inV (V.str "meet") [V.str "rate",V.str "meet"]=true by decide +kernel]
      have s1:=Same.new (o:=.tup [V.str "rate",V.str "meet"]) hp
      refine iteT ⟨_,rfl,t,_,_,_,rfl,rfl,SqT.of (s1 _ _ ht),atI_nat (j:=1) rfl,_,rfl,t,_,_,_,rfl,rfl,SqT.of (s1 _ _ ht),atI_nat (j:=3) rfl,two,fun q hq=>?_⟩
      exact k _ q (s1.free hq) (Same.upd s1 hq) upd_same
    | more x y=>
      refine⟨_,rfl,t,_,_,_,rfl,rfl,SqT.of ht,atI_nat (j:=0) rfl,two,fun p hp=>?_⟩
      refine⟨p,_,rfl,.inr (SqT.of upd_same),rfl,rfl,_,rfl,?_⟩
      rw [show inV (V.str "more") [V.str "rate",V.str "meet"]=false by decide +kernel]
      have s1:=Same.new (o:=.tup [V.str "rate",V.str "meet"]) hp
      refine iteF ⟨_,rfl,_,rfl,t,_,rfl,SqT.of (s1 _ _ ht),(fun z=>absurd (show (1:Nat)=0 from z.1) (by decide)),fun p1 hp1=>?_⟩
      refine⟨p1,_,rfl,.inr (SqT.of upd_same),fun q hq=>?_⟩
      exact k _ q ((Same.upd s1 hp1).free hq) (Same.upd (Same.upd s1 hp1) hq) upd_same
    | less x y=>
      refine⟨_,rfl,t,_,_,_,rfl,rfl,SqT.of ht,atI_nat (j:=0) rfl,two,fun p hp=>?_⟩
      refine⟨p,_,rfl,.inr (SqT.of upd_same),rfl,rfl,_,rfl,?_⟩
      rw [show inV (V.str "less") [V.str "rate",V.str "meet"]=false by decide +kernel]
      have s1:=Same.new (o:=.tup [V.str "rate",V.str "meet"]) hp
      refine iteF ⟨_,rfl,_,rfl,t,_,rfl,SqT.of (s1 _ _ ht),(fun z=>absurd (show (1:Nat)=0 from z.1) (by decide)),fun p1 hp1=>?_⟩
      refine⟨p1,_,rfl,.inr (SqT.of upd_same),fun q hq=>?_⟩
      exact k _ q ((Same.upd s1 hp1).free hq) (Same.upd (Same.upd s1 hp1) hq) upd_same
    | sum x y z=>
      refine⟨_,rfl,t,_,_,_,rfl,rfl,SqT.of ht,atI_nat (j:=0) rfl,two,fun p hp=>?_⟩
      refine⟨p,_,rfl,.inr (SqT.of upd_same),rfl,rfl,_,rfl,?_⟩
      rw [show inV (V.str "sum_of") [V.str "rate",V.str "meet"]=false by decide +kernel]
      have s1:=Same.new (o:=.tup [V.str "rate",V.str "meet"]) hp
      refine iteF ⟨_,rfl,_,rfl,t,_,rfl,SqT.of (s1 _ _ ht),(fun z=>absurd (show (1:Nat)=0 from z.1) (by decide)),fun p1 hp1=>?_⟩
      refine⟨p1,_,rfl,.inr (SqT.of upd_same),fun q hq=>?_⟩
      exact k _ q ((Same.upd s1 hp1).free hq) (Same.upd (Same.upd s1 hp1) hq) upd_same
    | still x=>
      refine⟨_,rfl,t,_,_,_,rfl,rfl,SqT.of ht,atI_nat (j:=0) rfl,two,fun p hp=>?_⟩
      refine⟨p,_,rfl,.inr (SqT.of upd_same),rfl,rfl,_,rfl,?_⟩
      rw [show inV (V.str "still") [V.str "rate",V.str "meet"]=false by decide +kernel]
      have s1:=Same.new (o:=.tup [V.str "rate",V.str "meet"]) hp
      refine iteF ⟨_,rfl,_,rfl,t,_,rfl,SqT.of (s1 _ _ ht),(fun z=>absurd (show (1:Nat)=0 from z.1) (by decide)),fun p1 hp1=>?_⟩
      refine⟨p1,_,rfl,.inr (SqT.of upd_same),fun q hq=>?_⟩
      exact k _ q ((Same.upd s1 hp1).free hq) (Same.upd (Same.upd s1 hp1) hq) upd_same
def spRM:L2.Sp:=fun vs H Q _=>∃ (t:Addr) (r:Kri6.Rule),vs=[.ref t]/\H t=some (shR r)/\∀ (H':Hp) (q:Addr),H q=none->Same H H'->LR shM H' q (rmk r)->Q (.ref q) H'
theorem ok_rule_marks (T:Top K mg) (D:DefAt K mg "rule_marks" s_rule_marks):OkF P w K mg base 1 "rule_marks" ["rule"] spRM:=by
  refine D.ok sc_rule_marks bi_rule_marks (fun vs H Q E h=>?_) (fun fa cdv A outer s H vs Q E hr h=>?_)
  · obtain ⟨t,r,rfl,_⟩:=h
    rfl
  · obtain ⟨t,r,rfl,ht,k⟩:=h
    refine⟨_,(pss_cons (ps_if (pt_cmpR op_eq (pe_ix ix_tup (pv 0) pe_int (fun _ _=>rfl)) pe_str (nomark _)) (pss_one (ps_ret (pe_lst (pa_cons (pe_tup (pa_cons (pe_ix ix_tup (pv 0) pe_int (fun _ _=>rfl)) (pa_cons (pe_ix ix_tup (pv 0) pe_int (fun _ _=>rfl)) pa_nil))) pa_nil)))) pss_nil)
      (pss_cons (ps_if (pt_cmpR op_eq (pe_ix ix_tup (pv 0) pe_int (fun _ _=>rfl)) pe_str (nomark _)) (pss_one (ps_ret (pe_lst (pa_cons (pe_tup (pa_cons (pe_ix ix_tup (pv 0) pe_int (fun _ _=>rfl)) (pa_cons (pe_ix ix_tup (pv 0) pe_int (fun _ _=>rfl)) pa_nil))) (pa_cons (pe_tup (pa_cons (pe_ix ix_tup (pv 0) pe_int (fun _ _=>rfl)) (pa_cons (pe_ix ix_tup (pv 0) pe_int (fun _ _=>rfl)) pa_nil))) pa_nil))))) pss_nil)
      (pss_one (ps_ret (pe_lst pa_nil))))),?_⟩
    have one:(1:Nat)<=sizeLine:=by decide
    have two:(2:Nat)<=sizeLine:=by decide
    have no:∀ {i j:Str}{A B:Prop},i≠j->B->if decide (V.str i=V.str j)=true then A else B:=fun h1 h2=>ite_ss (fun c=>absurd c h1) fun _=>h2
    have yes:∀ {i:Str}{A B:Prop},A->if decide (V.str i=V.str i)=true then A else B:=fun h1=>ite_ss (fun _=>h1) fun c=>absurd rfl c
    cases r with
    | rate x j y=>
      refine⟨_,rfl,t,_,_,_,rfl,rfl,SqT.of ht,atI_nat (j:=0) rfl,rfl,_,rfl,yes ?_⟩
      refine⟨_,rfl,t,_,_,_,rfl,rfl,SqT.of ht,atI_nat (j:=1) rfl,_,rfl,t,_,_,_,rfl,rfl,SqT.of ht,atI_nat (j:=2) rfl,two,fun p hp=>⟨one,fun q hq=>?_⟩⟩
      have s1:=Same.new (o:=.tup [V.int x,V.int j]) hp
      have s2:=Same.new (o:=.lst [V.ref p]) hq
      exact k _ q (s1.free hq) (s1.trans s2) ⟨[p],upd_same,.cons (s2 _ _ upd_same) .nil⟩
    | meet x j y l=>
      refine⟨_,rfl,t,_,_,_,rfl,rfl,SqT.of ht,atI_nat (j:=0) rfl,rfl,_,rfl,no (by decide +kernel) ?_⟩
      refine⟨_,rfl,t,_,_,_,rfl,rfl,SqT.of ht,atI_nat (j:=0) rfl,rfl,_,rfl,yes ?_⟩
      refine⟨_,rfl,t,_,_,_,rfl,rfl,SqT.of ht,atI_nat (j:=1) rfl,_,rfl,t,_,_,_,rfl,rfl,SqT.of ht,atI_nat (j:=2) rfl,two,fun p hp=>?_⟩
      have s1:=Same.new (o:=.tup [V.int x,V.int j]) hp
      refine⟨_,rfl,t,_,_,_,rfl,rfl,SqT.of (s1 _ _ ht),atI_nat (j:=3) rfl,_,rfl,t,_,_,_,rfl,rfl,SqT.of (s1 _ _ ht),atI_nat (j:=4) rfl,two,fun p2 hp2=>⟨two,fun q hq=>?_⟩⟩
      have s2:=Same.new (o:=.tup [V.int y,V.int l]) hp2
      have s3:=Same.new (o:=.lst [V.ref p,V.ref p2]) hq
      exact k _ q ((s1.trans s2).free hq) ((s1.trans s2).trans s3) ⟨[p,p2],upd_same,.cons (s3 _ _ (s2 _ _ upd_same)) (.cons (s3 _ _ upd_same) .nil)⟩
    | more x y=>
      refine⟨_,rfl,t,_,_,_,rfl,rfl,SqT.of ht,atI_nat (j:=0) rfl,rfl,_,rfl,no (by decide +kernel) ?_⟩
      refine⟨_,rfl,t,_,_,_,rfl,rfl,SqT.of ht,atI_nat (j:=0) rfl,rfl,_,rfl,no (by decide +kernel) ?_⟩
      exact⟨Nat.zero_le _,fun q hq=>k _ q hq (Same.new hq) (LR.nil upd_same)⟩
    | less x y=>
      refine⟨_,rfl,t,_,_,_,rfl,rfl,SqT.of ht,atI_nat (j:=0) rfl,rfl,_,rfl,no (by decide +kernel) ?_⟩
      refine⟨_,rfl,t,_,_,_,rfl,rfl,SqT.of ht,atI_nat (j:=0) rfl,rfl,_,rfl,no (by decide +kernel) ?_⟩
      exact⟨Nat.zero_le _,fun q hq=>k _ q hq (Same.new hq) (LR.nil upd_same)⟩
    | sum x y z=>
      refine⟨_,rfl,t,_,_,_,rfl,rfl,SqT.of ht,atI_nat (j:=0) rfl,rfl,_,rfl,no (by decide +kernel) ?_⟩
      refine⟨_,rfl,t,_,_,_,rfl,rfl,SqT.of ht,atI_nat (j:=0) rfl,rfl,_,rfl,no (by decide +kernel) ?_⟩
      exact⟨Nat.zero_le _,fun q hq=>k _ q hq (Same.new hq) (LR.nil upd_same)⟩
    | still x=>
      refine⟨_,rfl,t,_,_,_,rfl,rfl,SqT.of ht,atI_nat (j:=0) rfl,rfl,_,rfl,no (by decide +kernel) ?_⟩
      refine⟨_,rfl,t,_,_,_,rfl,rfl,SqT.of ht,atI_nat (j:=0) rfl,rfl,_,rfl,no (by decide +kernel) ?_⟩
      exact⟨Nat.zero_le _,fun q hq=>k _ q hq (Same.new hq) (LR.nil upd_same)⟩
end
theorem once_len (r:Kri6.Rule):decide (((once ((rqs r).map fun (n:Nat)=>(n:Int))).length:Int)<((rqs r).map fun (n:Nat)=>V.int n).length)=rtw r:=by
  rw [List.length_map]
  cases r <;> simp [rqs,rtw,once,firstMet,step_dedup,List.range_succ] <;> grind
section
variable {P:Program}{w:World}{K:PySem.W.Frag}{mg:Str->Option Value}{base:Heap}{C:Addr}
def spMissQ (C:Addr):L2.Sp:=fun vs H Q _=>∃ (p t:Addr) (r:Kri6.Rule) (ms:List Nat) (rs:List Kri6.Rule) (now:List Kri6.State),vs=[.ref p,.ref t]/\Pl C H p ms rs now/\H t=some (shR r) /\
  ∀ H',Same H H'->Q (.bl ((rqs r).any fun q=>decide (ms.length<=q))) H'
theorem ok_names_missing_quantity (T:Top K mg) (U:PC K C) (D:DefAt K mg "names_missing_quantity" s_names_missing_quantity) (G_rule_quantities:OkF P w K mg base 1 "rule_quantities" ["rule"] spRQ)
    (G_has_quantity:OkF P w K mg base 1 "has_quantity" ["plant","quantity"] (spHasQ C)):OkF P w K mg base 2 "names_missing_quantity" ["plant","rule"] (spMissQ C):=by
  refine D.ok sc_names_missing_quantity bi_names_missing_quantity (fun vs H Q E h=>?_) (fun fa cdv A outer s H vs Q E hr h=>?_)
  · obtain ⟨p,t,r,ms,rs,now,rfl,_⟩:=h
    rfl
  · obtain ⟨p,t,r,ms,rs,now,rfl,hp,ht,k⟩:=h
    refine⟨_,(pss_cons (ps_for PassesOwn.never rfl (pi_list (pe_fn G_rule_quantities (hr.mono (by decide)) rfl (pa_cons (pv 1) pa_nil))) (pg_name (i:=2) sc_names_missing_quantity.nd rfl (Or.inl rfl))
        (pss_one (ps_if (pt_not (pt_val (pe_fn G_has_quantity (hr.mono (by decide)) rfl (pa_cons (pv 0) (pa_cons (pv 2) pa_nil))))) (pss_one (ps_ret pe_bl)) pss_nil)))
      (pss_one (ps_ret pe_bl))),?_⟩
    refine⟨_,rfl,t,r,rfl,ht,fun H1 q hq s1 l1=>⟨q,rfl,⟨_,SqL.of l1⟩,?_⟩⟩
    refine for_list (K:=K) (a:=q) (xs:=(rqs r).map fun (n:Nat)=>V.int n) (fun i σ H'=>∃ v2:Option V,σ=[some (.ref p),some (.ref t),v2]/\H'=H1/\((rqs r).take i).any (fun q=>decide (ms.length<=q))=false)
      ⟨none,rfl,rfl,rfl⟩ (fun i σ H' _ ⟨_,_,e,_⟩=>by rw [e];exact SqL.of l1) ?_ ?_
    · rintro i x σ H2 hi ⟨v2,rfl,rfl,q1⟩
      obtain ⟨y,hy,rfl⟩:=map_at hi
      refine⟨_,rfl,_,rfl,p,y,ms,rs,now,rfl,hp.same s1,_,rfl,ite_nb (fun c=>?_) (fun c=>?_)⟩
      · have e:(rqs r).any (fun q=>decide (ms.length<=q))=true:=List.any_eq_true.mpr ⟨y,List.mem_of_getElem? hy,decide_eq_true (by have:=of_decide_eq_false c;omega)⟩
        have k:=k H2 s1
        rw [e] at k
        exact k
      · refine⟨_,rfl,rfl,?_⟩
        have:=of_decide_eq_true c
        rw [take_snoc hy,List.any_append,q1,List.any_cons,List.any_nil,decide_eq_false (by omega)]
        rfl
    · rintro σ H2 ⟨v2,rfl,rfl,q1⟩
      rw [List.length_map,List.take_length] at q1
      have k:=k H2 s1
      rw [q1] at k
      exact k
def spMissM (C:Addr):L2.Sp:=fun vs H Q _=>∃ (p t:Addr) (r:Kri6.Rule) (ms:List Nat) (rs:List Kri6.Rule) (now:List Kri6.State),vs=[.ref p,.ref t]/\Pl C H p ms rs now/\H t=some (shR r)/\RIn ms.length r /\
  ∀ H',Same H H'->Q (.bl ((rmk r).any fun x=>decide (ms.getD x.1 0<=x.2))) H'
theorem ok_names_missing_mark (T:Top K mg) (U:PC K C) (D:DefAt K mg "names_missing_mark" s_names_missing_mark) (G_rule_marks:OkF P w K mg base 1 "rule_marks" ["rule"] spRM)
    (G_has_mark:OkF P w K mg base 1 "has_mark" ["plant","quantity","mark"] (spHasM C)):OkF P w K mg base 2 "names_missing_mark" ["plant","rule"] (spMissM C):=by
  refine D.ok sc_names_missing_mark bi_names_missing_mark (fun vs H Q E h=>?_) (fun fa cdv A outer s H vs Q E hr h=>?_)
  · obtain ⟨p,t,r,ms,rs,now,rfl,_⟩:=h
    rfl
  · obtain ⟨p,t,r,ms,rs,now,rfl,hp,ht,hin,k⟩:=h
    refine⟨_,(pss_cons (ps_for PassesOwn.never rfl (pi_list (pe_fn G_rule_marks (hr.mono (by decide)) rfl (pa_cons (pv 1) pa_nil))) (pg_tup rfl (pgs_cons (pg_name (i:=2) sc_names_missing_mark.nd rfl (Or.inl rfl)) (pgs_cons (pg_name (i:=3) sc_names_missing_mark.nd rfl (Or.inl rfl)) pgs_nil)))
        (pss_one (ps_if (pt_not (pt_val (pe_fn G_has_mark (hr.mono (by decide)) rfl (pa_cons (pv 0) (pa_cons (pv 2) (pa_cons (pv 3) pa_nil)))))) (pss_one (ps_ret pe_bl)) pss_nil)))
      (pss_one (ps_ret pe_bl))),?_⟩
    refine⟨_,rfl,t,r,rfl,ht,fun H1 q hq s1 l1=>?_⟩
    obtain ⟨as,a1,a2,a3,a4⟩:=l1.sq (K:=K)
    refine⟨q,rfl,⟨_,a1⟩,?_⟩
    refine for_list (K:=K) (a:=q) (xs:=as.map V.ref) (fun i σ H'=>∃ v2 v3:Option V,σ=[some (.ref p),some (.ref t),v2,v3]/\H'=H1/\((rmk r).take i).any (fun x=>decide (ms.getD x.1 0<=x.2))=false)
      ⟨none,none,rfl,rfl,rfl⟩ (fun i σ H' _ ⟨_,_,_,e,_⟩=>by rw [e];exact a1) ?_ ?_
    · rintro i x σ H2 hi ⟨v2,v3,rfl,rfl,q1⟩
      obtain ⟨b,hb,rfl⟩:=map_at hi
      obtain ⟨y,hy,hby⟩:=paired_getL a4 hb
      have hy1:y.1<ms.length:=by
        have hm:=List.mem_of_getElem? hy
        cases r <;> simp [rmk] at hm
        · rcases hm with rfl
          exact hin _ (by simp [rqs])
        · rcases hm with rfl | rfl
          · exact hin _ (by simp [rqs])
          · exact hin _ (by simp [rqs])
      refine⟨b,_,rfl,SqT.of hby,rfl,_,_,rfl,_,_,rfl,rfl,?_⟩
      refine⟨_,rfl,_,rfl,_,rfl,p,y.1,y.2,ms,rs,now,rfl,hp.same s1,hy1,_,rfl,ite_nb (fun c=>?_) (fun c=>?_)⟩
      · have e:(rmk r).any (fun x=>decide (ms.getD x.1 0<=x.2))=true:=List.any_eq_true.mpr ⟨y,List.mem_of_getElem? hy,decide_eq_true (by have:=of_decide_eq_false c;omega)⟩
        have k:=k H2 s1
        rw [e] at k
        exact k
      · refine⟨_,_,rfl,rfl,?_⟩
        have:=of_decide_eq_true c
        rw [take_snoc hy,List.any_append,q1,List.any_cons,List.any_nil,decide_eq_false (by omega)]
        rfl
    · rintro σ H2 ⟨v2,v3,rfl,rfl,q1⟩
      rw [List.length_map,a3,List.take_length] at q1
      have k:=k H2 s1
      rw [q1] at k
      exact k
def spTwice:L2.Sp:=fun vs H Q _=>∃ (t:Addr) (r:Kri6.Rule),vs=[.ref t]/\H t=some (shR r)/\∀ H',Same H H'->Q (.bl (rtw r)) H'
theorem rqs_len (r:Kri6.Rule):(rqs r).length<=3:=by cases r <;> simp [rqs]
theorem ok_names_one_twice (T:Top K mg) (D:DefAt K mg "names_one_twice" s_names_one_twice) (G_rule_quantities:OkF P w K mg base 1 "rule_quantities" ["rule"] spRQ):OkF P w K mg base 2 "names_one_twice" ["rule"] spTwice:=by
  refine D.ok sc_names_one_twice bi_names_one_twice (fun vs H Q E h=>?_) (fun fa cdv A outer s H vs Q E hr h=>?_)
  · obtain ⟨t,r,rfl,_⟩:=h
    rfl
  · obtain ⟨t,r,rfl,ht,k⟩:=h
    refine⟨_,(pss_cons (ps_set (i:=1) sc_names_one_twice.nd rfl (Or.inl rfl) (pe_fn G_rule_quantities (hr.mono (by decide)) rfl (pa_cons (pv 0) pa_nil)))
      (pss_one (ps_ret (pe_cmpR op_lt (pe_callB call_len_setO (by rfl) T.len PySem.boot_len (pa_cons (pe_callTy (call_set_ints hr.hd) (by rfl) T.set PyProof.Rows.boot_set (pa_cons (pv 1) pa_nil)) pa_nil)) (pe_callB call_len_seq (by rfl) T.len PySem.boot_len (pa_cons (pv 1) pa_nil)) (nomark _))))),?_⟩
    refine⟨_,rfl,t,r,rfl,ht,fun H1 q hq s1 l1=>?_⟩
    have l1':SqL K H1 q ((nints (rqs r)).map V.int):=by rw [nints_map];exact SqL.of l1
    have h3:=rqs_len r
    refine⟨_,rfl,q,nints (rqs r),rfl,l1',(by unfold nints;rw [List.length_map];omega),fun l hl=>?_⟩
    have s2:=Same.new (o:=.set (fun k=>(once (nints (rqs r))).any (·==k)) (once (nints (rqs r))).length) hl
    have ho:(once (nints (rqs r))).length<=3:=by
      refine Nat.le_trans (firstMet_length_le _ _) ?_
      unfold nints
      rw [List.length_map]
      exact h3
    refine⟨l,_,_,rfl,upd_same,by omega,_,rfl,q,_,rfl,.inl (s2.seq (SqL.of l1)),_,_,rfl,rfl,?_⟩
    have k:=k _ (s1.trans s2)
    rw [<- once_len r] at k
    exact k
end
theorem ways_snoc (l:List Nat) (m:Nat):Kri6.waysOf (l++[m])=Kri6.waysOf l*(2*m+1):=by
  unfold Kri6.waysOf
  rw [List.map_append,List.foldl_append]
  rfl
theorem gives_oneE {p:Addr}{H H1:Hp}{Q:VK}{n n':Int}{R:Hp->Prop}{o:HO} (en:n'=n) (k:Gives p H Q [n] R) (kp:Keep p H H1) (hp:H1 p=some o) (hR:∀ H',Same H1 H'->R H') :
    [V.int n'].length<=sizeLine/\∀ q,H1 q=none->Q (.ref q) (L2.upd H1 q (.lst [.int n'])):=by
  subst en
  exact gives_one k kp hp hR
theorem Pl.fresh {C:Addr}{H':Hp}{p:Addr}{ms:List Nat}{rs:List Kri6.Rule}{dx am ar af ac:Addr} (hp:H' p=some (.ins C dx (pf (.bl true) (.ref am) (.ref ar) (.ref af) (.ref ac)))) (h1:LN H' am ms) (h2:LR shR H' ar rs)
    (h3:LR shS H' af (fitOf ms rs)) (h4:LR shS H' ac (fitOf ms rs)) (mo:MOk ms) (rl:∀ r∈rs,RIn ms.length r) (r8:rs.length<=8) (ne:fitOf ms rs≠[]):Pl C H' p ms rs (fitOf ms rs):=
  ⟨⟨dx,am,ar,af,ac,hp,h1,h2,h3,h4⟩,mo,rl,r8,List.Sublist.refl _,fit_few mo rs,ne⟩
theorem Pl.fitNe {C:Addr}{H:Hp}{p:Addr}{ms:List Nat}{rs:List Kri6.Rule}{now:List Kri6.State} (hp:Pl C H p ms rs now):fitOf ms rs≠[]:=by
  obtain ⟨s,hs⟩:=List.exists_mem_of_ne_nil _ hp.ne
  exact List.ne_nil_of_mem (hp.nw s hs)
section
variable {P:Program}{w:World}{K:PySem.W.Frag}{mg:Str->Option Value}{base:Heap}{C:Addr}
def spMul:L2.Sp:=fun vs H Q _=>∃ (a:Addr) (ms:List Nat),vs=[.ref a]/\LN H a ms/\(∀ m∈ms,m<=3)/\Q (.int (Kri6.waysOf ms)) H
theorem ok_multiply_places (T:Top K mg) (D:DefAt K mg "multiply_places" s_multiply_places) (G_count_places:OkF P w K mg base 1 "count_places" ["marks"] spCount):OkF P w K mg base 2 "multiply_places" ["marks"] spMul:=by
  refine D.ok sc_multiply_places bi_multiply_places (fun vs H Q E h=>?_) (fun fa cdv A outer s H vs Q E hr h=>?_)
  · obtain ⟨a,ms,rfl,_⟩:=h
    rfl
  · obtain ⟨a,ms,rfl,ha,hm,k⟩:=h
    refine⟨_,(pss_cons (ps_set (i:=1) sc_multiply_places.nd rfl (Or.inl rfl) pe_int)
      (pss_cons (ps_for PassesOwn.never rfl (pi_list (pv 0)) (pg_name (i:=2) sc_multiply_places.nd rfl (Or.inl rfl))
        (pss_one (ps_set (i:=1) sc_multiply_places.nd rfl (Or.inl rfl) (pe_op op_mul (pv 1) (pe_fn G_count_places (hr.mono (by decide)) rfl (pa_cons (pv 2) pa_nil))))))
      (pss_one (ps_ret (pv 1))))),?_⟩
    refine⟨_,rfl,a,rfl,⟨_,SqL.of ha⟩,?_⟩
    refine for_list (K:=K) (a:=a) (xs:=ms.map fun (n:Nat)=>V.int n) (fun i σ H'=>∃ v2:Option V,σ=[some (.ref a),some (.int (Kri6.waysOf (ms.take i))),v2]/\H'=H) ⟨none,rfl,rfl⟩ (fun i σ H' _ ⟨_,_,e⟩=>by rw [e];exact SqL.of ha) ?_ ?_
    · rintro i x σ H1 hi ⟨v2,rfl,rfl⟩
      obtain ⟨m,hmi,rfl⟩:=map_at hi
      have h3:=hm m (List.mem_of_getElem? hmi)
      refine⟨_,rfl,_,rfl,_,rfl,_,_,rfl,rfl,.inr ⟨by omega,by omega⟩,⟨some (.int m),?_,rfl⟩⟩
      rw [take_snoc hmi,ways_snoc]
      simp
    · rintro σ H1 ⟨v2,rfl,rfl⟩
      rw [List.length_map,List.take_length]
      exact⟨_,rfl,k⟩
theorem ok_add_quantity (T:Top K mg) (U:PC K C) (D:DefAt K mg "add_quantity" s_add_quantity) (G_multiply_places:OkF P w K mg base 2 "multiply_places" ["marks"] spMul) (G_settle:OkF P w K mg base 1 "settle" ["plant","fitting"] (spSettle C))
    (G_fitting_states:OkF P w K mg base 4 "fitting_states" ["marks","rules"] spFit):OkF P w K mg base 5 "add_quantity" ["plant","count"] (spCall1 C .quantity):=by
  refine D.ok sc_add_quantity bi_add_quantity (fun vs H Q E h=>?_) (fun fa cdv A outer s H vs Q E hr h=>?_)
  · obtain ⟨p,x,h,rfl,_⟩:=h
    rfl
  · obtain ⟨p,m,⟨⟨ms,rs⟩,now⟩,rfl,hp,k⟩:=h
    have hp:Pl C H p ms rs now:=hp
    obtain ⟨dx,am,ar,af,ac,h1,h2,h3,h4,h5⟩:=hp.ex
    have e:=act_quantity ms rs now m
    have hm4:=hp.mo.1
    refine⟨_,(pss_cons (ps_if (pt_cmpR op_gt (pv 1) (pe_gint T.MOST_MARKS rfl) (nomark _)) (pss_one (ps_ret (pe_lst (pa_cons (pe_gint T.NOT_RIGHT rfl) pa_nil)))) pss_nil)
      (pss_cons (ps_set (i:=2) sc_add_quantity.nd rfl (Or.inl rfl) (pe_op op_cat (pe_fld (pv 0) (by rfl)) (pe_lst (pa_cons (pv 1) pa_nil))))
      (pss_cons (ps_if (PW.pt (pw_or (pt_cmpR op_gt (pe_callB call_len_seq (by rfl) T.len PySem.boot_len (pa_cons (pv 2) pa_nil)) (pe_gint T.MOST_QUANTITIES rfl) (nomark _)) (pw_or1 (pt_cmpR op_gt (pe_fn G_multiply_places (hr.mono (by decide)) rfl (pa_cons (pv 2) pa_nil)) (pe_gint T.MOST_PLACES rfl) (nomark _))))) (pss_one (ps_ret (pe_lst (pa_cons (pe_gint T.TOO_MANY rfl) pa_nil)))) pss_nil)
      (pss_cons (ps_fld (pv 0) (pv 2) rfl)
      (pss_cons (ps_expr (pe_fn G_settle (hr.mono (by decide)) rfl (pa_cons (pv 0) (pa_cons (pe_fn G_fitting_states (hr.mono (by decide)) rfl (pa_cons (pv 2) (pa_cons (pe_fld (pv 0) (by rfl)) pa_nil))) pa_nil))))
      (pss_one (ps_ret (pe_lst (pa_cons (pe_op op_sub (pe_callB call_len_seq (by rfl) T.len PySem.boot_len (pa_cons (pv 2) pa_nil)) pe_int) pa_nil))))))))),?_⟩
    refine⟨_,rfl,_,_,rfl,rfl,_,rfl,ite_dec (fun c=>?_) (fun c=>?_)⟩
    · rw [if_pos (by omega)] at e
      exact gives_one (k.say e) (Keep.refl p H) h1 fun H' s'=>hp.same s'
    · rw [if_neg (by omega)] at e
      have hm3:∀ x∈ms++[m],x<=3:=fun x hx=>by
        rcases List.mem_append.mp hx with q | q
        · exact hp.mo.2 x q
        · have:=List.mem_singleton.mp q
          omega
      refine⟨_,rfl,p,C,dx,_,_,rfl,h1,U.cl,U.nM,pf_m,_,rfl,(by show 1<=sizeLine;decide),fun q1 hq1=>?_⟩
      have s1:=Same.new (o:=.lst [V.int m]) hq1
      refine⟨am,q1,_,_,rfl,rfl,s1 _ _ h2,upd_same,line_le (by rw [List.length_map];show _+1<=_;omega),fun q2 hq2=>?_⟩
      have s2:=Same.new (o:=.lst ((ms.map fun (n:Nat)=>V.int n)++[V.int m])) hq2
      have s12:=s1.trans s2
      have l2:LN (L2.upd (L2.upd H q1 (.lst [V.int m])) q2 (.lst ((ms.map fun (n:Nat)=>V.int n)++[V.int m]))) q2 (ms++[m]):=by
        rw [LN,upd_same,List.map_append]
        rfl
      generalize L2.upd (L2.upd H q1 (.lst [V.int m])) q2 (.lst ((ms.map fun (n:Nat)=>V.int n)++[V.int m]))=H2 at *
      have tooMany:(4<=ms.length \/ 30<Kri6.waysOf (ms++[m]))->[V.int (-28)].length<=sizeLine/\∀ q,H2 q=none->Q (.ref q) (L2.upd H2 q (.lst [.int (-28)])):=fun z=>by
        rw [if_pos z] at e
        exact gives_one (k.say e) (Keep.of s12) (s12 _ _ h1) fun H' s'=>hp.same (s12.trans s')
      refine⟨_,rfl,q2,_,rfl,.inl (SqL.of l2),_,_,rfl,rfl,_,rfl,ite_dec (fun c1=>iteT ?_) (fun c1=>?_)⟩
      · refine tooMany (.inl ?_)
        rw [List.length_map,List.length_append,List.length_singleton] at c1
        omega
      · rw [List.length_map,List.length_append,List.length_singleton] at c1
        refine⟨_,rfl,q2,ms++[m],rfl,l2,hm3,_,_,rfl,rfl,_,rfl,ite_dec (fun c2=>?_) (fun c2=>?_)⟩
        · exact tooMany (.inr (by omega))
        · rw [if_neg (by omega),if_neg (fit_grow m hp.rl hp.fitNe)] at e
          have mo':MOk (ms++[m]):=⟨by rw [List.length_append,List.length_singleton];omega,hm3⟩
          have rl':∀ r∈rs,RIn (ms++[m]).length r:=fun r hr=>(hp.rl r hr).mono (by rw [List.length_append];omega)
          have p2:=s12 _ _ h1
          refine⟨_,rfl,_,rfl,p,C,dx,_,rfl,p2,U.cl,U.nM,(by show 5<1000;decide),?_⟩
          rw [put_m]
          have k3:Keep p H2 (L2.upd H2 p (.ins C dx (pf (.bl true) (.ref q2) (.ref ar) (.ref af) (.ref ac)))):=Keep.upd
          have l3:=l2.keep p2 k3
          have r3:=LR.keep ni_R (h3.same s12) p2 k3
          have p3:L2.upd H2 p (.ins C dx (pf (.bl true) (.ref q2) (.ref ar) (.ref af) (.ref ac))) p=some (.ins C dx (pf (.bl true) (.ref q2) (.ref ar) (.ref af) (.ref ac))):=upd_same
          generalize L2.upd H2 p (.ins C dx (pf (.bl true) (.ref q2) (.ref ar) (.ref af) (.ref ac)))=H3 at *
          refine⟨_,rfl,_,rfl,_,rfl,p,C,dx,_,_,rfl,p3,U.cl,U.nR,pf_r,q2,ar,ms++[m],rs,rfl,l3,mo',r3,rl',fun H4 q hq s4 l4=>?_⟩
          refine⟨p,dx,q,_,_,_,_,_,_,rfl,s4 _ _ p3,l4,fun H5 l k5 p5 l5=>?_⟩
          have k6:Keep p H H5:=(((Keep.of s12).trans k3).trans (Keep.of s4)).trans k5
          have p4:=s4 _ _ p3
          have pl:=Pl.fresh p5 ((l3.same s4).keep p4 k5) (LR.keep ni_R (r3.same s4) p4 k5) (LR.keep ni_S l4 p4 k5) l5 mo' rl' hp.r8 (fit_grow m hp.rl hp.fitNe)
          have l6:=(l3.same s4).keep p4 k5
          refine⟨_,rfl,q2,_,rfl,.inl (SqL.of l6),_,_,rfl,rfl,?_⟩
          have e7:(((ms++[m]).map fun (n:Nat)=>V.int n).length:Int) - 1=(ms.length:Int):=by
            rw [List.length_map,List.length_append,List.length_singleton]
            omega
          exact gives_oneE e7 (k.say e) k6 p5 fun H' s'=>pl.same s'
def spAddRule (C:Addr):L2.Sp:=fun vs H Q _=>∃ (p t:Addr) (r:Kri6.Rule) (h:Kri7.House),vs=[.ref p,.ref t]/\H t=some (shR r)/\PlH C H p h/\Takes C p H Q h (callOf r)
theorem ok_add_rule (T:Top K mg) (U:PC K C) (D:DefAt K mg "add_rule" s_add_rule) (G_names_missing_quantity:OkF P w K mg base 2 "names_missing_quantity" ["plant","rule"] (spMissQ C)) (G_names_one_twice:OkF P w K mg base 2 "names_one_twice" ["rule"] spTwice)
    (G_names_missing_mark:OkF P w K mg base 2 "names_missing_mark" ["plant","rule"] (spMissM C)) (G_settle:OkF P w K mg base 1 "settle" ["plant","fitting"] (spSettle C))
    (G_fitting_states:OkF P w K mg base 4 "fitting_states" ["marks","rules"] spFit):OkF P w K mg base 5 "add_rule" ["plant","rule"] (spAddRule C):=by
  refine D.ok sc_add_rule bi_add_rule (fun vs H Q E h=>?_) (fun fa cdv A outer s H vs Q E hr h=>?_)
  · obtain ⟨p,t,r,h,rfl,_⟩:=h
    rfl
  · obtain ⟨p,t,r,⟨⟨ms,rs⟩,now⟩,rfl,ht,hp,k⟩:=h
    have hp:Pl C H p ms rs now:=hp
    have e:=act_rule ms rs now r
    unfold addOf at e
    refine⟨_,(pss_cons (ps_if (pt_val (pe_fn G_names_missing_quantity (hr.mono (by decide)) rfl (pa_cons (pv 0) (pa_cons (pv 1) pa_nil)))) (pss_one (ps_ret (pe_lst (pa_cons (pe_gint T.NO_SUCH rfl) pa_nil)))) pss_nil)
      (pss_cons (ps_if (PW.pt (pw_or (pt_val (pe_fn G_names_one_twice (hr.mono (by decide)) rfl (pa_cons (pv 1) pa_nil))) (pw_or1 (pt_val (pe_fn G_names_missing_mark (hr.mono (by decide)) rfl (pa_cons (pv 0) (pa_cons (pv 1) pa_nil))))))) (pss_one (ps_ret (pe_lst (pa_cons (pe_gint T.NOT_RIGHT rfl) pa_nil)))) pss_nil)
      (pss_cons (ps_set (i:=2) sc_add_rule.nd rfl (Or.inl rfl) (pe_op op_cat (pe_fld (pv 0) (by rfl)) (pe_lst (pa_cons (pv 1) pa_nil))))
      (pss_cons (ps_if (pt_cmpR op_gt (pe_callB call_len_seq (by rfl) T.len PySem.boot_len (pa_cons (pv 2) pa_nil)) (pe_gint T.MOST_RULES rfl) (nomark _)) (pss_one (ps_ret (pe_lst (pa_cons (pe_gint T.TOO_MANY rfl) pa_nil)))) pss_nil)
      (pss_cons (ps_set (i:=3) sc_add_rule.nd rfl (Or.inl rfl) (pe_fn G_fitting_states (hr.mono (by decide)) rfl (pa_cons (pe_fld (pv 0) (by rfl)) (pa_cons (pv 2) pa_nil))))
      (pss_cons (ps_if (pt_cmpR op_eq (pe_callB call_len_seq (by rfl) T.len PySem.boot_len (pa_cons (pv 3) pa_nil)) pe_int (nomark _)) (pss_one (ps_ret (pe_lst (pa_cons (pe_gint T.CANNOT_BE rfl) pa_nil)))) pss_nil)
      (pss_cons (ps_fld (pv 0) (pv 2) rfl)
      (pss_cons (ps_expr (pe_fn G_settle (hr.mono (by decide)) rfl (pa_cons (pv 0) (pa_cons (pv 3) pa_nil))))
      (pss_one (ps_ret (pe_lst (pa_cons (pe_op op_sub (pe_callB call_len_seq (by rfl) T.len PySem.boot_len (pa_cons (pv 2) pa_nil)) pe_int) pa_nil)))))))))))),?_⟩
    obtain ⟨dx,am,ar,af,ac,h1,h2,h3,h4,h5⟩:=hp.ex
    refine⟨_,rfl,_,rfl,p,t,r,ms,rs,now,rfl,hp,ht,fun H1 s1=>⟨_,rfl,ite_b (fun c=>?_) (fun c=>?_)⟩⟩
    · rw [if_pos c] at e
      exact gives_one (k.say e) (Keep.of s1) (s1 _ _ h1) fun H' s'=>hp.same (s1.trans s')
    · rw [if_neg (by rw [c];simp)] at e
      have hin:RIn ms.length r:=fun q hq=>by
        have:=(List.any_eq_false.mp c) q hq
        simpa using this
      refine⟨_,rfl,t,r,rfl,s1 _ _ ht,fun H2 s2=>⟨_,rfl,ite_b (fun c2=>iteT ?_) (fun c2=>?_)⟩⟩
      · rw [if_pos (by rw [c2];rfl)] at e
        exact gives_one (k.say e) (Keep.of (s1.trans s2)) ((s1.trans s2) _ _ h1) fun H' s'=>hp.same ((s1.trans s2).trans s')
      · have s12:=s1.trans s2
        refine⟨_,rfl,_,rfl,p,t,r,ms,rs,now,rfl,hp.same s12,s12 _ _ ht,hin,fun H3 s3=>⟨_,rfl,ite_b (fun c3=>?_) (fun c3=>?_)⟩⟩
        · rw [if_pos (by rw [c2,c3];rfl)] at e
          exact gives_one (k.say e) (Keep.of (s12.trans s3)) ((s12.trans s3) _ _ h1) fun H' s'=>hp.same ((s12.trans s3).trans s')
        · rw [if_neg (by rw [c2,c3];simp)] at e
          have s13:=s12.trans s3
          clear s12 s1 s2 s3
          obtain ⟨as,a1,a2,a3,a4⟩:=(h3.same s13).sq (K:=K)
          have h8:=hp.r8
          refine⟨_,rfl,p,C,dx,_,_,rfl,s13 _ _ h1,U.cl,U.nR,pf_r,_,rfl,(by show 1<=sizeLine;decide),fun q1 hq1=>?_⟩
          have s4:=Same.new (o:=.lst [V.ref t]) hq1
          refine⟨ar,q1,_,_,rfl,rfl,s4 _ _ a2,upd_same,line_le (by rw [List.length_map,a3];show _+1<=_;omega),fun q2 hq2=>?_⟩
          have s5:=Same.new (o:=.lst (as.map V.ref++[V.ref t])) hq2
          have s35:=s4.trans s5
          have l5:LR shR (L2.upd (L2.upd H3 q1 (.lst [V.ref t])) q2 (.lst (as.map V.ref++[V.ref t]))) q2 (rs++[r]):=by
            refine⟨as++[t],by rw [upd_same,List.map_append];rfl,paired_app (paired_imp (fun _ x e=>s35 _ _ e) a4) (.cons (s35 _ _ (s13 _ _ ht)) .nil)⟩
          have s15:=s13.trans s35
          generalize L2.upd (L2.upd H3 q1 (.lst [V.ref t])) q2 (.lst (as.map V.ref++[V.ref t]))=H5 at *
          obtain ⟨bs,b1,b2,b3,b4⟩:=l5.sq (K:=K)
          refine⟨_,rfl,q2,_,rfl,.inl b1,_,_,rfl,rfl,_,rfl,ite_dec (fun c4=>?_) (fun c4=>?_)⟩
          · rw [List.length_map,b3,List.length_append,List.length_singleton] at c4
            rw [if_pos (by omega)] at e
            exact gives_one (k.say e) (Keep.of s15) (s15 _ _ h1) fun H' s'=>hp.same (s15.trans s')
          · rw [List.length_map,b3,List.length_append,List.length_singleton] at c4
            rw [if_neg (by omega)] at e
            have rl':∀ x∈rs++[r],RIn ms.length x:=fun x hx=>by
              rcases List.mem_append.mp hx with q | q
              · exact hp.rl x q
              · rw [List.mem_singleton.mp q];exact hin
            refine⟨_,rfl,p,C,dx,_,_,rfl,s15 _ _ h1,U.cl,U.nM,pf_m,_,rfl,am,q2,ms,rs++[r],rfl,s15 _ _ h2,hp.mo,l5,rl',fun H6 q hq s6 l6=>?_⟩
            obtain ⟨fs,f1,f2,f3,f4⟩:=l6.sq (K:=K)
            have s16:=s15.trans s6
            refine⟨_,rfl,q,_,rfl,.inl f1,rfl,_,rfl,ite_ii (fun c5=>?_) (fun c5=>?_)⟩
            · rw [List.length_map,f3] at c5
              rw [if_pos (List.eq_nil_of_length_eq_zero (by omega))] at e
              exact gives_one (k.say e) (Keep.of s16) (s16 _ _ h1) fun H' s'=>hp.same (s16.trans s')
            · rw [List.length_map,f3] at c5
              have ne:fitOf ms (rs++[r])≠[]:=fun z=>c5 (by rw [z];rfl)
              rw [if_neg ne] at e
              have p6:=s16 _ _ h1
              refine⟨_,rfl,_,rfl,p,C,dx,_,rfl,p6,U.cl,U.nR,(by show 5<1000;decide),?_⟩
              rw [put_r]
              have k7:Keep p H6 (L2.upd H6 p (.ins C dx (pf (.bl true) (.ref am) (.ref q2) (.ref af) (.ref ac)))):=Keep.upd
              have p7:L2.upd H6 p (.ins C dx (pf (.bl true) (.ref am) (.ref q2) (.ref af) (.ref ac))) p=some (.ins C dx (pf (.bl true) (.ref am) (.ref q2) (.ref af) (.ref ac))):=upd_same
              have m7:=(h2.same s16).keep p6 k7
              have r7:=LR.keep ni_R (l5.same s6) p6 k7
              have l7:=LR.keep ni_S l6 p6 k7
              generalize L2.upd H6 p (.ins C dx (pf (.bl true) (.ref am) (.ref q2) (.ref af) (.ref ac)))=H7 at *
              refine⟨_,rfl,_,rfl,p,dx,q,_,_,_,_,_,_,rfl,p7,l7,fun H8 l k8 p8 l8=>?_⟩
              have k18:Keep p H H8:=((Keep.of s16).trans k7).trans k8
              have r8:=LR.keep ni_R r7 p7 k8
              have pl:=Pl.fresh p8 (m7.keep p7 k8) r8 (LR.keep ni_S l7 p7 k8) l8 hp.mo rl' (by rw [List.length_append,List.length_singleton];omega) ne
              obtain ⟨gs,g1,g2,g3,g4⟩:=r8.sq (K:=K)
              refine⟨_,rfl,q2,_,rfl,.inl g1,_,_,rfl,rfl,?_⟩
              have e7:((gs.map V.ref).length:Int) - 1=(rs.length:Int):=by
                rw [List.length_map,g3,List.length_append,List.length_singleton]
                omega
              exact gives_oneE e7 (k.say e) k18 p8 fun H' s'=>pl.same s'
end
theorem twos_some:∀ {ns:List Nat}{s:List (Nat × Nat)},Kri5.twos ns=some s->Kri6.flat s=nints ns/\ns.length=2*s.length
  | [],s,h=>by
    have h:some ([]:List (Nat × Nat))=some s:=h
    cases h
    exact⟨rfl,rfl⟩
  | [a],s,h=>by
    have h:(none:Option (List (Nat × Nat)))=some s:=h
    cases h
  | a::b::r,s,h=>by
    have h:(Kri5.twos r).map (fun l=>(a,b)::l)=some s:=h
    cases e:Kri5.twos r with
    | none=>rw [e] at h;cases h
    | some t=>
      rw [e] at h
      cases h
      obtain ⟨h1,h2⟩:=twos_some e
      refine⟨?_,by simp only [List.length_cons];omega⟩
      show (a:Int)::(b:Int)::Kri6.flat t=(a:Int)::(b:Int)::nints r
      rw [h1]
theorem twos_even:∀ {ns:List Nat}{n:Nat},ns.length=2*n->∃ s,Kri5.twos ns=some s
  | [],n,_=>⟨[],rfl⟩
  | [a],n,h=>by simp at h;omega
  | a::b::r,0,h=>by simp at h
  | a::b::r,n+1,h=>by
    obtain ⟨s,hs⟩:=twos_even (ns:=r) (n:=n) (by simp only [List.length_cons] at h;omega)
    exact⟨(a,b)::s,by show (Kri5.twos r).map (fun l=>(a,b)::l)=_;rw [hs];rfl⟩
theorem isState_iff {ms:List Nat}{rs:List Kri6.Rule}{s:Kri6.State}:Kri6.Net.isState ⟨ms,rs⟩ s=true↔IsSt ms s:=by
  unfold Kri6.Net.isState
  rw [Bool.and_eq_true,List.all_eq_true]
  constructor
  · rintro ⟨h1,h2⟩
    have h1:s.length=ms.length:=eq_of_beq h1
    refine⟨h1,fun i x m hx hm=>?_⟩
    have hi:=at_lt hm
    have h3:=h2 i (List.mem_range.mpr hi)
    have h4:=pairs_mem.mp (List.contains_iff_mem.mp h3)
    have ex:Kri6.at_ s i=x:=by
      have:=at_get (s:=s) (i:=i) (by omega)
      rw [hx] at this
      exact (Option.some.inj this).symm
    have em:Kri6.Net.m ⟨ms,rs⟩ i=m:=by
      have:=getD_get hi
      rw [hm] at this
      exact (Option.some.inj this).symm
    rw [ex,em] at h4
    exact h4
  · intro h
    refine⟨beq_iff_eq.mpr h.1,fun i hi=>?_⟩
    have hi:i<ms.length:=List.mem_range.mp hi
    exact List.contains_iff_mem.mpr (pairs_mem.mpr (h.at hi))
theorem read_some {ms ns:List Nat}{rs:List Kri6.Rule} (h:isSt ms ns=true):∃ s,Kri6.Net.read ⟨ms,rs⟩ ns=some s/\IsSt ms s/\Kri6.flat s=nints ns:=by
  unfold isSt at h
  rw [Bool.and_eq_true] at h
  have hl:ns.length=2*ms.length:=eq_of_beq h.1
  obtain ⟨s,hs⟩:=twos_even hl
  obtain ⟨h1,h2⟩:=twos_some hs
  have hsl:s.length=ms.length:=by omega
  have hst:IsSt ms s:=by
    refine⟨hsl,fun i x m hx hm=>?_⟩
    have hi:=at_lt hm
    have h3:=List.all_eq_true.mp h.2 i (List.mem_range.mpr hi)
    rw [Bool.and_eq_true] at h3
    have a1:=of_decide_eq_true h3.1
    have a2:=of_decide_eq_true h3.2
    have e1:=flat_place (s:=s) (i:=i) (by omega)
    have e2:=flat_dir (s:=s) (i:=i) (by omega)
    rw [h1] at e1 e2
    unfold nints at e1 e2
    rw [List.getElem?_map,getD_get (by omega)] at e1 e2
    have e1:((ns.getD (2*i) 0:Nat):Int)=((Kri6.at_ s i).1:Int):=Option.some.inj e1
    have e2:((ns.getD (2*i+1) 0:Nat):Int)=((Kri6.at_ s i).2:Int):=Option.some.inj e2
    have ex:Kri6.at_ s i=x:=by
      have:=at_get (s:=s) (i:=i) (by omega)
      rw [hx] at this
      exact (Option.some.inj this).symm
    have em:ms.getD i 0=m:=by
      have:=getD_get hi
      rw [hm] at this
      exact (Option.some.inj this).symm
    rw [ex] at e1 e2
    rw [em] at a1
    omega
  refine⟨s,?_,hst,h1⟩
  unfold Kri6.Net.read
  rw [hs]
  show (if Kri6.Net.isState ⟨ms,rs⟩ s=true then some s else none)=some s
  rw [if_pos (isState_iff.mpr hst)]
theorem read_none {ms ns:List Nat}{rs:List Kri6.Rule} (h:isSt ms ns=false):Kri6.Net.read ⟨ms,rs⟩ ns=none:=by
  unfold Kri6.Net.read
  cases hs:Kri5.twos ns with
  | none=>rfl
  | some s=>
    show (if Kri6.Net.isState ⟨ms,rs⟩ s=true then some s else none)=none
    refine if_neg fun z=>?_
    have hst:=isState_iff.mp z
    obtain ⟨h1,h2⟩:=twos_some hs
    have:isSt ms ns=true:=by
      unfold isSt
      rw [Bool.and_eq_true,List.all_eq_true]
      refine⟨beq_iff_eq.mpr (by rw [h2,hst.1]),fun i hi=>?_⟩
      have hi:i<ms.length:=List.mem_range.mp hi
      have a:=hst.at hi
      have hs1:=hst.1
      have e1:=flat_place (s:=s) (i:=i) (by omega)
      have e2:=flat_dir (s:=s) (i:=i) (by omega)
      rw [h1] at e1 e2
      unfold nints at e1 e2
      rw [List.getElem?_map,getD_get (by omega)] at e1 e2
      have e1:((ns.getD (2*i) 0:Nat):Int)=((Kri6.at_ s i).1:Int):=Option.some.inj e1
      have e2:((ns.getD (2*i+1) 0:Nat):Int)=((Kri6.at_ s i).2:Int):=Option.some.inj e2
      rw [Bool.and_eq_true]
      exact⟨decide_eq_true (by omega),decide_eq_true (by omega)⟩
    rw [this] at h
    cases h
theorem flat_inj:∀ {s t:Kri6.State},Kri6.flat s=Kri6.flat t->s=t
  | [],[],_=>rfl
  | [],y::t,h=>by cases h
  | x::s,[],h=>by cases h
  | x::s,y::t,h=>by
    have h:(x.1:Int)::(x.2:Int)::Kri6.flat s=(y.1:Int)::(y.2:Int)::Kri6.flat t:=h
    obtain ⟨h1,h⟩:=List.cons.inj h
    obtain ⟨h2,h3⟩:=List.cons.inj h
    rw [flat_inj h3]
    have:x=y:=Prod.ext (by omega) (by omega)
    rw [this]
theorem filter_one {α:Type} [DecidableEq α] {f:α->Bool}{a:α}:∀ {l:List α},l.Nodup->(∀ x∈l,f x=true↔x=a)->l.filter f=if a∈l then [a] else []
  | [],_,_=>by simp
  | x::r,h,hf=>by
    obtain ⟨g1,g2⟩:=List.nodup_cons.mp h
    have ih:=filter_one g2 fun y hy=>hf y (List.mem_cons_of_mem _ hy)
    rw [List.filter_cons]
    by_cases e:x=a
    · subst e
      rw [if_pos ((hf x List.mem_cons_self).mpr rfl),ih,if_neg g1,if_pos List.mem_cons_self]
    · rw [if_neg (fun z=>e ((hf x List.mem_cons_self).mp z)),ih]
      by_cases m:a∈r
      · rw [if_pos m,if_pos (List.mem_cons_of_mem _ m)]
      · rw [if_neg m,if_neg (fun z=>(List.mem_cons.mp z).elim (fun q=>e q.symm) m)]
theorem filter_in {α:Type} [DecidableEq α] {f:α->Bool}{a:α}{l:List α} (h:l.Nodup) (hf:∀ x∈l,f x=true↔x=a) (m:a∈l):l.filter f=[a]:=by rw [filter_one h hf,if_pos m]
theorem filter_out {α:Type} [DecidableEq α] {f:α->Bool}{a:α}{l:List α} (h:l.Nodup) (hf:∀ x∈l,f x=true↔x=a) (m:¬ a∈l):l.filter f=[]:=by rw [filter_one h hf,if_neg m]
theorem ints_shaped (ns:List Int):SeqAt.shaped (.list (ns.map PyData.int))=true:=by
  unfold SeqAt.shaped
  have h1:PyData.canLay0 (.list (ns.map PyData.int))=true:=by
    show PyData.canLayAll0 (ns.map PyData.int)=true
    exact canLayAll_ints ns
  have h2:∀ l:List Int,PyData.depthAll (l.map PyData.int)=0:=fun l=>by
    induction l with
    | nil=>rfl
    | cons a r ih=>show max (PyData.depth (.int a)) (PyData.depthAll (r.map PyData.int))=0;rw [ih];rfl
  have h3:PyData.depth (.list (ns.map PyData.int))<=64:=by
    show PyData.depthAll (ns.map PyData.int)+1<=64
    rw [h2]
    decide
  rw [h1,decide_eq_true h3]
  rfl
theorem dp_ints {K:PySem.W.Frag}{H:Hp}:∀ ns:List Int,DpAll K H (ns.map V.int) (ns.map PyData.int)
  | []=>.nil
  | n::r=>.cons (.int n) (dp_ints r)
section
variable {P:Program}{w:World}{K:PySem.W.Frag}{mg:Str->Option Value}{base:Heap}{C:Addr}
def spFrom (C:Addr):L2.Sp:=fun vs H Q _=>∃ (p b:Addr) (ns:List Nat) (h:Kri7.House),vs=[.ref p,.ref b]/\LN H b ns/\ns.length<=1000/\PlH C H p h/\Takes C p H Q h (.from_ ns)
theorem ok_from_state (T:Top K mg) (U:PC K C) (D:DefAt K mg "from_state" s_from_state) (G_is_state:OkF P w K mg base 2 "is_state" ["marks","numbers"] spIsState) (G_take_current:OkF P w K mg base 1 "take_current" ["plant","states"] (spTake C)) :
    OkF P w K mg base 3 "from_state" ["plant","numbers"] (spFrom C):=by
  refine D.ok sc_from_state bi_from_state (fun vs H Q E h=>?_) (fun fa cdv A outer s H vs Q E hr h=>?_)
  · obtain ⟨p,b,ns,h,rfl,_⟩:=h
    rfl
  · obtain ⟨p,b,ns,⟨⟨ms,rs⟩,now⟩,rfl,hb,hn,hp,k⟩:=h
    have hp:Pl C H p ms rs now:=hp
    obtain ⟨dx,am,ar,af,ac,h1,h2,h3,h4,h5⟩:=hp.ex
    have e:=act_from ms rs now ns
    refine⟨_,(pss_cons (ps_if (pt_not (pt_val (pe_fn G_is_state (hr.mono (by decide)) rfl (pa_cons (pe_fld (pv 0) (by rfl)) (pa_cons (pv 1) pa_nil))))) (pss_one (ps_ret (pe_lst (pa_cons (pe_gint T.NOT_RIGHT rfl) pa_nil)))) pss_nil)
      (pss_one (ps_ret (pe_fn G_take_current (hr.mono (by decide)) rfl (pa_cons (pv 0) (pa_cons (pe_lc rfl sc_from_state.nd (pi_list (pe_fld (pv 0) (by rfl))) (blkOk_by (own:=[("state",2)]) (by show blkC ["plant","numbers","state"] (defScope s_from_state) _ _=true;decide +kernel)) (fun _ _ _ _ _=>(pg_name (i:=2) sc_from_state.nd rfl (Or.inl rfl))) (fun _ _ _ _ _=>(pts_one (pt_cmpR (eqK_D (K:=K) rfl hr.units) (pv 2) (pv 1) (nomark _)))) (fun _ _ _ _ _=>(pv 2))) pa_nil)))))),?_⟩
    refine⟨_,rfl,p,C,dx,_,_,rfl,h1,U.cl,U.nM,pf_m,_,rfl,am,b,ms,ns,rfl,h2,hp.mo,hb,hn,_,rfl,ite_nb (fun c=>?_) (fun c=>?_)⟩
    · rw [read_none c] at e
      exact gives_one (k.say e) (Keep.refl p H) h1 fun H' s'=>hp.same s'
    · obtain ⟨st,r1,r2,r3⟩:=read_some (rs:=rs) c
      rw [r1] at e
      dsimp only at e
      obtain ⟨as,a1,a2,a3,a4⟩:=h4.sq (K:=K)
      have hlen:(fitOf ms rs).length<=1000000:=by have:=fit_few hp.mo rs;omega
      refine⟨_,rfl,_,rfl,p,C,dx,_,_,rfl,h1,U.cl,U.nF,pf_f,af,rfl,⟨_,a1⟩,fun Dl hDl=>(filter_lc (K:=K) shS_no h4 hDl hlen (i:=2) (by show 2<3;decide) (fun s=>decide (Kri6.flat s=nints ns)) ?_ ?_).2⟩
      · intro c1 s1 H3 R s3 hst hc kR
        have hb3:SqL K H3 b ((nints ns).map V.int):=by rw [nints_map];exact SqL.of (s3 _ _ hb)
        refine⟨_,rfl,_,rfl,_,_,Dp.lst (SqL.of hc) (dp_ints _),Dp.lst hb3 (dp_ints _),ints_shaped _,ints_shaped _,_,rfl,?_⟩
        rw [show PyData.eqv (.list ((Kri6.flat s1).map PyData.int)) (.list ((nints ns).map PyData.int))=decide (Kri6.flat s1=nints ns) from PySem.W.ked_eqvAll _ _]
        exact kR H3 (Same.refl H3)
      · intro H3 s3 l3
        have ef:∀ x∈fitOf ms rs,decide (Kri6.flat x=nints ns)=true↔x=st:=fun x _=>by
          rw [decide_eq_true_iff]
          exact⟨fun z=>flat_inj (z.trans r3.symm),fun z=>by rw [z];exact r3⟩
        have em:st∈fitOf ms rs↔Kri6.Net.fits ⟨ms,rs⟩ st=true:=by
          rw [fit_mem]
          unfold Kri6.Net.fits
          rw [List.all_eq_true]
          exact⟨fun z=>z.2,fun z=>⟨r2,z⟩⟩
        by_cases hm:st∈fitOf ms rs
        · rw [filter_in (fit_nodup ms rs) ef hm] at l3
          rw [if_neg (by rw [em.mp hm];simp)] at e
          exact⟨p,Dl,ms,rs,now,[st],rfl,hp.same s3,l3,(List.singleton_sublist.mpr hm),(by simp),(fun z=>by cases z),fun _=>(k.say e).mono (Keep.of s3) (s3 _ _ h1)⟩
        · rw [filter_out (fit_nodup ms rs) ef hm] at l3
          have hf:Kri6.Net.fits ⟨ms,rs⟩ st=false:=by
            cases q:Kri6.Net.fits ⟨ms,rs⟩ st with
            | false=>rfl
            | true=>exact absurd (em.mpr q) hm
          rw [if_pos hf] at e
          exact⟨p,Dl,ms,rs,now,[],rfl,hp.same s3,l3,(List.nil_sublist _),(by simp),fun _=>(k.say e).mono (Keep.of s3) (s3 _ _ h1),fun z=>absurd rfl z⟩
theorem paired_take {α β:Type}{F:α->β->Prop}:∀ {l:List α}{m:List β} (n:Nat),Paired F l m->Paired F (l.take n) (m.take n)
  | _,_,0,_=>.nil
  | _,_,n+1,.nil=>.nil
  | _,_,n+1,.cons r t=>.cons r (paired_take n t)
theorem paired_drop {α β:Type}{F:α->β->Prop}:∀ {l:List α}{m:List β} (n:Nat),Paired F l m->Paired F (l.drop n) (m.drop n)
  | _,_,0,h=>h
  | _,_,n+1,.nil=>.nil
  | _,_,n+1,.cons r t=>paired_drop n t
theorem ok_drop_rule (T:Top K mg) (U:PC K C) (D:DefAt K mg "drop_rule" s_drop_rule) (G_settle:OkF P w K mg base 1 "settle" ["plant","fitting"] (spSettle C))
    (G_fitting_states:OkF P w K mg base 4 "fitting_states" ["marks","rules"] spFit):OkF P w K mg base 5 "drop_rule" ["plant","number"] (spCall1 C .drop):=by
  refine D.ok sc_drop_rule bi_drop_rule (fun vs H Q E h=>?_) (fun fa cdv A outer s H vs Q E hr h=>?_)
  · obtain ⟨p,x,h,rfl,_⟩:=h
    rfl
  · obtain ⟨p,n,⟨⟨ms,rs⟩,now⟩,rfl,hp,k⟩:=h
    have hp:Pl C H p ms rs now:=hp
    obtain ⟨dx,am,ar,af,ac,h1,h2,h3,h4,h5⟩:=hp.ex
    have e:=act_drop ms rs now n
    obtain ⟨as,a1,a2,a3,a4⟩:=h3.sq (K:=K)
    have h8:=hp.r8
    refine⟨_,(pss_cons (ps_if (pt_cmpR op_ge (pv 1) (pe_callB call_len_seq (by rfl) T.len PySem.boot_len (pa_cons (pe_fld (pv 0) (by rfl)) pa_nil)) (nomark _)) (pss_one (ps_ret (pe_lst (pa_cons (pe_gint T.NO_SUCH rfl) pa_nil)))) pss_nil)
      (pss_cons (ps_fld (pv 0) (pe_op op_cat (pe_slice sl_list (pe_fld (pv 0) (by rfl)) po_none (po_some (pv 1))) (pe_slice sl_list (pe_fld (pv 0) (by rfl)) (po_some (pe_op op_add (pv 1) pe_int)) po_none)) rfl)
      (pss_cons (ps_expr (pe_fn G_settle (hr.mono (by decide)) rfl (pa_cons (pv 0) (pa_cons (pe_fn G_fitting_states (hr.mono (by decide)) rfl (pa_cons (pe_fld (pv 0) (by rfl)) (pa_cons (pe_fld (pv 0) (by rfl)) pa_nil))) pa_nil))))
      (pss_one (ps_ret (pe_lst (pa_cons (pe_callB call_len_seq (by rfl) T.len PySem.boot_len (pa_cons (pe_fld (pv 0) (by rfl)) pa_nil)) pa_nil))))))),?_⟩
    refine⟨_,rfl,_,rfl,p,C,dx,_,_,rfl,h1,U.cl,U.nR,pf_r,ar,_,rfl,.inl a1,_,_,rfl,rfl,_,rfl,ite_dec (fun c=>?_) (fun c=>?_)⟩
    · rw [List.length_map,a3] at c
      rw [if_pos (decide_eq_true (by omega))] at e
      exact gives_one (k.say e) (Keep.refl p H) h1 fun H' s'=>hp.same s'
    · rw [List.length_map,a3] at c
      have hn:n<rs.length:=by omega
      have ne:fitOf ms (rs.eraseIdx n)≠[]:=fit_drop (fun r hr=>List.mem_of_mem_eraseIdx hr) hp.fitNe
      rw [if_neg (by intro z;have:=of_decide_eq_true z;omega),if_neg ne] at e
      refine⟨_,rfl,p,C,dx,_,_,rfl,h1,U.cl,U.nR,pf_r,_,rfl,_,rfl,ar,_,rfl,a1,fun q1 hq1=>?_⟩
      have e1:cutV (as.map V.ref) none (some (n:Int))=(as.take n).map V.ref:=by
        unfold cutV
        rw [HT.sIx_nat,HT.sIx_none,List.length_map,Nat.min_eq_left (by omega),List.drop_zero,Nat.sub_zero,List.map_take]
      have e2:cutV (as.map V.ref) (some ((n:Int)+1)) none=(as.drop (n+1)).map V.ref:=by
        unfold cutV
        rw [show (n:Int)+1=((n+1:Nat):Int) by omega,HT.sIx_nat,HT.sIx_none,List.length_map,Nat.min_eq_left (by omega),List.map_drop]
        rw [List.take_of_length_le (by rw [List.length_drop,List.length_map];omega)]
      rw [e1]
      have s1:=Same.new (o:=.lst ((as.take n).map V.ref)) hq1
      refine⟨_,rfl,p,C,dx,_,_,rfl,s1 _ _ h1,U.cl,U.nR,pf_r,_,rfl,_,_,rfl,rfl,_,rfl,ar,_,rfl,s1.seq a1,fun q2 hq2=>?_⟩
      rw [e2]
      have s2:=Same.new (o:=.lst ((as.drop (n+1)).map V.ref)) hq2
      refine⟨q1,q2,_,_,rfl,rfl,s2 _ _ upd_same,upd_same,line_le (by rw [List.length_map,List.length_map,List.length_take,List.length_drop];omega),fun q3 hq3=>?_⟩
      have s3:=Same.new (o:=.lst ((as.take n).map V.ref++(as.drop (n+1)).map V.ref)) hq3
      have s13:=(s1.trans s2).trans s3
      have l3:LR shR (L2.upd (L2.upd (L2.upd H q1 (.lst ((as.take n).map V.ref))) q2 (.lst ((as.drop (n+1)).map V.ref))) q3 (.lst ((as.take n).map V.ref++(as.drop (n+1)).map V.ref))) q3 (rs.eraseIdx n):=by
        refine⟨as.take n++as.drop (n+1),by rw [upd_same,List.map_append],?_⟩
        rw [List.eraseIdx_eq_take_drop_succ]
        exact paired_imp (fun _ x e=>s13 _ _ e) (paired_app (paired_take n a4) (paired_drop (n+1) a4))
      generalize L2.upd (L2.upd (L2.upd H q1 (.lst ((as.take n).map V.ref))) q2 (.lst ((as.drop (n+1)).map V.ref))) q3 (.lst ((as.take n).map V.ref++(as.drop (n+1)).map V.ref))=H3 at *
      have p3:=s13 _ _ h1
      refine⟨_,rfl,p,C,dx,_,rfl,p3,U.cl,U.nR,(by show 5<1000;decide),?_⟩
      rw [put_r]
      have k7:Keep p H3 (L2.upd H3 p (.ins C dx (pf (.bl true) (.ref am) (.ref q3) (.ref af) (.ref ac)))):=Keep.upd
      have p7:L2.upd H3 p (.ins C dx (pf (.bl true) (.ref am) (.ref q3) (.ref af) (.ref ac))) p=some (.ins C dx (pf (.bl true) (.ref am) (.ref q3) (.ref af) (.ref ac))):=upd_same
      have m7:=(h2.same s13).keep p3 k7
      have r7:=LR.keep ni_R l3 p3 k7
      generalize L2.upd H3 p (.ins C dx (pf (.bl true) (.ref am) (.ref q3) (.ref af) (.ref ac)))=H7 at *
      have rl':∀ r∈rs.eraseIdx n,RIn ms.length r:=fun r hr=>hp.rl r (List.mem_of_mem_eraseIdx hr)
      refine⟨_,rfl,_,rfl,p,C,dx,_,_,rfl,p7,U.cl,U.nM,pf_m,_,rfl,p,C,dx,_,_,rfl,p7,U.cl,U.nR,pf_r,am,q3,ms,rs.eraseIdx n,rfl,m7,hp.mo,r7,rl',fun H8 q hq s8 l8=>?_⟩
      refine⟨p,dx,q,_,_,_,_,_,_,rfl,s8 _ _ p7,l8,fun H9 l k9 p9 l9=>?_⟩
      have p8:=s8 _ _ p7
      have k19:Keep p H H9:=(((Keep.of s13).trans k7).trans (Keep.of s8)).trans k9
      have r9:=LR.keep ni_R (r7.same s8) p8 k9
      have pl:=Pl.fresh p9 ((m7.same s8).keep p8 k9) r9 (LR.keep ni_S l8 p8 k9) l9 hp.mo rl' (by have:=List.length_eraseIdx_le rs n;omega) ne
      obtain ⟨gs,g1,g2,g3,g4⟩:=r9.sq (K:=K)
      refine⟨_,rfl,p,C,dx,_,_,rfl,p9,U.cl,U.nR,pf_r,q3,_,rfl,.inl g1,?_⟩
      exact gives_oneE (by rw [List.length_map,g3]) (k.say e) k19 p9 fun H' s'=>pl.same s'
end
end Sp
end
section
namespace Sp
theorem range_filter_map {α:Type} (d:α) (f:α->Bool):∀ l:List α,((List.range l.length).filter fun i=>f (l.getD i d)).map (fun i=>l.getD i d)=l.filter f
  | []=>rfl
  | a::r=>by
    have ih:=range_filter_map d f r
    rw [List.length_cons,List.range_succ_eq_map,List.filter_cons,List.filter_cons]
    have e0:(a::r).getD 0 d=a:=rfl
    have es:((List.map Nat.succ (List.range r.length)).filter fun i=>f ((a::r).getD i d))=((List.range r.length).filter fun i=>f (r.getD i d)).map Nat.succ:=by
      rw [List.filter_map]
      rfl
    rw [e0,es]
    by_cases h:f a=true
    · rw [if_pos h,if_pos h,List.map_cons,e0,List.map_map]
      rw [<- ih]
      rfl
    · rw [if_neg h,if_neg h,List.map_map]
      rw [<- ih]
      rfl
theorem zip_filter {α:Type} (d:α) (f:α->Bool):∀ (l:List α) (n:Nat),(l.zipIdx n).filterMap (fun x=>if f x.1 then some x.2 else none)=((List.range l.length).filter fun i=>f (l.getD i d)).map (·+n)
  | [],n=>rfl
  | a::r,n=>by
    have ih:=zip_filter d f r (n+1)
    rw [List.zipIdx_cons,List.filterMap_cons,List.length_cons,List.range_succ_eq_map,List.filter_cons]
    have e0:(a::r).getD 0 d=a:=rfl
    have es:((List.map Nat.succ (List.range r.length)).filter fun i=>f ((a::r).getD i d))=((List.range r.length).filter fun i=>f (r.getD i d)).map Nat.succ:=by
      rw [List.filter_map]
      rfl
    have em:(((List.range r.length).filter fun i=>f (r.getD i d)).map Nat.succ).map (·+n)=((List.range r.length).filter fun i=>f (r.getD i d)).map (·+(n+1)):=by
      rw [List.map_map]
      congr 1
      funext i
      show i.succ+n=i+(n+1)
      omega
    rw [e0,es,ih]
    by_cases h:f a=true
    · rw [if_pos h,if_pos h,List.map_cons,em]
      simp
    · rw [if_neg h,if_neg h,em]
theorem zip_filter0 {α:Type} (d:α) (f:α->Bool) (l:List α):l.zipIdx.filterMap (fun x=>if f x.1 then some x.2 else none)=(List.range l.length).filter fun i=>f (l.getD i d):=by
  rw [zip_filter d f l 0]
  simp
theorem rowsOf_mem:∀ {ls:List (List (Nat × Nat))}{t:List (Nat × Nat)},t∈Kri6.rowsOf ls↔t.length=ls.length/\∀ (i:Nat) (x:Nat × Nat) (l:List (Nat × Nat)),t[i]?=some x->ls[i]?=some l->x∈l
  | [],t=>by
    show t∈[[]]↔_
    constructor
    · intro h
      have h:=List.mem_singleton.mp h
      subst h
      exact⟨rfl,fun i x l h=>by simp at h⟩
    · rintro ⟨h,_⟩
      have:t=[]:=List.eq_nil_of_length_eq_zero h
      rw [this];exact List.mem_singleton.mpr rfl
  | l::r,t=>by
    show t∈(l.flatMap fun x=>(Kri6.rowsOf r).map fun s=>x::s)↔_
    simp only [List.mem_flatMap,List.mem_map]
    constructor
    · rintro ⟨x,hx,u,hu,rfl⟩
      obtain ⟨h1,h2⟩:=rowsOf_mem.mp hu
      refine⟨by simp [h1],fun i y m hy hm=>?_⟩
      cases i with
      | zero=>
        simp at hy hm
        subst hy hm
        exact hx
      | succ j=>exact h2 j y m (by simpa using hy) (by simpa using hm)
    · rintro ⟨h1,h2⟩
      cases t with
      | nil=>simp at h1
      | cons x u=>exact⟨x,h2 0 x l rfl rfl,u,rowsOf_mem.mpr ⟨by simpa using h1,fun i y m hy hm=>h2 (i+1) y m (by simpa using hy) (by simpa using hm)⟩,rfl⟩
theorem next_mem {ms:List Nat}{rs:List Kri6.Rule}{s t:Kri6.State}:t∈Kri6.Net.next ⟨ms,rs⟩ s↔t∈fitOf ms rs/\goesOn ms s t=true:=by
  unfold Kri6.Net.next
  rw [List.mem_filter,rowsOf_mem,fit_mem]
  have hl:((Kri6.Net.qs ⟨ms,rs⟩).map fun i=>Kri5.next (Kri6.Net.m ⟨ms,rs⟩ i) (Kri6.at_ s i)).length=ms.length:=by
    rw [List.length_map];exact List.length_range
  have hget:∀ i,i<ms.length->((Kri6.Net.qs ⟨ms,rs⟩).map fun i=>Kri5.next (Kri6.Net.m ⟨ms,rs⟩ i) (Kri6.at_ s i))[i]?=some (Kri5.next (ms.getD i 0) (Kri6.at_ s i)):=fun i hi=>by
    rw [List.getElem?_map]
    show Option.map _ (List.range ms.length)[i]?=_
    rw [List.getElem?_range hi]
    rfl
  have hnx:∀ (m:Nat) (x y:Nat × Nat),y∈Kri5.next m x↔(y.1<=2*m/\y.2<=2)/\Kri5.follows m x y=true:=fun m x y=>by
    unfold Kri5.next
    rw [List.mem_filter,pairs_mem]
  rw [hl]
  have hfits:Kri6.Net.fits ⟨ms,rs⟩ t=true↔∀ r∈rs,r.holds t=true:=by
    unfold Kri6.Net.fits
    rw [List.all_eq_true]
  rw [hfits]
  constructor
  · rintro ⟨⟨h1,h2⟩,h3⟩
    have h4:∀ i,i<ms.length->Kri6.at_ t i∈Kri5.next (ms.getD i 0) (Kri6.at_ s i):=fun i hi=>h2 i _ _ (at_get (by omega)) (hget i hi)
    refine⟨⟨⟨h1,fun i x m hx hm=>?_⟩,h3⟩,?_⟩
    · have hi:=at_lt hm
      have h5:=((hnx _ _ _).mp (h4 i hi)).1
      have ex:Kri6.at_ t i=x:=by
        have:=at_get (s:=t) (i:=i) (by omega)
        rw [hx] at this
        exact (Option.some.inj this).symm
      have em:ms.getD i 0=m:=by
        have:=getD_get hi
        rw [hm] at this
        exact (Option.some.inj this).symm
      rw [ex,em] at h5
      exact h5
    · unfold goesOn
      rw [List.all_eq_true]
      intro i hi
      exact ((hnx _ _ _).mp (h4 i (List.mem_range.mp hi))).2
  · rintro ⟨⟨h1,h3⟩,h2⟩
    refine⟨⟨h1.1,fun i x l hx hl'=>?_⟩,h3⟩
    have hi:i<ms.length:=by have:=at_lt hx;have:=h1.1;omega
    rw [hget i hi] at hl'
    cases hl'
    have ex:Kri6.at_ t i=x:=by
      have:=at_get (s:=t) (i:=i) (by have:=h1.1;omega)
      rw [hx] at this
      exact (Option.some.inj this).symm
    rw [<- ex]
    unfold goesOn at h2
    exact (hnx _ _ _).mpr ⟨h1.at hi,List.all_eq_true.mp h2 i (List.mem_range.mpr hi)⟩
section
variable (ms:List Nat) (rs:List Kri6.Rule) (now:List Kri6.State)
abbrev gr:Kri7.Graph:=Kri7.House.graph ⟨⟨ms,rs⟩,now⟩
theorem gr_st:(gr ms rs now).st=fitOf ms rs:=states_eq ms rs
theorem gr_n:(gr ms rs now).n=(fitOf ms rs).length:=by
  show (gr ms rs now).st.length=_
  rw [gr_st]
theorem gr_nth (k:Nat):(gr ms rs now).nth k=(fitOf ms rs).getD k []:=by
  show (gr ms rs now).st.getD k []=_
  rw [gr_st]
theorem gr_of {k:Nat} (hk:k<(fitOf ms rs).length):(gr ms rs now).of k=(List.range (fitOf ms rs).length).filter fun j=>goesOn ms ((fitOf ms rs).getD k []) ((fitOf ms rs).getD j []):=by
  have e:(gr ms rs now).out=(fitOf ms rs).map fun s=>(List.range (fitOf ms rs).length).filter fun j=>(Kri6.Net.next ⟨ms,rs⟩ s).contains ((fitOf ms rs).getD j []):=by
    show (Kri6.Net.states ⟨ms,rs⟩).map _=_
    rw [states_eq]
    congr 1
    funext s
    exact zip_filter0 [] (fun t=>(Kri6.Net.next ⟨ms,rs⟩ s).contains t) (fitOf ms rs)
  unfold Kri7.Graph.of
  rw [e,List.getD_eq_getElem?_getD,List.getElem?_map,List.getElem?_eq_getElem hk]
  show (List.range (fitOf ms rs).length).filter _=_
  refine List.filter_congr fun j hj=>?_
  have hj:j<(fitOf ms rs).length:=List.mem_range.mp hj
  have ek:(fitOf ms rs).getD k []=(fitOf ms rs)[k]:=by rw [List.getD_eq_getElem?_getD,List.getElem?_eq_getElem hk];rfl
  have ej:(fitOf ms rs).getD j []=(fitOf ms rs)[j]:=by rw [List.getD_eq_getElem?_getD,List.getElem?_eq_getElem hj];rfl
  rw [ek,ej,Bool.eq_iff_iff,List.contains_iff_mem,next_mem]
  exact⟨fun z=>z.2,fun z=>⟨List.getElem_mem hj,z⟩⟩
theorem gr_out {k:Nat} (hk:(fitOf ms rs).length<=k):(gr ms rs now).of k=[]:=by
  have e:(gr ms rs now).out.length=(fitOf ms rs).length:=by
    show ((Kri6.Net.states ⟨ms,rs⟩).map _).length=_
    rw [List.length_map,states_eq]
  unfold Kri7.Graph.of
  rw [List.getD_eq_getElem?_getD,List.getElem?_eq_none_iff.mpr (by omega)]
  rfl
theorem gr_nows:Kri7.House.nows ⟨⟨ms,rs⟩,now⟩ (gr ms rs now)=(List.range (fitOf ms rs).length).filter fun i=>now.contains ((fitOf ms rs).getD i []):=by
  unfold Kri7.House.nows
  rw [gr_st]
  exact zip_filter0 [] (fun t=>now.contains t) (fitOf ms rs)
theorem step_nows (hn:∀ s∈now,s∈fitOf ms rs):(Kri7.Graph.step (gr ms rs now) (Kri7.House.nows ⟨⟨ms,rs⟩,now⟩ (gr ms rs now))).map (fun k=>(gr ms rs now).nth k)=(fitOf ms rs).filter fun t=>now.any fun s=>goesOn ms s t:=by
  have e1:(fun k=>(gr ms rs now).nth k)=fun k=>(fitOf ms rs).getD k []:=funext fun k=>gr_nth ms rs now k
  rw [e1,<- range_filter_map [] (fun t=>now.any fun s=>goesOn ms s t) (fitOf ms rs)]
  congr 1
  unfold Kri7.Graph.step Kri7.Graph.all
  rw [gr_n,gr_nows]
  refine List.filter_congr fun t ht=>?_
  have ht:t<(fitOf ms rs).length:=List.mem_range.mp ht
  rw [Bool.eq_iff_iff,List.any_eq_true,List.any_eq_true]
  constructor
  · rintro ⟨k,hk,h⟩
    obtain ⟨h1,h2⟩:=List.mem_filter.mp hk
    have hk':k<(fitOf ms rs).length:=List.mem_range.mp h1
    rw [gr_of ms rs now hk',List.contains_iff_mem,List.mem_filter] at h
    exact⟨_,List.contains_iff_mem.mp h2,h.2⟩
  · rintro ⟨s,hs,h⟩
    obtain ⟨k,hk,e⟩:=List.getElem_of_mem (hn s hs)
    have ek:(fitOf ms rs).getD k []=s:=by rw [List.getD_eq_getElem?_getD,List.getElem?_eq_getElem hk];exact e
    refine⟨k,List.mem_filter.mpr ⟨List.mem_range.mpr hk,by rw [ek];exact List.contains_iff_mem.mpr hs⟩,?_⟩
    rw [gr_of ms rs now hk,List.contains_iff_mem,List.mem_filter,ek]
    exact⟨List.mem_range.mpr ht,h⟩
end
end Sp
end
section
namespace Sp
open PySem PySem.Spec PyProof.Rows L2
def tab:List (Str × Option Nat):=[("begin",some 0),("quantity",some 1),("more",some 2),("less",some 2),("sum_of",some 3),("rate",some 3),("still",some 1),("meet",some 4),("drop",some 1),("all_states",some 0),("from_state",none),
  ("seen",some 2),("goes",some 2),("tick",some 0),("now",some 0),("one",some 1),("places",some 1),("ahead",some 1),("later",some 2),("ever",some 1),("reach",some 0),("may",some 2),("path",some 2),("must",some 2),("avoid",some 2),
  ("both",some 4),("only",some 4),("rest",some 0),("stuck",some 0),("round_way",some 0),("state",some 0)]
def szV:Option Nat->V
  | none=>.non
  | some n=>.int n
def nm (i:Nat):Str:=(tab.getD i ("",none)).1
theorem shape_none {p:Int} (h:¬ (0<=p/\p<=30)):PyKri7.shape p=none:=by
  unfold PyKri7.shape
  repeat rw [if_neg (by omega)]
theorem shape_tab:∀ i:Nat,i<31->(i=10->PyKri7.shape (i:Int)=some (0,1)/\(tab.getD i ("",none)).2=none)/\(i≠10->∃ n,PyKri7.shape (i:Int)=some (n,0)/\(tab.getD i ("",none)).2=some n):=by
  have h:∀ i:Nat,i<31->(if i=10 then decide (PyKri7.shape (i:Int)=some (0,1))&&(tab.getD i ("",none)).2==none else match (tab.getD i ("",none)).2 with
      | none=>false
      | some n=>decide (PyKri7.shape (i:Int)=some (n,0)))=true:=by decide
  intro i hi
  have h:=h i hi
  refine⟨fun e=>?_,fun e=>?_⟩
  · rw [if_pos e,Bool.and_eq_true] at h
    exact⟨of_decide_eq_true h.1,eq_of_beq h.2⟩
  · rw [if_neg e] at h
    cases q:(tab.getD i ("",none)).2 with
    | none=>rw [q] at h;cases h
    | some n=>rw [q] at h;exact⟨n,of_decide_eq_true h,rfl⟩
theorem calls_step {f:Nat}{p:Int}{r:List Int}{rest:List (List (List Int))} (h:PyFlat.calls PyKri7.shape f (p::r)=some rest) :
    ∃ c t f' rest',PyFlat.call PyKri7.shape (p::r)=some (c,t)/\PyFlat.calls PyKri7.shape f' t=some rest'/\rest=c::rest':=by
  cases f with
  | zero=>cases h
  | succ f=>
    have h:(match PyFlat.call PyKri7.shape (p::r) with
      | none=>none
      | some (c,t)=>match PyFlat.calls PyKri7.shape f t with
        | none=>none
        | some cs=>some (c::cs))=some rest:=h
    cases e:PyFlat.call PyKri7.shape (p::r) with
    | none=>rw [e] at h;cases h
    | some ct=>
      obtain ⟨c,t⟩:=ct
      rw [e] at h
      dsimp only at h
      cases e2:PyFlat.calls PyKri7.shape f t with
      | none=>rw [e2] at h;cases h
      | some cs=>
        rw [e2] at h
        cases h
        exact⟨c,t,f,cs,rfl,e2,rfl⟩
theorem call_cases {p:Int}{r:List Int}{c:List (List Int)}{t:List Int} (h:PyFlat.call PyKri7.shape (p::r)=some (c,t)) :
    ∃ i:Nat,p=(i:Int)/\i<31/\((i≠10/\∃ n,(tab.getD i ("",none)).2=some n/\n<=r.length/\c=[p::r.take n]/\t=r.drop n) \/
      (i=10/\(tab.getD i ("",none)).2=none/\∃ m r2,r=m::r2/\0<=m/\m.toNat<=r2.length/\c=[[p],r2.take m.toNat]/\t=r2.drop m.toNat)):=by
  have hp:0<=p/\p<=30:=by
    refine Decidable.byContradiction fun z=>?_
    have h:(match PyKri7.shape p with
      | none=>none
      | some (n,k)=>if r.length<n then none else match PyFlat.rows k (r.drop n) with
        | none=>none
        | some (xs,t)=>some ((p::r.take n)::xs,t))=some (c,t):=h
    rw [shape_none z] at h
    cases h
  obtain ⟨i,rfl⟩:∃ i:Nat,p=(i:Int):=⟨p.toNat,by omega⟩
  have hi:i<31:=by omega
  have h:(match PyKri7.shape (i:Int) with
      | none=>none
      | some (n,k)=>if r.length<n then none else match PyFlat.rows k (r.drop n) with
        | none=>none
        | some (xs,t)=>some (((i:Int)::r.take n)::xs,t))=some (c,t):=h
  refine⟨i,rfl,hi,?_⟩
  by_cases e:i=10
  · obtain ⟨h1,h2⟩:=(shape_tab i hi).1 e
    refine .inr ⟨e,h2,?_⟩
    rw [h1] at h
    dsimp only at h
    rw [if_neg (by omega),List.drop_zero,List.take_zero] at h
    cases r with
    | nil=>cases h
    | cons m r2=>
      have hr:PyFlat.rows 1 (m::r2)=if 0<=m/\m.toNat<=r2.length then some ([r2.take m.toNat],r2.drop m.toNat) else none:=by
        show (match (if 0<=m/\m.toNat<=r2.length then some (r2.take m.toNat,r2.drop m.toNat) else none) with
          | none=>none
          | some (x,s)=>match PyFlat.rows 0 s with
            | none=>none
            | some (xs,t)=>some (x::xs,t))=_
        by_cases q:0<=m/\m.toNat<=r2.length
        · rw [if_pos q,if_pos q];rfl
        · rw [if_neg q,if_neg q]
      rw [hr] at h
      by_cases q:0<=m/\m.toNat<=r2.length
      · rw [if_pos q] at h
        cases h
        exact⟨m,r2,rfl,q.1,q.2,rfl,rfl⟩
      · rw [if_neg q] at h
        cases h
  · obtain ⟨n,h1,h2⟩:=(shape_tab i hi).2 e
    refine .inl ⟨e,n,h2,?_⟩
    rw [h1] at h
    dsimp only at h
    by_cases q:r.length<n
    · rw [if_pos q] at h;cases h
    · rw [if_neg q] at h
      have h:some (((i:Int)::r.take n)::[],r.drop n)=some (c,t):=h
      cases h
      exact⟨by omega,rfl,rfl⟩
def cv (c:List (List Int)):Str × List Nat:=match c with
  | (p::args)::rows=>(nm p.toNat,(if p=10 then rows.headD [] else args).map Int.toNat)
  | _=>("",[])
def AtC (H0 H:Hp) (b:Addr) (x:Str × List Nat):Prop:=∃ g:Addr,H0 g=none/\H b=some (.tup [.str x.1,.ref g])/\LN H g x.2
def LC (H0 H:Hp) (a:Addr) (xs:List (Str × List Nat)):Prop:=∃ as:List Addr,H a=some (.lst (as.map V.ref))/\Paired (AtC H0 H) as xs
theorem AtC.same {H0 H H':Hp}{b:Addr}{x:Str × List Nat} (h:AtC H0 H b x) (e:Same H H'):AtC H0 H' b x:=by
  obtain ⟨g,h0,h1,h2⟩:=h
  exact⟨g,h0,e _ _ h1,e _ _ h2⟩
theorem LC.same {H0 H H':Hp}{a:Addr}{xs:List (Str × List Nat)} (h:LC H0 H a xs) (e:Same H H'):LC H0 H' a xs:=by
  obtain ⟨as,h1,h2⟩:=h
  exact⟨as,e _ _ h1,paired_imp (fun _ _ x=>AtC.same x e) h2⟩
structure Tab (K:PySem.W.Frag) (mg:Str->Option Value) (a:Addr):Prop where
  CALLS:mg "CALLS"=some (.ref a)
  rows:∃ rs:List Addr,(∀ H,SqT K H a (rs.map V.ref))/\∀ i,i<31->∃ r,rs[i]?=some r/\∀ H,SqT K H r [.str (nm i),szV (tab.getD i ("",none)).2]
theorem nat_ints {l:List Int} (h:∀ x∈l,0<=x):(l.map Int.toNat).map (fun (n:Nat)=>V.int n)=l.map V.int:=by
  rw [List.map_map]
  refine List.map_congr_left fun x hx=>?_
  show V.int ((x.toNat:Nat):Int)=V.int x
  rw [Int.toNat_of_nonneg (h x hx)]
theorem drop_cons {l:List Int}{i:Nat} (h:i<l.length):∃ x,l[i]?=some x/\l.drop i=x::l.drop (i+1):=⟨l[i],List.getElem?_eq_getElem h,List.drop_eq_getElem_cons h⟩
theorem cut_ints {l:List Int}{i n:Nat} (h:i+n<=l.length) {lo hi:Int} (e1:lo=(i:Int)) (e2:hi=((i+n:Nat):Int)):cutV (l.map V.int) (some lo) (some hi)=((l.drop i).take n).map V.int:=by
  subst e1 e2
  unfold cutV
  rw [HT.sIx_nat,HT.sIx_nat,List.length_map,Nat.min_eq_left (by omega),Nat.min_eq_left (by omega),show i+n - i=n by omega,<- List.map_drop,<- List.map_take]
theorem LC.app {H0 H:Hp}{a b g:Addr}{xs:List (Str × List Nat)}{x:Str × List Nat} (h:LC H0 H a xs) (h0:H0 g=none) (hb:H b=some (.tup [.str x.1,.ref g])) (hg:LN H g x.2) (hga:g≠a) :
    ∃ as:List Addr,H a=some (.lst (as.map V.ref))/\as.length=xs.length/\LC H0 (L2.upd H a (.lst (as.map V.ref++[V.ref b]))) a (xs++[x]):=by
  obtain ⟨as,h1,h2⟩:=h
  have tn:∀ {c:Addr}{vs:List V},H c=some (.tup vs)->c≠a:=fun e z=>by subst z;rw [h1] at e;cases e
  refine⟨as,h1,paired_len h2,as++[b],by rw [upd_same,List.map_append];rfl,paired_app (paired_impM h2 fun c y m z=>?_) (.cons ⟨g,h0,(by rw [upd_ne (tn hb)];exact hb),(by rw [LN,upd_ne hga];exact hg)⟩ .nil)⟩
  obtain ⟨g',z0,z1,z2⟩:=z
  have ng:g'≠a:=fun e=>by
    subst e
    have e:=h1.symm.trans z2
    have e:=HO.lst.inj (Option.some.inj e)
    cases as with
    | nil=>cases m
    | cons a0 r=>cases q:y.2 with
      | nil=>rw [q] at e;cases e
      | cons n l=>rw [q] at e;cases e
  exact⟨g',z0,(by rw [upd_ne (tn z1)];exact z1),(by rw [LN,upd_ne ng];exact z2)⟩
def atOf (σ:L2.St):Nat:=match σ with
  | _::_::some (V.int i)::_=>i.toNat
  | _=>0
section
variable {P:Program}{w:World}{K:PySem.W.Frag}{mg:Str->Option Value}{base:Heap}{C:Addr}
def spSplit (K:PySem.W.Frag):L2.Sp:=fun vs H Q _=>∃ (a:Addr) (ns:List Int) (raw:List (List (List Int))),vs=[.ref a]/\SqL K H a (ns.map V.int)/\ns.length<=7800/\(∀ x∈ns,0<=x)/\PyFlat.calls PyKri7.shape ns.length ns=some raw/\raw.length<=30 /\
  ∀ (H':Hp) (q:Addr),H q=none->Same H H'->LC H H' q (raw.map cv)->Q (.ref q) H'
theorem ok_split_calls {aC:Addr} (T:Top K mg) (V':Tab K mg aC) (D:DefAt K mg "split_calls" s_split_calls):OkF P w K mg base 1 "split_calls" ["numbers"] (spSplit K):=by
  refine D.ok sc_split_calls bi_split_calls (fun vs H Q E h=>?_) (fun fa cdv A outer s H vs Q E hr h=>?_)
  · obtain ⟨a,ns,raw,rfl,_⟩:=h
    rfl
  · obtain ⟨a,ns,raw,rfl,ha,hlen,hpos,hraw,h30,k⟩:=h
    have g_CALLS:=V'.CALLS
    refine⟨_,(pss_cons (ps_set (i:=1) sc_split_calls.nd rfl (Or.inl rfl) (pe_lst pa_nil))
      (pss_cons (ps_set (i:=2) sc_split_calls.nd rfl (Or.inl rfl) pe_int)
      (pss_cons (ps_while PassesOwn.never (pt_cmpR op_lt (pv 2) (pe_callB call_len_seq (by rfl) T.len PySem.boot_len (pa_cons (pv 0) pa_nil)) (nomark _))
        (pss_cons (ps_set (i:=3) sc_split_calls.nd rfl (Or.inl rfl) (pe_ix ix_tup (pe_glob (v:=.ref _) rfl g_CALLS rfl) (pe_ix ix_list (pv 0) (pv 2) (fun _ _=>rfl)) (fun _ _=>rfl)))
      (pss_cons (ps_set (i:=4) sc_split_calls.nd rfl (Or.inl rfl) (pe_ix ix_tup (pv 3) pe_int (fun _ _=>rfl)))
      (pss_cons (ps_set (i:=2) sc_split_calls.nd rfl (Or.inl rfl) (pe_op op_add (pv 2) pe_int))
      (pss_cons (ps_if (pt_cmpR op_isN (pv 4) pe_non (nomark _)) (pss_cons (ps_set (i:=4) sc_split_calls.nd rfl (Or.inl rfl) (pe_ix ix_list (pv 0) (pv 2) (fun _ _=>rfl)))
      (pss_one (ps_set (i:=2) sc_split_calls.nd rfl (Or.inl rfl) (pe_op op_add (pv 2) pe_int)))) pss_nil)
      (pss_cons (ps_expr (pe_bm PySem.F.plainAttrs_list PySem.F.slot_list_append PySem.F.type_list_append mt_append (pv 1) (pa_cons (pe_tup (pa_cons (pe_ix ix_tup (pv 3) pe_int (fun _ _=>rfl)) (pa_cons (pe_slice sl_list (pv 0) (po_some (pv 2)) (po_some (pe_op op_add (pv 2) (pv 4)))) pa_nil))) pa_nil)))
      (pss_one (ps_set (i:=2) sc_split_calls.nd rfl (Or.inl rfl) (pe_op op_add (pv 2) (pv 4))))))))))
      (pss_one (ps_ret (pv 1)))))),?_⟩
    obtain ⟨tr,t1,t2⟩:=V'.rows
    refine⟨Nat.zero_le _,fun q hq=>?_⟩
    refine while_by (fun σ H'=>∃ (i:Nat) (v3 v4:Option V) (done rest:List (List (List Int))) (f:Nat),σ=[some (.ref a),some (.ref q),some (.int i),v3,v4]/\i<=ns.length/\raw=done++rest/\PyFlat.calls PyKri7.shape f (ns.drop i)=some rest/\Same H H'/\LC H H' q (done.map cv))
      (fun σ _=>ns.length - atOf σ) ?_ ?_ ?_
    · exact⟨0,none,none,[],raw,ns.length,rfl,Nat.zero_le _,rfl,hraw,Same.new hq,[],upd_same,.nil⟩
    · rintro σ H1 ⟨i,v3,v4,done,rest,f,rfl,hi,er,hf,s1,l1⟩
      refine⟨_,rfl,_,rfl,a,_,rfl,.inl (s1.seq ha),_,_,rfl,rfl,_,rfl,ite_dec (fun c=>?_) (fun c=>?_)⟩
      · rw [List.length_map] at c
        have hi':i<ns.length:=by omega
        obtain ⟨p,hp1,hp2⟩:=drop_cons hi'
        rw [hp2] at hf
        obtain ⟨cc,t,f',rest',hc,hf',hrest⟩:=calls_step hf
        obtain ⟨j,rfl,hj,hcase⟩:=call_cases hc
        obtain ⟨rw_,hr1,hr2⟩:=t2 j hj
        refine⟨_,rfl,_,rfl,a,_,_,_,rfl,rfl,s1.seq ha,atI_nat (j:=i) (by rw [List.getElem?_map,hp1];rfl),aC,_,_,_,rfl,rfl,t1 _,atI_nat (j:=j) (by rw [List.getElem?_map,hr1];rfl),?_⟩
        refine⟨_,rfl,rw_,_,_,_,rfl,rfl,hr2 _,atI_nat (j:=1) rfl,?_⟩
        refine⟨_,rfl,_,_,rfl,rfl,?_⟩
        have hdone:done.length+1<=30:=by
          rw [er,hrest,List.length_append,List.length_cons] at h30
          omega
        have fin:∀ (b n:Nat) (v4:Option V),b+n<=ns.length->i<b+n->cv cc=(nm j,((ns.drop b).take n).map Int.toNat)->t=ns.drop (b+n) ->
            ∀ (R:V->Hp->Prop),(∀ H2,Same H H2->LC H H2 q ((done++[cc]).map cv)->R .non H2) ->
            ∃ v,([some (.ref a),some (.ref q),some (.int b),some (.ref rw_),some (.int n)]:L2.St)[1]?=some (some v)/\tyV K "list" v H1 /\
              tCons (tTup (tCons (tOp (rIxT K) (tVar 3) (tC (.int 0))) (tCons (tSl (rSlL K) (tVar 0) (tPart (tVar 2)) (tPart (tOp (rI0 fun i j=>.int (i+j)) (tVar 2) (tVar 4)))) tNil))) tNil [some (.ref a),some (.ref q),some (.int b),some (.ref rw_),some (.int n)] H1 fun xs H2=>rAppend v xs H2 R:=by
          intro b n v4 hbn hib hcv ht R hR
          obtain ⟨zs,z1,_⟩:=l1
          refine⟨.ref q,rfl,.inl ⟨rfl,_,SqL.of z1⟩,?_⟩
          refine⟨_,rfl,rw_,_,_,_,rfl,rfl,hr2 _,atI_nat (j:=0) rfl,?_⟩
          refine⟨_,rfl,_,rfl,_,rfl,_,rfl,_,rfl,_,_,rfl,rfl,_,rfl,a,_,rfl,s1.seq ha,fun g hg=>?_⟩
          rw [cut_ints (i:=b) (n:=n) hbn rfl (by omega)]
          have s2:=Same.new (o:=.lst (((ns.drop b).take n).map V.int)) hg
          refine⟨(by show 2<=sizeLine;decide),fun d hd=>?_⟩
          have s3:=Same.new (o:=.tup [.str (nm j),.ref g]) hd
          have s23:=s2.trans s3
          have l3:LC H _ q (done.map cv):=LC.same ⟨zs,z1,‹_›⟩ s23
          have hgn:LN (L2.upd (L2.upd H1 g (.lst (((ns.drop b).take n).map V.int))) d (.tup [.str (nm j),.ref g])) g (((ns.drop b).take n).map Int.toNat):=by
            rw [LN,nat_ints fun x hx=>hpos x (List.mem_of_mem_drop (List.mem_of_mem_take hx))]
            exact s3 _ _ upd_same
          have hgq:g≠q:=fun z=>by subst z;rw [z1] at hg;cases hg
          obtain ⟨as,e1,e2,e3⟩:=LC.app (x:=(nm j,((ns.drop b).take n).map Int.toNat)) l3 (s1.free hg) upd_same hgn hgq
          refine⟨q,_,_,rfl,rfl,e1,line_lt (by rw [List.length_map,e2,List.length_map];omega),?_⟩
          refine hR _ (Same.put (s1.trans s23) hq) ?_
          rw [List.map_append,List.map_cons,List.map_nil,hcv]
          exact e3
        rcases hcase with ⟨hj10,n,hn,hnr,hcc,ht⟩ | ⟨hj10,hn,m,r2,hr,hm0,hmr,hcc,ht⟩
        · rw [List.length_drop] at hnr
          rw [hn]
          refine⟨_,rfl,rfl,_,rfl,iteF ?_⟩
          have ecv:cv cc=(nm j,((ns.drop (i+1)).take n).map Int.toNat):=by
            rw [hcc]
            show (nm (j:Int).toNat,(if (j:Int)=10 then ([]:List (List Int)).headD [] else (ns.drop (i+1)).take n).map Int.toNat)=_
            rw [if_neg (by omega),Int.toNat_natCast]
          have ei:(i:Int)+1=((i+1:Nat):Int):=by omega
          refine fin (i+1) n none (by omega) (by omega) ecv (by rw [ht,List.drop_drop]) _ fun H2 s2 l2=>?_
          refine⟨_,rfl,_,rfl,_,_,rfl,rfl,⟨⟨i+1+n,_,_,done++[cc],rest',f',rfl,by omega,by rw [er,hrest,List.append_assoc];rfl,?_,s2,l2⟩,?_⟩⟩
          · rw [ht,List.drop_drop] at hf'
            exact hf'
          · show ns.length - (((i+1:Nat):Int)+(n:Int)).toNat<ns.length - (i:Int).toNat
            omega
        · obtain ⟨n,rfl⟩:∃ n:Nat,m=(n:Int):=⟨m.toNat,by omega⟩
          rw [Int.toNat_natCast] at hmr hcc ht
          have hi1:i+1<ns.length:=by
            refine Decidable.byContradiction fun z=>?_
            rw [List.drop_eq_nil_of_le (by omega)] at hr
            cases hr
          obtain ⟨m',hm1,hm2⟩:=drop_cons hi1
          rw [hm2] at hr
          obtain ⟨rfl,hr2'⟩:=List.cons.inj hr
          rw [<- hr2'] at hmr hcc ht
          rw [List.length_drop] at hmr
          rw [hn]
          refine⟨_,rfl,rfl,_,rfl,iteT ?_⟩
          refine⟨_,rfl,_,rfl,a,_,_,_,rfl,rfl,s1.seq ha,at_of (j:=i+1) (by omega) (by rw [List.getElem?_map,hm1];rfl),?_⟩
          refine⟨_,rfl,_,_,rfl,rfl,?_⟩
          have ecv:cv cc=(nm j,((ns.drop (i+2)).take n).map Int.toNat):=by
            rw [hcc]
            show (nm (j:Int).toNat,(if (j:Int)=10 then ([(ns.drop (i+2)).take n]:List (List Int)).headD [] else []).map Int.toNat)=_
            rw [if_pos (by omega),Int.toNat_natCast]
            rfl
          refine fin (i+2) n none (by omega) (by omega) ecv (by rw [ht,List.drop_drop]) _ fun H2 s2 l2=>?_
          refine⟨_,rfl,_,rfl,_,_,rfl,rfl,⟨⟨i+2+n,_,_,done++[cc],rest',f',rfl,by omega,by rw [er,hrest,List.append_assoc];rfl,?_,s2,l2⟩,?_⟩⟩
          · rw [ht,List.drop_drop] at hf'
            exact hf'
          · show ns.length - (((i+2:Nat):Int)+(n:Int)).toNat<ns.length - (i:Int).toNat
            omega
      · rw [List.length_map] at c
        have hi2:i=ns.length:=by omega
        rw [hi2,List.drop_length] at hf
        have hrest:rest=[]:=by
          cases f with
          | zero=>exact (Option.some.inj hf).symm
          | succ f=>exact (Option.some.inj hf).symm
        rw [hrest,List.append_nil] at er
        rw [<- er] at l1
        exact⟨_,rfl,k H1 q hq s1 l1⟩
    · rintro σ H1 R R' hR ⟨v,hv,u,hu,p,ys,e1,hs,i,j,ei,ej,b,eb,z⟩
      exact⟨v,hv,u,hu,p,ys,e1,hs,i,j,ei,ej,b,eb,hR _ _ z⟩
end
end Sp
end
section
namespace Sp
inductive Form:List (List Int)->PySem.Str->List Nat->Kri7.Call->Prop
  | f0:Form [[0]] "begin" [] .begin_
  | f1 (a:Nat):Form [[1,(a:Int)]] "quantity" [a] (.quantity a)
  | f2 (a b:Nat):Form [[2,(a:Int),(b:Int)]] "more" [a,b] (.more a b)
  | f3 (a b:Nat):Form [[3,(a:Int),(b:Int)]] "less" [a,b] (.less a b)
  | f4 (a b c:Nat):Form [[4,(a:Int),(b:Int),(c:Int)]] "sum_of" [a,b,c] (.sum a b c)
  | f5 (a b c:Nat):Form [[5,(a:Int),(b:Int),(c:Int)]] "rate" [a,b,c] (.rate a b c)
  | f6 (a:Nat):Form [[6,(a:Int)]] "still" [a] (.still a)
  | f7 (a b c d:Nat):Form [[7,(a:Int),(b:Int),(c:Int),(d:Int)]] "meet" [a,b,c,d] (.meet a b c d)
  | f8 (a:Nat):Form [[8,(a:Int)]] "drop" [a] (.drop a)
  | f9:Form [[9]] "all_states" [] .all
  | f10 (l:List Nat):Form [[10],nints l] "from_state" l (.from_ l)
  | f11 (a b:Nat):Form [[11,(a:Int),(b:Int)]] "seen" [a,b] (.seen a b)
  | f12 (a b:Nat):Form [[12,(a:Int),(b:Int)]] "goes" [a,b] (.goes a b)
  | f13:Form [[13]] "tick" [] .tick
  | f14:Form [[14]] "now" [] .now
  | f15 (a:Nat):Form [[15,(a:Int)]] "one" [a] (.one a)
  | f16 (a:Nat):Form [[16,(a:Int)]] "places" [a] (.places a)
  | f17 (a:Nat):Form [[17,(a:Int)]] "ahead" [a] (.ahead a)
  | f18 (a b:Nat):Form [[18,(a:Int),(b:Int)]] "later" [a,b] (.later a b)
  | f19 (a:Nat):Form [[19,(a:Int)]] "ever" [a] (.ever a)
  | f20:Form [[20]] "reach" [] .reach
  | f21 (a b:Nat):Form [[21,(a:Int),(b:Int)]] "may" [a,b] (.may a b)
  | f22 (a b:Nat):Form [[22,(a:Int),(b:Int)]] "path" [a,b] (.path a b)
  | f23 (a b:Nat):Form [[23,(a:Int),(b:Int)]] "must" [a,b] (.must a b)
  | f24 (a b:Nat):Form [[24,(a:Int),(b:Int)]] "avoid" [a,b] (.avoid a b)
  | f25 (a b c d:Nat):Form [[25,(a:Int),(b:Int),(c:Int),(d:Int)]] "both" [a,b,c,d] (.both a b c d)
  | f26 (a b c d:Nat):Form [[26,(a:Int),(b:Int),(c:Int),(d:Int)]] "only" [a,b,c,d] (.only a b c d)
  | f27:Form [[27]] "rest" [] .rest
  | f28:Form [[28]] "stuck" [] .stuck
  | f29:Form [[29]] "round_way" [] .round
  | f30:Form [[30]] "state" [] .state
theorem nat_list:∀ {l:List Int},(∀ x∈l,0<=x)->∃ ns:List Nat,l=nints ns
  | [],_=>⟨[],rfl⟩
  | x::r,h=>by
    obtain ⟨ns,e⟩:=nat_list (l:=r) fun y hy=>h y (List.mem_cons_of_mem _ hy)
    obtain ⟨n,hn⟩:∃ n:Nat,x=(n:Int):=⟨x.toNat,by have:=h x List.mem_cons_self;omega⟩
    exact⟨n::ns,by rw [e,hn];rfl⟩
theorem nints_len (l:List Nat):(nints l).length=l.length:=by unfold nints;rw [List.length_map]
theorem Form.cv {c:List (List Int)}{x:PySem.Str}{ns:List Nat}{k:Kri7.Call} (h:Form c x ns k):Sp.cv c=(x,ns):=by
  cases h with
  | f10=>
    show (nm 10,(nints ns).map Int.toNat)=_
    have e:(nints ns).map Int.toNat=ns:=by
      unfold nints
      rw [List.map_map]
      exact (List.map_congr_left fun n _=>by show ((n:Int)).toNat=n;omega).trans (List.map_id ns)
    rw [e]
    rfl
  | _=>rfl
theorem Form.call {c:List (List Int)}{x:PySem.Str}{ns:List Nat}{k:Kri7.Call} (h:Form c x ns k):Kri7Neutral.call c=k:=by
  cases h with
  | f10=>
    show Kri7.Call.from_ ((nints ns).map Int.toNat)=_
    have e:(nints ns).map Int.toNat=ns:=by
      unfold nints
      rw [List.map_map]
      exact (List.map_congr_left fun n _=>by show ((n:Int)).toNat=n;omega).trans (List.map_id ns)
    rw [e]
  | _=>rfl
theorem Form.whole {c:List (List Int)}{x:PySem.Str}{ns:List Nat}{k:Kri7.Call} (h:Form c x ns k):PyKri7.whole c=c:=by
  cases h <;> rfl
theorem form_i:∀ (i n:Nat) (ns:List Nat),i<31->i≠10->(tab.getD i ("",none)).2=some n->ns.length=n->∃ x k,Form [(i:Int)::nints ns] x ns k
  | 0,n,ns,_,_,ht,hn=>by
    have ht:(some 0:Option Nat)=some n:=ht
    cases ht
    match ns,hn with
    | [],_=>exact⟨_,_,.f0⟩
  | 1,n,ns,_,_,ht,hn=>by
    have ht:(some 1:Option Nat)=some n:=ht
    cases ht
    match ns,hn with
    | [a],_=>exact⟨_,_,.f1 a⟩
  | 2,n,ns,_,_,ht,hn=>by
    have ht:(some 2:Option Nat)=some n:=ht
    cases ht
    match ns,hn with
    | [a,b],_=>exact⟨_,_,.f2 a b⟩
  | 3,n,ns,_,_,ht,hn=>by
    have ht:(some 2:Option Nat)=some n:=ht
    cases ht
    match ns,hn with
    | [a,b],_=>exact⟨_,_,.f3 a b⟩
  | 4,n,ns,_,_,ht,hn=>by
    have ht:(some 3:Option Nat)=some n:=ht
    cases ht
    match ns,hn with
    | [a,b,c],_=>exact⟨_,_,.f4 a b c⟩
  | 5,n,ns,_,_,ht,hn=>by
    have ht:(some 3:Option Nat)=some n:=ht
    cases ht
    match ns,hn with
    | [a,b,c],_=>exact⟨_,_,.f5 a b c⟩
  | 6,n,ns,_,_,ht,hn=>by
    have ht:(some 1:Option Nat)=some n:=ht
    cases ht
    match ns,hn with
    | [a],_=>exact⟨_,_,.f6 a⟩
  | 7,n,ns,_,_,ht,hn=>by
    have ht:(some 4:Option Nat)=some n:=ht
    cases ht
    match ns,hn with
    | [a,b,c,d],_=>exact⟨_,_,.f7 a b c d⟩
  | 8,n,ns,_,_,ht,hn=>by
    have ht:(some 1:Option Nat)=some n:=ht
    cases ht
    match ns,hn with
    | [a],_=>exact⟨_,_,.f8 a⟩
  | 9,n,ns,_,_,ht,hn=>by
    have ht:(some 0:Option Nat)=some n:=ht
    cases ht
    match ns,hn with
    | [],_=>exact⟨_,_,.f9⟩
  | 10,n,ns,_,h,_,_=>absurd rfl h
  | 11,n,ns,_,_,ht,hn=>by
    have ht:(some 2:Option Nat)=some n:=ht
    cases ht
    match ns,hn with
    | [a,b],_=>exact⟨_,_,.f11 a b⟩
  | 12,n,ns,_,_,ht,hn=>by
    have ht:(some 2:Option Nat)=some n:=ht
    cases ht
    match ns,hn with
    | [a,b],_=>exact⟨_,_,.f12 a b⟩
  | 13,n,ns,_,_,ht,hn=>by
    have ht:(some 0:Option Nat)=some n:=ht
    cases ht
    match ns,hn with
    | [],_=>exact⟨_,_,.f13⟩
  | 14,n,ns,_,_,ht,hn=>by
    have ht:(some 0:Option Nat)=some n:=ht
    cases ht
    match ns,hn with
    | [],_=>exact⟨_,_,.f14⟩
  | 15,n,ns,_,_,ht,hn=>by
    have ht:(some 1:Option Nat)=some n:=ht
    cases ht
    match ns,hn with
    | [a],_=>exact⟨_,_,.f15 a⟩
  | 16,n,ns,_,_,ht,hn=>by
    have ht:(some 1:Option Nat)=some n:=ht
    cases ht
    match ns,hn with
    | [a],_=>exact⟨_,_,.f16 a⟩
  | 17,n,ns,_,_,ht,hn=>by
    have ht:(some 1:Option Nat)=some n:=ht
    cases ht
    match ns,hn with
    | [a],_=>exact⟨_,_,.f17 a⟩
  | 18,n,ns,_,_,ht,hn=>by
    have ht:(some 2:Option Nat)=some n:=ht
    cases ht
    match ns,hn with
    | [a,b],_=>exact⟨_,_,.f18 a b⟩
  | 19,n,ns,_,_,ht,hn=>by
    have ht:(some 1:Option Nat)=some n:=ht
    cases ht
    match ns,hn with
    | [a],_=>exact⟨_,_,.f19 a⟩
  | 20,n,ns,_,_,ht,hn=>by
    have ht:(some 0:Option Nat)=some n:=ht
    cases ht
    match ns,hn with
    | [],_=>exact⟨_,_,.f20⟩
  | 21,n,ns,_,_,ht,hn=>by
    have ht:(some 2:Option Nat)=some n:=ht
    cases ht
    match ns,hn with
    | [a,b],_=>exact⟨_,_,.f21 a b⟩
  | 22,n,ns,_,_,ht,hn=>by
    have ht:(some 2:Option Nat)=some n:=ht
    cases ht
    match ns,hn with
    | [a,b],_=>exact⟨_,_,.f22 a b⟩
  | 23,n,ns,_,_,ht,hn=>by
    have ht:(some 2:Option Nat)=some n:=ht
    cases ht
    match ns,hn with
    | [a,b],_=>exact⟨_,_,.f23 a b⟩
  | 24,n,ns,_,_,ht,hn=>by
    have ht:(some 2:Option Nat)=some n:=ht
    cases ht
    match ns,hn with
    | [a,b],_=>exact⟨_,_,.f24 a b⟩
  | 25,n,ns,_,_,ht,hn=>by
    have ht:(some 4:Option Nat)=some n:=ht
    cases ht
    match ns,hn with
    | [a,b,c,d],_=>exact⟨_,_,.f25 a b c d⟩
  | 26,n,ns,_,_,ht,hn=>by
    have ht:(some 4:Option Nat)=some n:=ht
    cases ht
    match ns,hn with
    | [a,b,c,d],_=>exact⟨_,_,.f26 a b c d⟩
  | 27,n,ns,_,_,ht,hn=>by
    have ht:(some 0:Option Nat)=some n:=ht
    cases ht
    match ns,hn with
    | [],_=>exact⟨_,_,.f27⟩
  | 28,n,ns,_,_,ht,hn=>by
    have ht:(some 0:Option Nat)=some n:=ht
    cases ht
    match ns,hn with
    | [],_=>exact⟨_,_,.f28⟩
  | 29,n,ns,_,_,ht,hn=>by
    have ht:(some 0:Option Nat)=some n:=ht
    cases ht
    match ns,hn with
    | [],_=>exact⟨_,_,.f29⟩
  | 30,n,ns,_,_,ht,hn=>by
    have ht:(some 0:Option Nat)=some n:=ht
    cases ht
    match ns,hn with
    | [],_=>exact⟨_,_,.f30⟩
  | i+31,n,ns,h,_,_,_=>absurd h (by omega)
theorem form_call {p:Int}{r t:List Int}{c:List (List Int)} (h:PyFlat.call PyKri7.shape (p::r)=some (c,t)) (hp:∀ x∈r,0<=x):(∃ x ns k,Form c x ns k)/\∀ x∈t,0<=x:=by
  obtain ⟨i,rfl,hi,hcase⟩:=call_cases h
  rcases hcase with ⟨h10,n,hn,hnr,rfl,rfl⟩ | ⟨rfl,hn,m,r2,rfl,hm,hmr,rfl,rfl⟩
  · obtain ⟨ns,e⟩:=nat_list (l:=r.take n) fun x hx=>hp x (List.mem_of_mem_take hx)
    have hl:ns.length=n:=by
      rw [<- nints_len,<- e,List.length_take]
      omega
    obtain ⟨x,k,f⟩:=form_i i n ns hi h10 hn hl
    rw [<- e] at f
    exact⟨⟨x,ns,k,f⟩,fun x hx=>hp x (List.mem_of_mem_drop hx)⟩
  · obtain ⟨ns,e⟩:=nat_list (l:=r2.take m.toNat) fun x hx=>hp x (List.mem_cons_of_mem _ (List.mem_of_mem_take hx))
    rw [e]
    exact⟨⟨_,ns,_,.f10 ns⟩,fun x hx=>hp x (List.mem_cons_of_mem _ (List.mem_of_mem_drop hx))⟩
theorem form_all:∀ (f:Nat) {l:List Int}{raw:List (List (List Int))},PyFlat.calls PyKri7.shape f l=some raw->(∀ x∈l,0<=x)->∀ c∈raw,∃ x ns k,Form c x ns k
  | 0,[],raw,h,_,c,hc=>by
    have h:some ([]:List (List (List Int)))=some raw:=h
    cases h
    cases hc
  | 0,p::r,raw,h,_,c,hc=>by cases h
  | f+1,[],raw,h,_,c,hc=>by
    have h:some ([]:List (List (List Int)))=some raw:=h
    cases h
    cases hc
  | f+1,p::r,raw,h,hp,c,hc=>by
    have h:(match PyFlat.call PyKri7.shape (p::r) with
      | none=>none
      | some (c,t)=>match PyFlat.calls PyKri7.shape f t with
        | none=>none
        | some cs=>some (c::cs))=some raw:=h
    cases e:PyFlat.call PyKri7.shape (p::r) with
    | none=>rw [e] at h;cases h
    | some ct=>
      obtain ⟨d,t⟩:=ct
      rw [e] at h
      dsimp only at h
      obtain ⟨h1,h2⟩:=form_call e fun x hx=>hp x (List.mem_cons_of_mem _ hx)
      cases e2:PyFlat.calls PyKri7.shape f t with
      | none=>rw [e2] at h;cases h
      | some cs=>
        rw [e2] at h
        cases h
        rcases List.mem_cons.mp hc with rfl | hc
        · exact h1
        · exact form_all f e2 h2 c hc
end Sp
end
section
namespace Sp
open PySem PySem.Spec PyProof.Rows L2
section
variable {S:Type} (step:S->List (List Int)->S × List Int)
def behind:S->List (List (List Int))->S
  | s,[]=>s
  | s,c::r=>behind (step s c).1 r
theorem behind_snoc (c:List (List Int)):∀ (l:List (List (List Int))) (s:S),behind step s (l++[c])=(step (behind step s l) c).1
  | [],s=>rfl
  | d::r,s=>behind_snoc c r (step s d).1
theorem played_snoc (c:List (List Int)):∀ (l:List (List (List Int))) (s:S),PyFlat.played step s (l++[c])=PyFlat.played step s l++[(step (behind step s l) c).2]
  | [],s=>rfl
  | d::r,s=>by
    show (step s d).2::PyFlat.played step (step s d).1 (r++[c])=(step s d).2::(PyFlat.played step (step s d).1 r++_)
    rw [played_snoc c r (step s d).1]
    rfl
theorem played_take:∀ (l:List (List (List Int))) (i:Nat) (s:S),PyFlat.played step s (l.take i)=(PyFlat.played step s l).take i
  | [],i,s=>by simp [PyFlat.played]
  | d::r,0,s=>rfl
  | d::r,i+1,s=>by
    show (step s d).2::PyFlat.played step (step s d).1 (r.take i)=(step s d).2::(PyFlat.played step (step s d).1 r).take i
    rw [played_take r i (step s d).1]
end
theorem told_snoc (l:List (List Int)) (a:List Int):PyFlat.told (l++[a])=PyFlat.told l++[(a.length:Int)]++a:=by
  unfold PyFlat.told
  rw [List.flatMap_append,List.flatMap_singleton,List.append_assoc]
  rfl
theorem told_take (l:List (List Int)) (i:Nat):(PyFlat.told (l.take i)).length<=(PyFlat.told l).length:=by
  have e:l=l.take i++l.drop i:=(List.take_append_drop i l).symm
  have:PyFlat.told l=PyFlat.told (l.take i)++PyFlat.told (l.drop i):=by
    unfold PyFlat.told
    rw [<- List.flatMap_append,List.take_append_drop]
  rw [this,List.length_append]
  omega
def PlA (C:Addr) (H:Hp) (p:Addr):Kri7.Abs->Prop
  | none=>∃ (dx:Addr) (m r f c:V),H p=some (.ins C dx (pf (.bl false) m r f c))
  | some h=>PlH C H p h
theorem PlA.same {C:Addr}{H H':Hp}{p:Addr}{a:Kri7.Abs} (h:PlA C H p a) (e:Same H H'):PlA C H' p a:=by
  cases a with
  | none=>
    obtain ⟨dx,m,r,f,c,h⟩:=h
    exact⟨dx,m,r,f,c,e _ _ h⟩
  | some h'=>exact Pl.same h e
theorem PlA.obj {C:Addr}{H:Hp}{p:Addr}{a:Kri7.Abs} (h:PlA C H p a):∃ dx fs,H p=some (.ins C dx fs):=by
  cases a with
  | none=>
    obtain ⟨dx,m,r,f,c,h⟩:=h
    exact⟨dx,_,h⟩
  | some h'=>
    obtain ⟨dx,am,ar,af,ac,h1,_⟩:=Pl.ex h
    exact⟨dx,_,h1⟩
def Nf (H H':Hp):Prop:=∀ b o,H b=some o->(∀ x y,o≠.frz x y)->H' b=some o
theorem LR.nf {α:Type}{sh:α->HO}{H H':Hp}{a:Addr}{xs:List α} (n:∀ x y z,sh x≠.frz y z) (h:LR sh H a xs) (k:Nf H H'):LR sh H' a xs:=by
  obtain ⟨as,h1,h2⟩:=h
  exact⟨as,k _ _ h1 (fun _ _ z=>nomatch z),paired_imp (fun _ x e=>k _ _ e (n x)) h2⟩
theorem PlA.nf {C:Addr}{H H':Hp}{p:Addr}{a:Kri7.Abs} (h:PlA C H p a) (k:Nf H H'):PlA C H' p a:=by
  cases a with
  | none=>
    obtain ⟨dx,m,r,f,c,h⟩:=h
    exact⟨dx,m,r,f,c,k _ _ h (fun _ _ z=>nomatch z)⟩
  | some h'=>
    obtain ⟨⟨dx,am,ar,af,ac,h1,h2,h3,h4,h5⟩,a,b,c,d,i,j⟩:=h
    exact⟨⟨dx,am,ar,af,ac,k _ _ h1 (fun _ _ z=>nomatch z),k _ _ h2 (fun _ _ z=>nomatch z),LR.nf (fun x _ _ z=>by cases x <;> cases z) h3 k,LR.nf (fun _ _ _ z=>nomatch z) h4 k,LR.nf (fun _ _ _ z=>nomatch z) h5 k⟩,a,b,c,d,i,j⟩
theorem nf_upd {H:Hp}{q:Addr}{o o':Obj}{u u':HO} (h:H q=some (.frz o u)):Nf H (L2.upd H q (.frz o' u')):=fun b x e n=>by
  have ne:b≠q:=fun z=>by subst z;rw [h] at e;exact n _ _ (Option.some.inj e).symm
  rw [upd_ne ne]
  exact e
theorem upd_upd {H:Hp}{q:Addr}{x y:HO}:L2.upd (L2.upd H q x) q y=L2.upd H q y:=funext fun b=>by
  by_cases e:b=q
  · subst e;rw [upd_same,upd_same]
  · rw [upd_ne e,upd_ne e,upd_ne e]
abbrev s_init:Stmt:=inClass (top 67) 0
theorem sc_init:FnScope ["self"] ["self"] (defScope s_init):=⟨rfl,rfl,rfl,by decide +kernel,rfl,by decide +kernel,by decide +kernel⟩
theorem pf_grow1 {b:V}:putF "begun" b []=([("begun",b)]:List (Str × V)):=rfl
theorem pf_grow2 {b m:V}:putF "marks" m ([("begun",b)]:List (Str × V))=([("begun",b),("marks",m)]:List (Str × V)):=by
  simp only [putF]
  rw [if_neg (by decide +kernel)]
theorem pf_grow3 {b m r:V}:putF "rules" r ([("begun",b),("marks",m)]:List (Str × V))=([("begun",b),("marks",m),("rules",r)]:List (Str × V)):=by
  simp only [putF]
  rw [if_neg (by decide +kernel),if_neg (by decide +kernel)]
theorem pf_grow4 {b m r f:V}:putF "fitting" f ([("begun",b),("marks",m),("rules",r)]:List (Str × V))=([("begun",b),("marks",m),("rules",r),("fitting",f)]:List (Str × V)):=by
  simp only [putF]
  rw [if_neg (by decide +kernel),if_neg (by decide +kernel),if_neg (by decide +kernel)]
theorem pf_grow5 {b m r f c:V}:putF "current" c ([("begun",b),("marks",m),("rules",r),("fitting",f)]:List (Str × V))=pf b m r f c:=by
  simp only [putF]
  rw [if_neg (by decide +kernel),if_neg (by decide +kernel),if_neg (by decide +kernel),if_neg (by decide +kernel)]
  rfl
section
variable {P:Program}{w:World}{K:PySem.W.Frag}{mg:Str->Option Value}{base:Heap}{C:Addr}
def spInit (C:Addr):L2.Sp:=fun vs H Q _=>∃ (p dx:Addr),vs=[.ref p]/\H p=some (.ins C dx [])/\∀ H':Hp,Keep p H H'->PlA C H' p none->Q .non H'
theorem ok_init {f:Addr}{fd:FuncData} (U:PC K C) (F:Fun K "__init__" "Plant.__init__" s_init f fd):FnOk P w K mg base CX0 1 f fd ["self"] (spInit C):=by
  refine F.ok sc_init (fun vs H Q E h=>?_) (fun cdv A outer s H vs Q E hr h=>?_)
  · obtain ⟨p,dx,rfl,_⟩:=h
    rfl
  · obtain ⟨p,dx,rfl,hp,k⟩:=h
    refine⟨_,pss_cons (ps_fld (pv 0) pe_bl rfl) (pss_cons (ps_fld (pv 0) (pe_lst pa_nil) rfl) (pss_cons (ps_fld (pv 0) (pe_lst pa_nil) rfl) (pss_cons (ps_fld (pv 0) (pe_lst pa_nil) rfl) (pss_one (ps_fld (pv 0) (pe_lst pa_nil) rfl))))),?_⟩
    refine⟨_,rfl,p,C,dx,[],rfl,hp,U.cl,U.nB,(by show 0<1000;decide),?_⟩
    rw [pf_grow1]
    refine⟨Nat.zero_le _,fun a1 h1=>⟨_,rfl,p,C,dx,_,rfl,(Same.new h1) _ _ upd_same,U.cl,U.nM,(by show 1<1000;decide),?_⟩⟩
    rw [pf_grow2]
    refine⟨Nat.zero_le _,fun a2 h2=>⟨_,rfl,p,C,dx,_,rfl,(Same.new h2) _ _ upd_same,U.cl,U.nR,(by show 2<1000;decide),?_⟩⟩
    rw [pf_grow3]
    refine⟨Nat.zero_le _,fun a3 h3=>⟨_,rfl,p,C,dx,_,rfl,(Same.new h3) _ _ upd_same,U.cl,U.nF,(by show 3<1000;decide),?_⟩⟩
    rw [pf_grow4]
    refine⟨Nat.zero_le _,fun a4 h4=>⟨_,rfl,p,C,dx,_,rfl,(Same.new h4) _ _ upd_same,U.cl,U.nC,(by show 4<1000;decide),?_⟩⟩
    rw [pf_grow5]
    refine k _ ?_ ⟨dx,_,_,_,_,upd_same⟩
    exact ((((((((Keep.upd (p:=p) (H:=H)).trans (Keep.of (Same.new h1))).trans Keep.upd).trans (Keep.of (Same.new h2))).trans Keep.upd).trans (Keep.of (Same.new h3))).trans Keep.upd).trans (Keep.of (Same.new h4))).trans Keep.upd
def spOne (C:Addr):L2.Sp:=fun vs H Q _=>∃ (p g:Addr) (a:Kri7.Abs) (c:List (List Int)),vs=[.ref p,.str (cv c).1,.ref g]/\LN H g (cv c).2/\PlA C H p a/\(∃ x ns k,Form c x ns k)/\Kri7Neutral.asked1 c=true /\
  Gives p H Q (Kri7Neutral.step a c).2 fun H'=>PlA C H' p (Kri7Neutral.step a c).1
def spAns (K:PySem.W.Frag):L2.Sp:=fun vs H Q _=>∃ (a:Addr) (ns:List Int),vs=[.ref a]/\SqL K H a (ns.map V.int)/\ns.length<=7800/\(∀ x∈ns,0<=x)/\PyKri7.answers_asked ns=true /\
  ∀ (H':Hp) (q:Addr),H' q=some (.lst ((PyKri7.answers ns).map V.int))->Q (.ref q) H'
theorem ok_answers {fI fa:Addr}{fdI fda:FuncData}{k:Nat} (T:Top K mg) (U:PC K C) (hC:mg "Plant"=some (.ref C)) (F:Fun K "answers" "answers" s_answers fa fda) (M_Plant:Mk K C fI) (FI:Fun K "__init__" "Plant.__init__" s_init fI fdI) (bI_Plant:Binds K fdI ["self"] [])
    (G_split_calls:OkF P w K mg base 1 "split_calls" ["numbers"] (spSplit K)) (G_answer_call:OkF P w K mg base (k+2) "answer_call" ["plant","name","given"] (spOne C)):FnOk P w K mg base CX0 (k+3) fa fda ["calls"] (spAns K):=by
  have GI_Plant:FnOk P w K mg base CX0 1 fI fdI ["self"] (spInit C):=ok_init U FI
  refine F.ok sc_answers (fun vs H Q E h=>?_) (fun cdv A outer s H vs Q E hr0 h=>?_)
  · obtain ⟨a,ns,rfl,_⟩:=h
    rfl
  · obtain ⟨a,ns,rfl,ha,hlen,hpos,hask,kQ⟩:=h
    obtain ⟨raw,hraw,h30,hone,hshort⟩:∃ raw,PyFlat.calls PyKri7.shape ns.length ns=some raw/\raw.length<=30/\(∀ c∈raw,(∃ x ns k,Form c x ns k)/\Kri7Neutral.asked1 c=true)/\(PyKri7.answers ns).length<=10000000:=by
      unfold PyKri7.answers_asked at hask
      cases e:PyFlat.calls PyKri7.shape ns.length ns with
      | none=>rw [e] at hask;cases hask
      | some raw=>
        rw [e] at hask
        simp only [Bool.and_eq_true] at hask
        obtain ⟨⟨⟨h1,h2⟩,h3⟩,h4⟩:=hask
        have h3:=(Bool.and_eq_true_iff.mp h3).1
        refine⟨raw,rfl,of_decide_eq_true h1,fun c hc=>?_,of_decide_eq_true h4⟩
        have hf:=form_all ns.length e hpos c hc
        have:=List.all_eq_true.mp h3 (PyKri7.whole c) (List.mem_map_of_mem hc)
        obtain ⟨x,l,k,f⟩:=hf
        rw [f.whole] at this
        exact⟨⟨x,l,k,f⟩,this⟩
    have hans:PyKri7.answers ns=PyFlat.told (PyFlat.played Kri7Neutral.step Kri7Neutral.start raw):=by
      unfold PyKri7.answers PyKri7.calls
      rw [hraw]
      have:raw.map PyKri7.whole=raw:=by
        refine (List.map_congr_left fun c hc=>?_).trans (List.map_id raw)
        obtain ⟨⟨x,l,k,f⟩,_⟩:=hone c hc
        exact f.whole
      simp only [this]
    have hr:Room 2 (A.deeper (envOfC "answers" (defScope s_answers) s.heap.objs.size fa cdv)):=hr0.mono (by omega)
    have hr1:=hr0
    refine⟨_,(pss_cons (ps_set (i:=1) sc_answers.nd rfl (Or.inl rfl) (pe_make0 M_Plant GI_Plant hr rfl hC bI_Plant .nil pass0))
      (pss_cons (ps_set (i:=2) sc_answers.nd rfl (Or.inl rfl) (pe_lst pa_nil))
      (pss_cons (ps_for PassesOwn.never rfl (pi_list (pe_fn G_split_calls (hr.mono (by decide)) rfl (pa_cons (pv 0) pa_nil))) (pg_tup rfl (pgs_cons (pg_name (i:=3) sc_answers.nd rfl (Or.inl rfl)) (pgs_cons (pg_name (i:=4) sc_answers.nd rfl (Or.inl rfl)) pgs_nil)))
        (pss_cons (ps_set (i:=5) sc_answers.nd rfl (Or.inl rfl) (pe_lock (pe_fn G_answer_call hr1 rfl (pa_cons (pv 1) (pa_cons (pv 3) (pa_cons (pv 4) pa_nil))))))
      (pss_cons (ps_expr (pe_bm PySem.F.plainAttrs_list PySem.F.slot_list_append PySem.F.type_list_append mt_append (pv 2) (pa_cons (pe_callB call_len_seq (by rfl) T.len PySem.boot_len (pa_cons (pv 5) pa_nil)) pa_nil)))
      (pss_one (ps_expr (pe_bm PySem.F.plainAttrs_list PySem.F.slot_list_extend PySem.F.type_list_extend mt_extend (pv 2) (pa_cons (pv 5) pa_nil)))))))
      (pss_one (ps_ret (pv 2)))))),?_⟩
    intro p dp np nd ne
    refine⟨p,dp,rfl,upd_same,fun H1 k1 a1=>⟨rfl,?_⟩⟩
    have s1:Same H H1:=Same.made np nd fun b o e h=>k1 b o e h
    refine⟨Nat.zero_le _,fun q hq=>?_⟩
    have s2:=Same.new (o:=.lst []) hq
    have s12:=s1.trans s2
    generalize eH2:L2.upd H1 q (.lst [])=H2 at *
    have q2:H2 q=some (.lst []):=by rw [<- eH2];exact upd_same
    have a2:=a1.same s2
    refine⟨_,rfl,a,ns,raw,rfl,s12.seq ha,hlen,hpos,hraw,h30,fun H3 l hl s3 l3=>?_⟩
    obtain ⟨as,b1,b2⟩:=l3
    have eas:=paired_len b2
    rw [List.length_map] at eas
    refine⟨l,rfl,⟨_,SqL.of b1⟩,?_⟩
    have lq:l≠q:=fun z=>by subst z;rw [q2] at hl;cases hl
    have walk:∀ {H':Hp},(∀ b o,H3 b=some o->b≠p->b≠q->H' b=some o)->H' l=some (.lst (as.map V.ref))/\Paired (AtC H2 H') as (raw.map cv):=fun {H'} kk=>by
      obtain ⟨dx3,fs3,p3⟩:=(a2.same s3).obj
      have q3:=s3 _ _ q2
      refine⟨kk l _ b1 (fun z=>by subst z;rw [b1] at p3;cases p3) lq,paired_imp (fun b x z=>?_) b2⟩
      obtain ⟨g,g0,g1,g2⟩:=z
      refine⟨g,g0,kk b _ g1 (fun z=>by subst z;rw [g1] at p3;cases p3) (fun z=>by subst z;rw [g1] at q3;cases q3),kk g _ g2 (fun z=>by subst z;rw [show H3 g=_ from g2] at p3;cases p3) (fun z=>by subst z;rw [q2] at g0;cases g0)⟩
    refine for_list (K:=K) (a:=l) (xs:=as.map V.ref) (fun i σ H'=>∃ v3 v4 v5:Option V,σ=[some (.ref a),some (.ref p),some (.ref q),v3,v4,v5]/\(∀ b o,H3 b=some o->b≠p->b≠q->H' b=some o) /\
        (∀ od u,PlA C (L2.upd H' q (.frz od u)) p (behind Kri7Neutral.step Kri7Neutral.start (raw.take i)))/\LI H' q (PyFlat.told (PyFlat.played Kri7Neutral.step Kri7Neutral.start (raw.take i))))
      ⟨none,none,none,rfl,fun _ _ e _ _=>e,fun od u=>?_,s3 _ _ q2⟩ (fun i σ H' _ ⟨_,_,_,_,kk,_⟩=>SqL.of (walk kk).1) ?_ ?_
    · obtain ⟨dx3,m3,r3,f3,c3,p3⟩:PlA C H3 p none:=a2.same s3
      have pq:p≠q:=fun z=>by subst z;rw [s3 _ _ q2] at p3;cases p3
      exact⟨dx3,m3,r3,f3,c3,by rw [upd_ne pq];exact p3⟩
    · rintro i x σ H4 hi ⟨v3,v4,v5,rfl,kk,a4,t4⟩
      obtain ⟨b,hb,rfl⟩:=map_at hi
      obtain ⟨w1,w2⟩:=walk kk
      obtain ⟨y,hy,g,g0,g1,g2⟩:=paired_getL w2 hb
      obtain ⟨c,hc,rfl⟩:=map_at hy
      have hci:raw.take (i+1)=raw.take i++[c]:=take_snoc hc
      have gq:g≠q:=fun z=>by subst z;rw [q2] at g0;cases g0
      refine⟨b,_,rfl,SqT.of g1,rfl,_,_,rfl,_,_,rfl,rfl,?_⟩
      refine⟨q,_,t4,trivial,fun od=>?_⟩
      refine⟨_,rfl,_,rfl,_,rfl,p,g,behind Kri7Neutral.step Kri7Neutral.start (raw.take i),c,rfl,(by rw [LN,upd_ne gq];exact g2),a4 od _,(hone c (List.mem_of_getElem? hc)).1,(hone c (List.mem_of_getElem? hc)).2,fun H5 r k5 hr5 a5 l5=>?_⟩
      obtain ⟨dx4,fs4,p4⟩:=(a4 od (.lst ((PyFlat.told (PyFlat.played Kri7Neutral.step Kri7Neutral.start (raw.take i))).map V.int))).obj
      have pq:q≠p:=fun z=>by subst z;rw [upd_same] at p4;cases p4
      have z5:=k5 q _ upd_same pq
      have rq:r≠q:=fun z=>by subst z;rw [upd_same] at hr5;cases hr5
      refine⟨z5,?_⟩
      have hl5:(PyFlat.told (PyFlat.played Kri7Neutral.step Kri7Neutral.start (raw.take i))++[((Kri7Neutral.step (behind Kri7Neutral.step Kri7Neutral.start (raw.take i)) c).2.length:Int)]++(Kri7Neutral.step (behind Kri7Neutral.step Kri7Neutral.start (raw.take i)) c).2).length<=10000000:=by
        rw [<- told_snoc,<- played_snoc,<- hci,played_take]
        refine Nat.le_trans (told_take _ _) ?_
        rw [<- hans]
        exact hshort
      rw [List.length_append,List.length_append,List.length_singleton] at hl5
      have l6:L2.upd H5 q (.lst ((PyFlat.told (PyFlat.played Kri7Neutral.step Kri7Neutral.start (raw.take i))).map V.int)) r=some (.lst ((Kri7Neutral.step (behind Kri7Neutral.step Kri7Neutral.start (raw.take i)) c).2.map V.int)):=by
        rw [upd_ne rq];exact l5
      refine⟨_,rfl,.inl ⟨rfl,_,SqL.of upd_same⟩,_,rfl,r,_,rfl,.inl (SqL.of l6),q,_,_,rfl,rfl,upd_same,line_lt (by rw [List.length_map];omega),?_⟩
      rw [upd_upd]
      have t6:L2.upd H5 q (.lst ((PyFlat.told (PyFlat.played Kri7Neutral.step Kri7Neutral.start (raw.take i))).map V.int++[V.int (((Kri7Neutral.step (behind Kri7Neutral.step Kri7Neutral.start (raw.take i)) c).2.map V.int).length:Nat)])) r=some (.lst ((Kri7Neutral.step (behind Kri7Neutral.step Kri7Neutral.start (raw.take i)) c).2.map V.int)):=by
        rw [upd_ne rq];exact l5
      refine⟨_,rfl,.inl ⟨rfl,_,SqL.of upd_same⟩,_,rfl,q,r,_,_,rfl,rfl,upd_same,t6,line_le (by rw [List.length_append,List.length_map,List.length_map];show _+1+_<=_;omega),?_⟩
      rw [upd_upd]
      refine⟨_,_,_,rfl,fun b' o e h1 h2=>?_,fun od' u'=>?_,?_⟩
      · rw [upd_ne h2]
        exact k5 b' o (by rw [upd_ne h2];exact kk b' o e h1 h2) h1
      · rw [hci,behind_snoc,upd_upd]
        exact a5.nf (nf_upd z5)
      · rw [hci,played_snoc,told_snoc,LI,upd_same,List.map_append,List.map_append,List.length_map]
        rfl
    · rintro σ H4 ⟨v3,v4,v5,rfl,kk,a4,t4⟩
      rw [List.length_map,eas,List.take_length,<- hans] at t4
      exact⟨_,rfl,kQ H4 q t4⟩
end
section
variable {C p:Addr}{H:Hp}{Q:VK}{c:List (List Int)}{x:Str}{ns:List Nat}{k:Kri7.Call}
theorem takes_of {h:Kri7.House} (f:Form c x ns k) (g:Gives p H Q (Kri7Neutral.step (some h) c).2 fun H'=>PlA C H' p (Kri7Neutral.step (some h) c).1):Takes C p H Q h k:=by
  unfold Takes
  intro H' q k1 hq hR hl
  have e1:(Kri7Neutral.step (some h) c).2=Kri7Neutral.told (Kri7.act (some h) k).2:=by
    show Kri7Neutral.told (Kri7.act (some h) (Kri7Neutral.call c)).2=_
    rw [f.call]
  have e2:(Kri7Neutral.step (some h) c).1=(Kri7.act (some h) k).1:=by
    show (Kri7.act (some h) (Kri7Neutral.call c)).1=_
    rw [f.call]
  rw [e1,e2] at g
  obtain ⟨h',e,hp⟩:=hR
  refine g H' q k1 hq ?_ hl
  rw [e]
  exact hp
theorem begin_of {a:Kri7.Abs} (f:Form c x ns .begin_) (g:Gives p H Q (Kri7Neutral.step a c).2 fun H'=>PlA C H' p (Kri7Neutral.step a c).1):Gives p H Q [0] fun H'=>Pl C H' p [] [] [[]]:=by
  have e1:(Kri7Neutral.step a c).2=[0]:=by
    show Kri7Neutral.told (Kri7.act a (Kri7Neutral.call c)).2=_
    rw [f.call]
    rfl
  have e2:(Kri7Neutral.step a c).1=some ⟨⟨[],[]⟩,[[]]⟩:=by
    show (Kri7.act a (Kri7Neutral.call c)).1=_
    rw [f.call]
    rfl
  rw [e1,e2] at g
  exact g
theorem act_no (h:k≠.begin_):Kri7.act none k=(none,Kri7.say (-11)):=by
  cases k <;> first | rfl | exact absurd rfl h
theorem not_begun (f:Form c x ns k) (h:k≠.begin_) (g:Gives p H Q (Kri7Neutral.step none c).2 fun H'=>PlA C H' p (Kri7Neutral.step none c).1):Gives p H Q [-11] fun H'=>PlA C H' p none:=by
  have e1:(Kri7Neutral.step none c).2=[-11]:=by
    show Kri7Neutral.told (Kri7.act none (Kri7Neutral.call c)).2=_
    rw [f.call,act_no h]
    rfl
  have e2:(Kri7Neutral.step none c).1=none:=by
    show (Kri7.act none (Kri7Neutral.call c)).1=_
    rw [f.call,act_no h]
  rw [e1,e2] at g
  exact g
end
section
variable {K:PySem.W.Frag}{h:Heap}{mg:Str->Option Value}
theorem def_mk {x:Str}{st:Stmt}{f:Addr}{od an:Option Addr}{sl:Array (Option Value)}{oc kV dc pm cd ct:Value} (X:K.In h) (G:h.Ns mainGlobals mg) (a:PySem.W.nsIn K mainGlobals x=some (some (.ref f)))
    (l:K.lookup f=some ⟨oc,od,.func (PySem.W.fnOf x x (defArgs st) (defBody st) (defScope st) .none kV dc pm an cd ct),sl⟩) (c:PySem.W.codeIn K cd x=true) (k:PySem.W.keepIn K (.ref f)=true):DefAt K mg x st:=
  ⟨f,_,fun_mk l c k,PySem.W.mg_of X G a⟩
theorem int_mk {x:Str}{i:Int}{t:Tok} (X:K.In h) (G:h.Ns mainGlobals mg) (a:PySem.W.nsIn K mainGlobals x=some (some (.int i t))):IntC mg x i:=⟨t,PySem.W.mg_of X G a⟩
theorem tup_mk {a:Addr}{od:Option Addr}{sl:Array (Option Value)}{its:Array Value}{n:Nat}{xs:List V} (l:K.lookup a=some ⟨.type "tuple",od,.seq its n,sl⟩) (hz:its.size<=sizeLine) (r:Vals xs its.toList):∀ H,SqT K H a xs:=
  fun _=>.inr ⟨_,its,n,l,rfl,rfl,hz,r⟩
def RowAt (K:PySem.W.Frag) (r:Addr) (i:Nat):Prop:=∀ H,SqT K H r [.str (nm i),szV (tab.getD i ("",none)).2]
theorem row_int {r:Addr}{od:Option Addr}{sl:Array (Option Value)}{n i:Nat}{x:Str}{t u:Tok}{z:Int} (l:K.lookup r=some ⟨.type "tuple",od,.seq #[.str x t,.int z u] n,sl⟩) (hx:x=nm i) (hz:szV (tab.getD i ("",none)).2=.int z):RowAt K r i:=by
  intro H
  refine tup_mk l (by show 2<=sizeLine;decide) ?_ H
  refine .cons ⟨t,by rw [hx]⟩ (.cons ?_ .nil)
  rw [hz]
  exact⟨u,rfl⟩
theorem row_non {r:Addr}{od:Option Addr}{sl:Array (Option Value)}{n i:Nat}{x:Str}{t:Tok} (l:K.lookup r=some ⟨.type "tuple",od,.seq #[.str x t,.none] n,sl⟩) (hx:x=nm i) (hz:szV (tab.getD i ("",none)).2=.non):RowAt K r i:=by
  intro H
  refine tup_mk l (by show 2<=sizeLine;decide) ?_ H
  refine .cons ⟨t,by rw [hx]⟩ (.cons ?_ .nil)
  rw [hz]
  rfl
theorem vals_refs:∀ (rs:List Addr),Vals (rs.map V.ref) (rs.map Value.ref)
  | []=>.nil
  | r::l=>.cons rfl (vals_refs l)
theorem tab_mk {a:Addr}{od:Option Addr}{sl:Array (Option Value)}{n:Nat}{r0 r1 r2 r3 r4 r5 r6 r7 r8 r9 r10 r11 r12 r13 r14 r15 r16 r17 r18 r19 r20 r21 r22 r23 r24 r25 r26 r27 r28 r29 r30:Addr} (X:K.In h) (G:h.Ns mainGlobals mg) (ha:PySem.W.nsIn K mainGlobals "CALLS"=some (some (.ref a)))
    (l:K.lookup a=some ⟨.type "tuple",od,.seq #[.ref r0,.ref r1,.ref r2,.ref r3,.ref r4,.ref r5,.ref r6,.ref r7,.ref r8,.ref r9,.ref r10,.ref r11,.ref r12,.ref r13,.ref r14,.ref r15,.ref r16,.ref r17,.ref r18,.ref r19,.ref r20,.ref r21,.ref r22,.ref r23,.ref r24,.ref r25,.ref r26,.ref r27,.ref r28,.ref r29,.ref r30] n,sl⟩)
    (h0:RowAt K r0 0) (h1:RowAt K r1 1) (h2:RowAt K r2 2) (h3:RowAt K r3 3) (h4:RowAt K r4 4) (h5:RowAt K r5 5) (h6:RowAt K r6 6) (h7:RowAt K r7 7) (h8:RowAt K r8 8) (h9:RowAt K r9 9) (h10:RowAt K r10 10) (h11:RowAt K r11 11) (h12:RowAt K r12 12) (h13:RowAt K r13 13) (h14:RowAt K r14 14) (h15:RowAt K r15 15) (h16:RowAt K r16 16) (h17:RowAt K r17 17) (h18:RowAt K r18 18) (h19:RowAt K r19 19) (h20:RowAt K r20 20) (h21:RowAt K r21 21) (h22:RowAt K r22 22) (h23:RowAt K r23 23) (h24:RowAt K r24 24) (h25:RowAt K r25 25) (h26:RowAt K r26 26) (h27:RowAt K r27 27) (h28:RowAt K r28 28) (h29:RowAt K r29 29) (h30:RowAt K r30 30):Tab K mg a:=by
  refine⟨PySem.W.mg_of X G ha,[r0,r1,r2,r3,r4,r5,r6,r7,r8,r9,r10,r11,r12,r13,r14,r15,r16,r17,r18,r19,r20,r21,r22,r23,r24,r25,r26,r27,r28,r29,r30],tup_mk l (by show 31<=sizeLine;decide) (vals_refs [r0,r1,r2,r3,r4,r5,r6,r7,r8,r9,r10,r11,r12,r13,r14,r15,r16,r17,r18,r19,r20,r21,r22,r23,r24,r25,r26,r27,r28,r29,r30]),?_⟩
  intro i hi
  match i,hi with
  | 0,_=>exact⟨_,rfl,h0⟩
  | 1,_=>exact⟨_,rfl,h1⟩
  | 2,_=>exact⟨_,rfl,h2⟩
  | 3,_=>exact⟨_,rfl,h3⟩
  | 4,_=>exact⟨_,rfl,h4⟩
  | 5,_=>exact⟨_,rfl,h5⟩
  | 6,_=>exact⟨_,rfl,h6⟩
  | 7,_=>exact⟨_,rfl,h7⟩
  | 8,_=>exact⟨_,rfl,h8⟩
  | 9,_=>exact⟨_,rfl,h9⟩
  | 10,_=>exact⟨_,rfl,h10⟩
  | 11,_=>exact⟨_,rfl,h11⟩
  | 12,_=>exact⟨_,rfl,h12⟩
  | 13,_=>exact⟨_,rfl,h13⟩
  | 14,_=>exact⟨_,rfl,h14⟩
  | 15,_=>exact⟨_,rfl,h15⟩
  | 16,_=>exact⟨_,rfl,h16⟩
  | 17,_=>exact⟨_,rfl,h17⟩
  | 18,_=>exact⟨_,rfl,h18⟩
  | 19,_=>exact⟨_,rfl,h19⟩
  | 20,_=>exact⟨_,rfl,h20⟩
  | 21,_=>exact⟨_,rfl,h21⟩
  | 22,_=>exact⟨_,rfl,h22⟩
  | 23,_=>exact⟨_,rfl,h23⟩
  | 24,_=>exact⟨_,rfl,h24⟩
  | 25,_=>exact⟨_,rfl,h25⟩
  | 26,_=>exact⟨_,rfl,h26⟩
  | 27,_=>exact⟨_,rfl,h27⟩
  | 28,_=>exact⟨_,rfl,h28⟩
  | 29,_=>exact⟨_,rfl,h29⟩
  | 30,_=>exact⟨_,rfl,h30⟩
  | i+31,hi=>exact absurd hi (by omega)
end
end Sp
end
section
namespace Ways
open Kri7
def Way (g:Graph) (ok:Nat->Bool):Nat->List Nat->Nat->Prop
  | 0,l,t=>t∈l
  | k+1,l,t=>ok t=true/\∃ s,Way g ok k l s/\t∈g.of s
structure Wf (g:Graph):Prop where
  lt:∀ s t,t∈g.of s->t<g.n
theorem mem_all {g:Graph}{t:Nat}:t∈g.all↔t<g.n:=List.mem_range
theorem mem_step {g:Graph}{l:List Nat}{t:Nat} (w:Wf g):t∈g.step l↔∃ s∈l,t∈g.of s:=by
  unfold Graph.step
  rw [List.mem_filter,mem_all,List.any_eq_true]
  constructor
  · rintro ⟨_,s,hs,h⟩
    exact⟨s,hs,List.contains_iff_mem.mp h⟩
  · rintro ⟨s,hs,h⟩
    exact⟨w.lt s t h,s,hs,List.contains_iff_mem.mpr h⟩
theorem step_nodup (g:Graph) (l:List Nat):(g.step l).Nodup:=List.Nodup.sublist List.filter_sublist List.nodup_range
theorem way_step {g:Graph} (w:Wf g) {ok:Nat->Bool} (hok:∀ t,ok t=true):∀ {k:Nat}{l:List Nat}{t:Nat},Way g ok (k+1) l t↔Way g ok k (g.step l) t
  | 0,l,t=>by
    show (ok t=true/\∃ s,s∈l/\t∈g.of s)↔t∈g.step l
    rw [mem_step w]
    constructor
    · rintro ⟨_,s,h1,h2⟩
      exact⟨s,h1,h2⟩
    · rintro ⟨s,h1,h2⟩
      exact⟨hok t,s,h1,h2⟩
  | k+1,l,t=>by
    show (ok t=true/\∃ s,Way g ok (k+1) l s/\t∈g.of s)↔(ok t=true/\∃ s,Way g ok k (g.step l) s/\t∈g.of s)
    constructor
    · rintro ⟨h,s,h1,h2⟩
      exact⟨h,s,(way_step w hok).mp h1,h2⟩
    · rintro ⟨h,s,h1,h2⟩
      exact⟨h,s,(way_step w hok).mpr h1,h2⟩
theorem mem_after {g:Graph} (w:Wf g):∀ {k:Nat}{l:List Nat}{t:Nat},t∈g.after k l↔Way g (fun _=>true) k l t
  | 0,l,t=>Iff.rfl
  | k+1,l,t=>by
    show t∈g.after k (g.step l)↔_
    rw [mem_after w (k:=k),way_step w (fun _=>rfl)]
theorem nodup_le:∀ {n:Nat}{l:List Nat},l.Nodup->(∀ x∈l,x<n)->l.length<=n
  | 0,[],_,_=>Nat.le_refl 0
  | 0,x::r,_,h=>absurd (h x List.mem_cons_self) (Nat.not_lt_zero x)
  | n+1,l,hn,h=>by
    have h1:(l.erase n).Nodup:=hn.erase n
    have h2:∀ x∈l.erase n,x<n:=fun x hx=>by
      have hx':=(List.Nodup.mem_erase_iff hn).mp hx
      have:=h x hx'.2
      have:=hx'.1
      omega
    have ih:=nodup_le h1 h2
    have:=List.length_erase_le (a:=n) (l:=l)
    by_cases m:n∈l
    · rw [List.length_erase_of_mem m] at ih
      omega
    · rw [List.erase_of_not_mem m] at ih
      omega
section
variable {g:Graph}{ok f:Nat->Bool}{l:List Nat}
def First (g:Graph) (ok:Nat->Bool) (l:List Nat) (j t:Nat):Prop:=Way g ok j l t/\∀ i,i<j->¬ Way g ok i l t
theorem first_of {j t:Nat} (h:Way g ok j l t):∃ i,i<=j/\First g ok l i t:=by
  induction j using Nat.strongRecOn with
  | ind j ih=>
    by_cases e:∃ i,i<j/\Way g ok i l t
    · obtain ⟨i,hi,h'⟩:=e
      obtain ⟨i',h1,h2⟩:=ih i hi h'
      exact⟨i',by omega,h2⟩
    · exact⟨j,Nat.le_refl j,h,fun i hi z=>e ⟨i,hi,z⟩⟩
theorem first_prev {j t:Nat} (h:First g ok l (j+1) t):ok t=true/\∃ s,First g ok l j s/\t∈g.of s:=by
  obtain ⟨⟨h1,s,h2,h3⟩,h4⟩:=h
  refine⟨h1,s,⟨h2,fun i hi z=>h4 (i+1) (by omega) ⟨h1,s,z,h3⟩⟩,h3⟩
structure Lev (g:Graph) (ok:Nat->Bool) (l:List Nat) (j:Nat) (seen now:List Nat):Prop where
  sn:∀ t,t∈seen↔∃ i,i<j/\First g ok l i t
  nw:∀ t,t∈now↔First g ok l j t
  nd:(seen++now).Nodup
  lt:∀ t∈seen++now,t<g.n
theorem Lev.start (hn:l.Nodup) (hl:∀ t∈l,t<g.n):Lev g ok l 0 [] l where
  sn:=fun t=>⟨fun h=>(by cases h),fun ⟨i,hi,_⟩=>absurd hi (Nat.not_lt_zero i)⟩
  nw:=fun t=>⟨fun h=>⟨h,fun i hi=>absurd hi (Nat.not_lt_zero i)⟩,fun h=>h.1⟩
  nd:=hn
  lt:=hl
theorem Lev.next (w:Wf g) {j:Nat}{seen now:List Nat} (L:Lev g ok l j seen now):Lev g ok l (j+1) (seen++now) ((g.step now).filter fun t=>ok t&&!((seen++now).contains t)) where
  sn:=fun t=>by
    rw [List.mem_append,L.sn,L.nw]
    constructor
    · rintro (⟨i,hi,h⟩ | h)
      · exact⟨i,by omega,h⟩
      · exact⟨j,by omega,h⟩
    · rintro ⟨i,hi,h⟩
      by_cases e:i=j
      · subst e;exact .inr h
      · exact .inl ⟨i,by omega,h⟩
  nw:=fun t=>by
    rw [List.mem_filter,mem_step w,Bool.and_eq_true,Bool.not_eq_true',<- Bool.not_eq_true,List.contains_iff_mem,List.mem_append,L.sn,L.nw]
    constructor
    · rintro ⟨⟨s,hs,h1⟩,h2,h3⟩
      have hs:=(L.nw s).mp hs
      refine⟨⟨h2,s,hs.1,h1⟩,fun i hi z=>?_⟩
      obtain ⟨i',h4,h5⟩:=first_of z
      by_cases e:i'=j
      · subst e;exact h3 (.inr h5)
      · exact h3 (.inl ⟨i',by omega,h5⟩)
    · intro h
      obtain ⟨h1,s,h2,h3⟩:=first_prev h
      refine⟨⟨s,(L.nw s).mpr h2,h3⟩,h1,?_⟩
      rintro (⟨i,hi,z⟩ | z)
      · exact h.2 i (by omega) z.1
      · exact h.2 j (by omega) z.1
  nd:=by
    rw [List.nodup_append]
    refine⟨L.nd,(step_nodup g now).sublist List.filter_sublist,fun x hx y hy e=>?_⟩
    subst e
    obtain ⟨_,h⟩:=List.mem_filter.mp hy
    rw [Bool.and_eq_true,Bool.not_eq_true',<- Bool.not_eq_true,List.contains_iff_mem] at h
    exact h.2 hx
  lt:=fun t ht=>by
    rcases List.mem_append.mp ht with h | h
    · exact L.lt t h
    · obtain ⟨s,_,hs⟩:=(mem_step w).mp (List.mem_filter.mp h).1
      exact w.lt s t hs
theorem none_more {j:Nat} (h:∀ t,¬ First g ok l j t):∀ i,j<=i->∀ t,¬ First g ok l i t:=by
  intro i hi
  induction i with
  | zero=>
    have:j=0:=by omega
    subst this
    exact h
  | succ i ih=>
    by_cases e:j=i+1
    · subst e;exact h
    · intro t ht
      obtain ⟨_,s,hs,_⟩:=first_prev ht
      exact ih (by omega) s hs
def Least (g:Graph) (ok f:Nat->Bool) (l:List Nat) (k:Nat):Prop:=(∃ t,Way g ok k l t/\f t=true)/\∀ i,i<k->∀ t,Way g ok i l t->f t=false
def Never (g:Graph) (ok f:Nat->Bool) (l:List Nat):Prop:=∀ i t,Way g ok i l t->f t=false
theorem search_spec (w:Wf g):∀ (fuel j:Nat) (seen now:List Nat),Lev g ok l j seen now->g.n+1<=fuel+seen.length->(∀ i,i<j->∀ t,First g ok l i t->f t=false) ->
    (match g.search ok f fuel j seen now with
      | some k=>Least g ok f l k
      | none=>Never g ok f l)
  | 0,j,seen,now,L,hfuel,hno=>by
    have h1:seen.Nodup:=(List.nodup_append.mp L.nd).1
    have h2:=nodup_le h1 fun x hx=>L.lt x (List.mem_append_left _ hx)
    omega
  | fuel+1,j,seen,now,L,hfuel,hno=>by
    show (match (if now.any f=true then some j else if now=[] then none else g.search ok f fuel (j+1) (seen++now) ((g.step now).filter fun t=>ok t&&!((seen++now).contains t))) with
      | some k=>Least g ok f l k
      | none=>Never g ok f l)
    have far:∀ i,i<j->∀ t,Way g ok i l t->f t=false:=fun i hi t ht=>by
      obtain ⟨i',h1,h2⟩:=first_of ht
      exact hno i' (by omega) t h2
    by_cases e:now.any f=true
    · rw [if_pos e]
      obtain ⟨t,ht,hf⟩:=List.any_eq_true.mp e
      exact⟨⟨t,((L.nw t).mp ht).1,hf⟩,far⟩
    · rw [if_neg e]
      have hnow:∀ t,First g ok l j t->f t=false:=fun t ht=>by
        cases q:f t with
        | false=>rfl
        | true=>exact absurd (List.any_eq_true.mpr ⟨t,(L.nw t).mpr ht,q⟩) e
      by_cases e2:now=[]
      · rw [if_pos e2]
        intro i t ht
        obtain ⟨i',h1,h2⟩:=first_of ht
        by_cases e3:i'<j
        · exact hno i' e3 t h2
        · refine absurd h2 (none_more (j:=j) (fun t z=>?_) i' (by omega) t)
          have:=(L.nw t).mpr z
          rw [e2] at this
          cases this
      · rw [if_neg e2]
        refine search_spec w fuel (j+1) _ _ (L.next w) ?_ fun i hi t ht=>?_
        · rw [List.length_append]
          have:0<now.length:=List.length_pos_iff.mpr e2
          omega
        · by_cases e3:i=j
          · subst e3;exact hnow t ht
          · exact hno i (by omega) t ht
theorem soonest_spec (w:Wf g) (hn:l.Nodup) (hl:∀ t∈l,t<g.n):(match g.soonest l f with
      | some k=>Least g (fun _=>true) f l k
      | none=>Never g (fun _=>true) f l):=search_spec w (g.n+1) 0 [] l (Lev.start hn hl) (by simp) fun i hi=>absurd hi (Nat.not_lt_zero i)
theorem without_spec (w:Wf g) {bar:Nat->Bool} (hn:l.Nodup) (hl:∀ t∈l,t<g.n):(match g.without l bar f with
      | some k=>Least g (fun t=>!(bar t)) f (l.filter fun t=>!(bar t)) k
      | none=>Never g (fun t=>!(bar t)) f (l.filter fun t=>!(bar t))):=
  search_spec w (g.n+1) 0 [] _ (Lev.start (hn.sublist List.filter_sublist) fun t ht=>hl t (List.mem_filter.mp ht).1) (by simp) fun i hi=>absurd hi (Nat.not_lt_zero i)
theorem Least.uniq {k k':Nat} (h:Least g ok f l k) (h':Least g ok f l k'):k=k':=by
  obtain ⟨⟨t,h1,h2⟩,h3⟩:=h
  obtain ⟨⟨t',h1',h2'⟩,h3'⟩:=h'
  rcases Nat.lt_trichotomy k k' with q | q | q
  · rw [h3' k q t h1] at h2;cases h2
  · exact q
  · rw [h3 k' q t' h1'] at h2';cases h2'
theorem Least.never {k:Nat} (h:Least g ok f l k) (h':Never g ok f l):False:=by
  obtain ⟨⟨t,h1,h2⟩,_⟩:=h
  rw [h' k t h1] at h2
  cases h2
theorem soonest_some (w:Wf g) (hn:l.Nodup) (hl:∀ t∈l,t<g.n) {k:Nat} (h:Least g (fun _=>true) f l k):g.soonest l f=some k:=by
  have:=soonest_spec (f:=f) w hn hl
  cases e:g.soonest l f with
  | none=>rw [e] at this;exact (h.never this).elim
  | some k'=>rw [e] at this;rw [this.uniq h]
theorem soonest_none (w:Wf g) (hn:l.Nodup) (hl:∀ t∈l,t<g.n) (h:Never g (fun _=>true) f l):g.soonest l f=none:=by
  have:=soonest_spec (f:=f) w hn hl
  cases e:g.soonest l f with
  | none=>rfl
  | some k'=>rw [e] at this;exact (Least.never this h).elim
end
end Ways
end
section
namespace Ways
open Kri7
section
variable {g:Graph}{f:Nat->Bool}{l:List Nat}
theorem spread_spec (w:Wf g):∀ (fuel j:Nat) (seen now:List Nat),Lev g (fun _=>true) l j seen now->g.n+1<=fuel+seen.length->∀ t,t∈g.spread fuel seen now↔∃ k,Way g (fun _=>true) k l t
  | 0,j,seen,now,L,hfuel=>by
    have h1:seen.Nodup:=(List.nodup_append.mp L.nd).1
    have h2:=nodup_le h1 fun x hx=>L.lt x (List.mem_append_left _ hx)
    omega
  | fuel+1,j,seen,now,L,hfuel=>by
    intro t
    show t∈(if now=[] then seen else g.spread fuel (seen++now) ((g.step now).filter fun t=>!((seen++now).contains t)))↔_
    by_cases e:now=[]
    · rw [if_pos e,L.sn]
      constructor
      · rintro ⟨i,_,h⟩
        exact⟨i,h.1⟩
      · rintro ⟨k,h⟩
        obtain ⟨i,h1,h2⟩:=first_of h
        by_cases e3:i<j
        · exact⟨i,e3,h2⟩
        · refine absurd h2 (none_more (j:=j) (fun t z=>?_) i (by omega) t)
          have:=(L.nw t).mpr z
          rw [e] at this
          cases this
    · rw [if_neg e]
      refine spread_spec w fuel (j+1) _ _ (L.next w) ?_ t
      rw [List.length_append]
      have:0<now.length:=List.length_pos_iff.mpr e
      omega
theorem way_lt (w:Wf g) (hl:∀ t∈l,t<g.n) {ok:Nat->Bool}:∀ {k t:Nat},Way g ok k l t->t<g.n
  | 0,t,h=>hl t h
  | k+1,t,⟨_,s,_,h⟩=>w.lt s t h
theorem mem_ever (w:Wf g) (hn:l.Nodup) (hl:∀ t∈l,t<g.n) (t:Nat):t∈g.ever l↔∃ k,Way g (fun _=>true) k l t:=by
  show t∈g.all.filter (fun t=>(g.spread (g.n+1) [] l).contains t)↔_
  rw [List.mem_filter,List.contains_iff_mem,spread_spec w (g.n+1) 0 [] l (Lev.start hn hl) (by simp),mem_all]
  exact⟨fun h=>h.2,fun ⟨k,h⟩=>⟨way_lt w hl h,k,h⟩⟩
theorem after_nodup (hn:l.Nodup):∀ k,(g.after k l).Nodup
  | 0=>hn
  | k+1=>by
    have:∀ (k:Nat) (m:List Nat),m.Nodup->(g.after k m).Nodup:=fun k=>by
      induction k with
      | zero=>intro m h;exact h
      | succ k ih=>intro m _;exact ih _ (step_nodup g m)
    exact this (k+1) l hn
def Sure (g:Graph) (f:Nat->Bool):Nat->Nat->Prop
  | 0,s=>f s=true
  | k+1,s=>f s=true \/ (g.of s≠[]/\∀ t∈g.of s,Sure g f k t)
theorem Sure.more:∀ {k s:Nat},Sure g f k s->Sure g f (k+1) s
  | 0,s,h=>.inl h
  | k+1,s,h=>by
    rcases h with h | ⟨h1,h2⟩
    · exact .inl h
    · exact .inr ⟨h1,fun t ht=>Sure.more (h2 t ht)⟩
theorem Sure.mono {k j s:Nat} (h:Sure g f k s) (e:k<=j):Sure g f j s:=by
  induction j with
  | zero=>
    have:k=0:=by omega
    subst this
    exact h
  | succ j ih=>
    by_cases q:k=j+1
    · subst q;exact h
    · exact (ih (by omega)).more
def IsSure (g:Graph) (f:Nat->Bool) (k:Nat) (v:List Nat):Prop:=v.Nodup/\∀ s,s∈v↔s<g.n/\Sure g f k s
theorem sure_start:IsSure g f 0 (g.all.filter f):=⟨List.nodup_range.sublist List.filter_sublist,fun s=>by rw [List.mem_filter,mem_all];rfl⟩
theorem sure_next (w:Wf g) {k:Nat}{v:List Nat} (h:IsSure g f k v):IsSure g f (k+1) (g.surer f v):=by
  refine⟨List.nodup_range.sublist List.filter_sublist,fun s=>?_⟩
  unfold Graph.surer
  rw [List.mem_filter,mem_all,Bool.or_eq_true,Bool.and_eq_true,Bool.not_eq_true',List.isEmpty_eq_false_iff,List.all_eq_true]
  refine and_congr_right fun hs=>or_congr Iff.rfl (and_congr Iff.rfl ⟨fun z t ht=>?_,fun z t ht=>?_⟩)
  · exact ((h.2 t).mp (List.contains_iff_mem.mp (z t ht))).2
  · exact List.contains_iff_mem.mpr ((h.2 t).mpr ⟨w.lt s t ht,z t ht⟩)
theorem sure_stop (w:Wf g) {k:Nat} (h:∀ s,s<g.n->Sure g f (k+1) s->Sure g f k s):∀ j s,s<g.n->Sure g f j s->Sure g f k s:=by
  intro j
  induction j with
  | zero=>intro s _ h0;exact Sure.mono (k:=0) h0 (Nat.zero_le k)
  | succ j ih=>
    intro s hs h1
    refine h s hs ?_
    rcases h1 with h1 | ⟨h1,h2⟩
    · exact .inl h1
    · exact .inr ⟨h1,fun t ht=>ih t (w.lt s t ht) (h2 t ht)⟩
theorem surer_sub (w:Wf g) {k:Nat}{v:List Nat} (h:IsSure g f k v):∀ s∈v,s∈g.surer f v:=fun s hs=>by
  have:=(h.2 s).mp hs
  exact ((sure_next w h).2 s).mpr ⟨this.1,this.2.more⟩
theorem filter_all_eq {p q:Nat->Bool} (h:∀ s,s<g.n->p s=q s):g.all.filter p=g.all.filter q:=List.filter_congr fun s hs=>h s (mem_all.mp hs)
theorem nodup_sub_len:∀ {a b:List Nat},a.Nodup->(∀ x∈a,x∈b)->a.length<=b.length
  | [],b,_,_=>Nat.zero_le _
  | x::r,b,h,hs=>by
    obtain ⟨h1,h2⟩:=List.nodup_cons.mp h
    have hx:=hs x List.mem_cons_self
    have ih:=nodup_sub_len (a:=r) (b:=b.erase x) h2 fun y hy=>(List.mem_erase_of_ne (fun (e:y=x)=>h1 (by rw [<- e];exact hy))).mpr (hs y (List.mem_cons_of_mem _ hy))
    rw [List.length_erase_of_mem hx] at ih
    have:0<b.length:=List.length_pos_iff.mpr (List.ne_nil_of_mem hx)
    rw [List.length_cons]
    omega
theorem surely_spec (w:Wf g) (hl:∀ t∈l,t<g.n):∀ (fuel k:Nat) (v:List Nat) (p:Nat->Bool),v=g.all.filter p->IsSure g f k v->g.n+1<=fuel+v.length+0->(∀ j,j<k->¬ ∀ s∈l,Sure g f j s) ->
    (match g.surelyBy f l fuel k v with
      | some m=>(∀ s∈l,Sure g f m s)/\∀ j,j<m->¬ ∀ s∈l,Sure g f j s
      | none=>∀ j,¬ ∀ s∈l,Sure g f j s)
  | 0,k,v,p,hv,h,hfuel,hno=>by
    have:=nodup_le h.1 fun x hx=>((h.2 x).mp hx).1
    omega
  | fuel+1,k,v,p,hv,h,hfuel,hno=>by
    show (match (if (l.all fun s=>v.contains s)=true then some k else if g.surer f v=v then none else g.surelyBy f l fuel (k+1) (g.surer f v)) with
      | some m=>(∀ s∈l,Sure g f m s)/\∀ j,j<m->¬ ∀ s∈l,Sure g f j s
      | none=>∀ j,¬ ∀ s∈l,Sure g f j s)
    have hall:(l.all fun s=>v.contains s)=true↔∀ s∈l,Sure g f k s:=by
      rw [List.all_eq_true]
      exact⟨fun z s hs=>((h.2 s).mp (List.contains_iff_mem.mp (z s hs))).2,fun z s hs=>List.contains_iff_mem.mpr ((h.2 s).mpr ⟨hl s hs,z s hs⟩)⟩
    by_cases e:(l.all fun s=>v.contains s)=true
    · rw [if_pos e]
      exact⟨hall.mp e,hno⟩
    · rw [if_neg e]
      by_cases e2:g.surer f v=v
      · rw [if_pos e2]
        intro j hj
        have hn:=sure_next w h
        rw [e2] at hn
        have stop:=sure_stop (k:=k) w (fun s hs z=>((h.2 s).mp ((hn.2 s).mpr ⟨hs,z⟩)).2)
        exact e (hall.mpr fun s hs=>stop j s (hl s hs) (hj s hs))
      · rw [if_neg e2]
        have hlen:v.length<(g.surer f v).length:=by
          have h1:=nodup_sub_len h.1 (surer_sub w h)
          refine Nat.lt_of_le_of_ne h1 fun q=>e2 ?_
          have hsub:∀ s∈g.surer f v,s∈v:=fun s hs=>by
            refine Decidable.byContradiction fun z=>?_
            have h3:(s::v).Nodup:=List.nodup_cons.mpr ⟨z,h.1⟩
            have h4:=nodup_sub_len h3 (b:=g.surer f v) fun x hx=>by
              rcases List.mem_cons.mp hx with rfl | hx
              · exact hs
              · exact surer_sub w h x hx
            rw [List.length_cons] at h4
            omega
          rw [hv] at hsub ⊢
          unfold Graph.surer at hsub ⊢
          refine filter_all_eq fun s hs=>?_
          rw [Bool.eq_iff_iff]
          constructor
          · intro z
            have:=hsub s (List.mem_filter.mpr ⟨mem_all.mpr hs,z⟩)
            exact (List.mem_filter.mp this).2
          · intro z
            have h5:=surer_sub w h s (by rw [hv];exact List.mem_filter.mpr ⟨mem_all.mpr hs,z⟩)
            unfold Graph.surer at h5
            rw [hv] at h5
            exact (List.mem_filter.mp h5).2
        refine surely_spec w hl fuel (k+1) (g.surer f v) _ rfl (sure_next w h) (by omega) fun j hj=>?_
        by_cases e3:j=k
        · subst e3;exact fun z=>e (hall.mpr z)
        · exact hno j (by omega)
end
end Ways
end
section
namespace Ways
open Kri7
section
variable {g:Graph}{p:Nat->Bool}{l:List Nat}
def Long (g:Graph) (p:Nat->Bool):Nat->Nat->Prop
  | 0,s=>p s=true
  | k+1,s=>p s=true/\∃ t∈g.of s,Long g p k t
theorem Long.less:∀ {k s:Nat},Long g p (k+1) s->Long g p k s
  | 0,s,h=>h.1
  | k+1,s,⟨h1,t,h2,h3⟩=>⟨h1,t,h2,Long.less h3⟩
theorem Long.mono {k j s:Nat} (h:Long g p k s) (e:j<=k):Long g p j s:=by
  induction k with
  | zero=>
    have:j=0:=by omega
    subst this
    exact h
  | succ k ih=>
    by_cases q:j=k+1
    · subst q;exact h
    · exact ih h.less (by omega)
theorem long_stop (w:Wf g) {k:Nat} (h:∀ s,s<g.n->Long g p k s->Long g p (k+1) s):∀ j s,s<g.n->Long g p k s->Long g p j s:=by
  intro j
  induction j with
  | zero=>intro s _ h1;exact h1.mono (Nat.zero_le k)
  | succ j ih=>
    intro s hs h1
    obtain ⟨h2,t,h3,h4⟩:=h s hs h1
    exact⟨h2,t,h3,ih t (w.lt s t h3) h4⟩
theorem goOn_spec (w:Wf g):∀ (fuel k:Nat) (v:List Nat),v.length<=fuel->(∀ s,s∈v↔s<g.n/\Long g p k s)->∀ s,s∈g.goOn fuel v↔s<g.n/\∀ j,Long g p j s
  | 0,k,v,hf,h=>by
    intro s
    have e:v=[]:=List.eq_nil_of_length_eq_zero (by omega)
    show s∈v↔_
    subst e
    constructor
    · intro z;cases z
    · rintro ⟨h1,h2⟩
      exact (h s).mpr ⟨h1,h2 k⟩
  | fuel+1,k,v,hf,h=>by
    intro s
    show s∈(if (v.filter fun s=>(g.of s).any fun t=>v.contains t)=v then v else g.goOn fuel (v.filter fun s=>(g.of s).any fun t=>v.contains t))↔_
    have hv:∀ s,s∈(v.filter fun s=>(g.of s).any fun t=>v.contains t)↔s<g.n/\Long g p (k+1) s:=fun s=>by
      rw [List.mem_filter,h,List.any_eq_true]
      constructor
      · rintro ⟨⟨h1,h2⟩,t,h3,h4⟩
        exact⟨h1,(h2.mono (Nat.zero_le k):Long g p 0 s),t,h3,((h t).mp (List.contains_iff_mem.mp h4)).2⟩
      · rintro ⟨h1,h2⟩
        obtain ⟨_,t,h3,h4⟩:=id h2
        exact⟨⟨h1,h2.less⟩,t,h3,List.contains_iff_mem.mpr ((h t).mpr ⟨w.lt s t h3,h4⟩)⟩
    by_cases e:(v.filter fun s=>(g.of s).any fun t=>v.contains t)=v
    · rw [if_pos e,h]
      refine and_congr_right fun hs=>⟨fun z j=>?_,fun z=>z k⟩
      refine long_stop w (k:=k) (fun s hs z=>?_) j s hs z
      have:=(h s).mpr ⟨hs,z⟩
      rw [<- e] at this
      exact ((hv s).mp this).2
    · rw [if_neg e]
      refine goOn_spec w fuel (k+1) _ ?_ hv s
      have h1:(v.filter fun s=>(g.of s).any fun t=>v.contains t).length<=v.length:=List.length_filter_le _ _
      have h2:(v.filter fun s=>(g.of s).any fun t=>v.contains t).length≠v.length:=fun q=>e (List.filter_eq_self.mpr (List.length_filter_eq_length_iff.mp q))
      omega
theorem mem_goOn (w:Wf g) (s:Nat):s∈g.goOn g.n (g.all.filter p)↔s<g.n/\∀ j,Long g p j s:=by
  refine goOn_spec w g.n 0 _ ?_ (fun s=>?_) s
  · exact nodup_le (List.nodup_range.sublist List.filter_sublist) fun x hx=>mem_all.mp (List.mem_filter.mp hx).1
  · rw [List.mem_filter,mem_all]
    rfl
theorem least_go:∀ (l:List Nat) (b:Nat),∃ m,l.foldl (fun b x=>match b with
      | none=>some x
      | some y=>some (min x y)) (some b)=some m/\(m=b \/ m∈l)/\m<=b/\∀ x∈l,m<=x
  | [],b=>⟨b,rfl,.inl rfl,Nat.le_refl b,fun x hx=>by cases hx⟩
  | x::r,b=>by
    obtain ⟨m,h1,h2,h3,h4⟩:=least_go r (min x b)
    refine⟨m,h1,?_,by omega,fun y hy=>?_⟩
    · rcases h2 with h2 | h2
      · by_cases e:x<=b
        · exact .inr (by rw [h2,Nat.min_eq_left e];exact List.mem_cons_self)
        · exact .inl (by rw [h2];omega)
      · exact .inr (List.mem_cons_of_mem _ h2)
    · rcases List.mem_cons.mp hy with rfl | hy
      · omega
      · exact h4 y hy
theorem least_some {l:List Nat}{m:Nat} (h1:m∈l) (h2:∀ x∈l,m<=x):least l=some m:=by
  cases l with
  | nil=>cases h1
  | cons x r=>
    obtain ⟨m',e1,e2,e3,e4⟩:=least_go r x
    refine Eq.trans (b:=some m') e1 ?_
    have a1:m<=m':=by
      rcases e2 with e2 | e2
      · rw [e2];exact h2 x List.mem_cons_self
      · exact h2 m' (List.mem_cons_of_mem _ e2)
    have a2:m'<=m:=by
      rcases List.mem_cons.mp h1 with q | q
      · omega
      · exact e4 m q
    rw [show m'=m by omega]
end
end Ways
end
section
namespace Ways
open Kri7
section
variable {g:Graph}{l:List Nat}
theorem way_join {ok:Nat->Bool}{s:Nat}:∀ {j:Nat}{t:Nat}{i:Nat},Way g ok i l s->Way g ok j [s] t->Way g ok (i+j) l t
  | 0,t,i,h,h2=>by
    have:t=s:=List.mem_singleton.mp h2
    subst this
    exact h
  | j+1,t,i,h,h2=>by
    obtain ⟨h3,u,h4,h5⟩:=h2
    exact⟨h3,u,way_join h h4,h5⟩
theorem way_front {ok:Nat->Bool}:∀ {k:Nat}{l:List Nat}{t:Nat},Way g ok (k+1) l t↔∃ s∈l,∃ u∈g.of s,ok u=true/\Way g ok k [u] t
  | 0,l,t=>by
    constructor
    · rintro ⟨h,s,h1,h2⟩
      exact⟨s,h1,t,h2,h,List.mem_singleton.mpr rfl⟩
    · rintro ⟨s,h1,u,h2,h3,h4⟩
      have:t=u:=List.mem_singleton.mp h4
      subst this
      exact⟨h3,s,h1,h2⟩
  | k+1,l,t=>by
    constructor
    · rintro ⟨h,v,h1,h2⟩
      obtain ⟨s,hs,u,hu,ho,hw⟩:=way_front.mp h1
      exact⟨s,hs,u,hu,ho,h,v,hw,h2⟩
    · rintro ⟨s,hs,u,hu,ho,h,v,hw,h2⟩
      exact⟨h,v,way_front.mpr ⟨s,hs,u,hu,ho,hw⟩,h2⟩
theorem way_of {ok:Nat->Bool}:∀ {k:Nat}{l:List Nat}{t:Nat},Way g ok k l t->∃ s∈l,Way g ok k [s] t
  | 0,l,t,h=>⟨t,h,List.mem_singleton.mpr rfl⟩
  | k+1,l,t,h=>by
    obtain ⟨s,hs,u,hu,ho,hw⟩:=way_front.mp h
    exact⟨s,hs,way_front.mpr ⟨s,List.mem_singleton.mpr rfl,u,hu,ho,hw⟩⟩
theorem way_from {ok:Nat->Bool}:∀ {k:Nat}{l:List Nat}{s t:Nat},s∈l->Way g ok k [s] t->Way g ok k l t
  | 0,l,s,t,hs,h=>by
    have:t=s:=List.mem_singleton.mp h
    subst this
    exact hs
  | k+1,l,s,t,hs,⟨h,v,h1,h2⟩=>⟨h,v,way_from hs h1,h2⟩
abbrev Wy (g:Graph) (k:Nat) (l:List Nat) (t:Nat):Prop:=Way g (fun _=>true) k l t
abbrev Fst (g:Graph) (l:List Nat) (k t:Nat):Prop:=First g (fun _=>true) l k t
theorem fst_uniq {k k' t:Nat} (h:Fst g l k t) (h':Fst g l k' t):k=k':=by
  have a:¬ k<k':=fun z=>h'.2 k z h.1
  have b:¬ k'<k:=fun z=>h.2 k' z h'.1
  omega
theorem fst_le {k k' t:Nat} (h:Fst g l k t) (h':Wy g k' l t):k<=k':=Nat.le_of_not_lt fun z=>h.2 k' z h'
theorem fst_zero {t:Nat}:Fst g l 0 t↔t∈l:=⟨fun h=>h.1,fun h=>⟨h,fun i hi=>absurd hi (Nat.not_lt_zero i)⟩⟩
def pix (g:Graph) (fd:List Nat) (t:Nat):Nat:=fd.findIdx fun x=>(g.of x).contains t
structure Bfs (g:Graph) (l:List Nat) (a:Nat) (fd:List Nat):Prop where
  nd:fd.Nodup
  lt:∀ t∈fd,t<g.n
  pre:∃ r,fd=l++r
  le:a<=fd.length
  cl:∀ i x:Nat,i<a->fd[i]?=some x->∀ t∈g.of x,t∈fd
  bef:∀ j t:Nat,fd[j]?=some t->¬ t∈l->pix g fd t<a/\pix g fd t<j
  ord:∀ i j t u:Nat,i<j->fd[i]?=some t->fd[j]?=some u->¬ t∈l->¬ u∈l->pix g fd t<pix g fd u \/ (pix g fd t=pix g fd u/\t<u)
theorem mem_at {α:Type}{l:List α}{x:α} (h:x∈l):∃ i:Nat,l[i]?=some x:=by
  obtain ⟨i,hi,e⟩:=List.getElem_of_mem h
  exact⟨i,by rw [List.getElem?_eq_getElem hi,e]⟩
theorem at_uniq {l:List Nat} (h:l.Nodup) {i j x:Nat} (hi:l[i]?=some x) (hj:l[j]?=some x):i=j:=by
  obtain ⟨h1,e1⟩:=List.getElem?_eq_some_iff.mp hi
  obtain ⟨h2,e2⟩:=List.getElem?_eq_some_iff.mp hj
  exact (List.getElem_inj h).mp (e1.trans e2.symm)
theorem Bfs.start (hn:l.Nodup) (hl:∀ t∈l,t<g.n):Bfs g l 0 l where
  nd:=hn
  lt:=hl
  pre:=⟨[],by simp⟩
  le:=Nat.zero_le _
  cl:=fun i x h=>absurd h (Nat.not_lt_zero i)
  bef:=fun j t h n=>absurd (List.mem_of_getElem? h) n
  ord:=fun i j t u _ h _ n=>absurd (List.mem_of_getElem? h) n
theorem pix_grow {fd new:List Nat}{t:Nat} (h:pix g fd t<fd.length):pix g (fd++new) t=pix g fd t:=by
  unfold pix at h ⊢
  rw [List.findIdx_append,if_pos h]
theorem pix_le {fd:List Nat}{t i x:Nat} (h:fd[i]?=some x) (ht:t∈g.of x):pix g fd t<=i:=by
  unfold pix
  refine Nat.le_of_not_lt fun z=>?_
  have hi:=(List.getElem?_eq_some_iff.mp h).1
  have e:=(List.getElem?_eq_some_iff.mp h).2
  have:=List.not_of_lt_findIdx z
  rw [e] at this
  rw [List.contains_iff_mem.mpr ht] at this
  cases this
theorem pix_at {fd:List Nat}{t:Nat} (h:pix g fd t<fd.length):∃ x,fd[pix g fd t]?=some x/\t∈g.of x:=by
  unfold pix at h ⊢
  refine⟨_,List.getElem?_eq_getElem h,?_⟩
  have:=List.findIdx_getElem (w:=h)
  exact List.contains_iff_mem.mp this
theorem Bfs.next (w:Wf g) {a x:Nat}{fd:List Nat} (B:Bfs g l a fd) (hx:fd[a]?=some x) (hs:(g.of x).Pairwise (·<·)):Bfs g l (a+1) (fd++(g.of x).filter fun t=>!(fd.contains t)):=by
  have hal:a<fd.length:=(List.getElem?_eq_some_iff.mp hx).1
  have hnew:∀ t,t∈(g.of x).filter (fun t=>!(fd.contains t))↔t∈g.of x/\¬ t∈fd:=fun t=>by
    rw [List.mem_filter,Bool.not_eq_true',<- Bool.not_eq_true,List.contains_iff_mem]
  have hpn:∀ t,t∈(g.of x).filter (fun t=>!(fd.contains t))->pix g (fd++(g.of x).filter fun t=>!(fd.contains t)) t=a:=fun t ht=>by
    obtain ⟨h1,h2⟩:=(hnew t).mp ht
    have le:pix g fd t<=a:=pix_le hx h1
    have e:pix g fd t=a:=by
      refine Nat.le_antisymm le (Nat.le_of_not_lt fun z=>?_)
      obtain ⟨y,hy,hty⟩:=pix_at (g:=g) (fd:=fd) (t:=t) (by omega)
      exact h2 (B.cl _ y z hy t hty)
    rw [pix_grow (by omega),e]
  have hpo:∀ j t:Nat,fd[j]?=some t->¬ t∈l->pix g (fd++(g.of x).filter fun t=>!(fd.contains t)) t=pix g fd t:=fun j t hj hl=>pix_grow (by have:=(B.bef j t hj hl).1;omega)
  obtain ⟨r,hr⟩:=B.pre
  refine⟨?_,?_,⟨r++(g.of x).filter fun t=>!(fd.contains t),by rw [<- List.append_assoc,<- hr]⟩,?_,?_,?_,?_⟩
  · rw [List.nodup_append]
    refine⟨B.nd,(hs.imp fun h=>Nat.ne_of_lt h).sublist List.filter_sublist,fun y hy z hz e=>?_⟩
    subst e
    exact ((hnew y).mp hz).2 hy
  · intro t ht
    rcases List.mem_append.mp ht with h | h
    · exact B.lt t h
    · exact w.lt x t ((hnew t).mp h).1
  · rw [List.length_append];omega
  · intro i y hi hy t ht
    by_cases e:i=a
    · subst e
      rw [List.getElem?_append_left hal,hx] at hy
      cases hy
      by_cases m:t∈fd
      · exact List.mem_append_left _ m
      · exact List.mem_append_right _ ((hnew t).mpr ⟨ht,m⟩)
    · rw [List.getElem?_append_left (by omega)] at hy
      exact List.mem_append_left _ (B.cl i y (by omega) hy t ht)
  · intro j t hj hl
    by_cases e:j<fd.length
    · rw [List.getElem?_append_left e] at hj
      rw [hpo j t hj hl]
      have:=B.bef j t hj hl
      omega
    · rw [List.getElem?_append_right (by omega)] at hj
      rw [hpn t (List.mem_of_getElem? hj)]
      omega
  · intro i j t u hij hi hj ht hu
    by_cases e:j<fd.length
    · rw [List.getElem?_append_left (by omega)] at hi
      rw [List.getElem?_append_left e] at hj
      rw [hpo i t hi ht,hpo j u hj hu]
      exact B.ord i j t u hij hi hj ht hu
    · rw [List.getElem?_append_right (by omega)] at hj
      rw [hpn u (List.mem_of_getElem? hj)]
      by_cases e2:i<fd.length
      · rw [List.getElem?_append_left e2] at hi
        rw [hpo i t hi ht]
        exact .inl (B.bef i t hi ht).1
      · rw [List.getElem?_append_right (by omega)] at hi
        rw [hpn t (List.mem_of_getElem? hi)]
        refine .inr ⟨rfl,?_⟩
        have hp:((g.of x).filter fun t=>!(fd.contains t)).Pairwise (·<·):=hs.sublist List.filter_sublist
        obtain ⟨h1,e1⟩:=List.getElem?_eq_some_iff.mp hi
        obtain ⟨h2,e2⟩:=List.getElem?_eq_some_iff.mp hj
        have:=List.pairwise_iff_getElem.mp hp (i - fd.length) (j - fd.length) h1 h2 (by omega)
        rw [e1,e2] at this
        exact this
variable {fd:List Nat}
theorem Bfs.way (B:Bfs g l fd.length fd):∀ (j t:Nat),fd[j]?=some t->∃ k,Wy g k l t:=fun j=>by
  induction j using Nat.strongRecOn with
  | ind j ih=>
    intro t hj
    by_cases hl:t∈l
    · exact⟨0,hl⟩
    · obtain ⟨h1,h2⟩:=B.bef j t hj hl
      obtain ⟨x,hx,hxt⟩:=pix_at (g:=g) h1
      obtain ⟨k,hk⟩:=ih _ h2 x hx
      exact⟨k+1,rfl,x,hk,hxt⟩
theorem Bfs.pre_mem (B:Bfs g l fd.length fd) {t:Nat} (h:t∈l):t∈fd:=by
  obtain ⟨r,hr⟩:=B.pre
  rw [hr]
  exact List.mem_append_left _ h
theorem Bfs.has (B:Bfs g l fd.length fd):∀ {k t:Nat},Wy g k l t->t∈fd
  | 0,t,h=>B.pre_mem h
  | k+1,t,⟨_,s,h1,h2⟩=>by
    obtain ⟨i,hi⟩:=mem_at (B.has h1)
    exact B.cl i s (List.getElem?_eq_some_iff.mp hi).1 hi t h2
theorem Bfs.mem (B:Bfs g l fd.length fd) {t:Nat}:t∈fd↔∃ k,Wy g k l t:=
  ⟨fun h=>let ⟨j,hj⟩:=mem_at h;B.way j t hj,fun ⟨k,h⟩=>B.has h⟩
theorem Bfs.fst (B:Bfs g l fd.length fd) {j t:Nat} (h:fd[j]?=some t):∃ k,Fst g l k t:=by
  obtain ⟨k,hk⟩:=B.way j t h
  obtain ⟨i,_,hi⟩:=first_of hk
  exact⟨i,hi⟩
theorem Bfs.early (B:Bfs g l fd.length fd) {i j t u:Nat} (hi:fd[i]?=some t) (hj:fd[j]?=some u) (h:i<=j) (hu:u∈l):t∈l:=by
  obtain ⟨r,hr⟩:=B.pre
  obtain ⟨m,hm⟩:=mem_at hu
  have hml:=(List.getElem?_eq_some_iff.mp hm).1
  have hm2:fd[m]?=some u:=by rw [hr,List.getElem?_append_left hml];exact hm
  have e:=at_uniq B.nd hj hm2
  subst e
  rw [hr,List.getElem?_append_left (by omega)] at hi
  exact List.mem_of_getElem? hi
theorem Bfs.mono (B:Bfs g l fd.length fd):∀ {ku:Nat}{i j t u kt:Nat},fd[i]?=some t->fd[j]?=some u->i<=j->Fst g l kt t->Fst g l ku u->kt<=ku
  | 0,i,j,t,u,kt,hi,hj,h,ht,hu=>by
    have:=B.early hi hj h (fst_zero.mp hu)
    rw [fst_uniq ht (fst_zero.mpr this)]
    exact Nat.le_refl 0
  | k+1,i,j,t,u,kt,hi,hj,h,ht,hu=>by
    by_cases htl:t∈l
    · rw [fst_uniq ht (fst_zero.mpr htl)];exact Nat.zero_le _
    · have hul:¬ u∈l:=fun z=>htl (B.early hi hj h z)
      obtain ⟨_,s,hs,hsu⟩:=first_prev hu
      obtain ⟨m,hm⟩:=mem_at (B.has hs.1)
      have p1:pix g fd u<=m:=pix_le hm hsu
      have p2:pix g fd t<=pix g fd u:=by
        by_cases e:i=j
        · subst e
          rw [hi] at hj
          cases hj
          exact Nat.le_refl _
        · rcases B.ord i j t u (by omega) hi hj htl hul with z | z
          · omega
          · omega
      obtain ⟨x,hx,hxt⟩:=pix_at (g:=g) (B.bef i t hi htl).1
      obtain ⟨kx,hkx⟩:=B.fst hx
      have:=B.mono hx hm (by omega) hkx hs
      have:kt<=kx+1:=fst_le ht ⟨rfl,x,hkx.1,hxt⟩
      omega
theorem Bfs.par (B:Bfs g l fd.length fd) {j t k:Nat} (hj:fd[j]?=some t) (h:Fst g l (k+1) t):¬ t∈l/\∃ x,fd[pix g fd t]?=some x/\t∈g.of x/\Fst g l k x:=by
  have hl:¬ t∈l:=fun z=>by
    have:=fst_uniq h (fst_zero.mpr z)
    omega
  obtain ⟨x,hx,hxt⟩:=pix_at (g:=g) (B.bef j t hj hl).1
  obtain ⟨kx,hkx⟩:=B.fst hx
  obtain ⟨_,s,hs,hst⟩:=first_prev h
  obtain ⟨m,hm⟩:=mem_at (B.has hs.1)
  have a1:=B.mono hx hm (pix_le hm hst) hkx hs
  have a2:k+1<=kx+1:=fst_le h ⟨rfl,x,hkx.1,hxt⟩
  have e:kx=k:=by omega
  subst e
  exact⟨hl,x,hx,hxt,hkx⟩
inductive Chain (g:Graph) (l fd:List Nat):List Nat->Nat->Prop
  | one {t:Nat}:t∈l->Chain g l fd [t] t
  | more {t x:Nat}{c:List Nat}:¬ t∈l->fd[pix g fd t]?=some x->Chain g l fd c x->Chain g l fd (c++[t]) t
theorem Bfs.chain (B:Bfs g l fd.length fd):∀ {k j t:Nat},fd[j]?=some t->Fst g l k t->∃ c,Chain g l fd c t/\c.length=k+1
  | 0,j,t,hj,h=>⟨[t],.one (fst_zero.mp h),rfl⟩
  | k+1,j,t,hj,h=>by
    obtain ⟨hl,x,hx,hxt,hkx⟩:=B.par hj h
    obtain ⟨c,h1,h2⟩:=B.chain hx hkx
    exact⟨c++[t],.more hl hx h1,by rw [List.length_append,h2];rfl⟩
section
variable {f:Nat->Bool}
abbrev Dst (g:Graph) (f:Nat->Bool) (m s:Nat):Prop:=Least g (fun _=>true) f [s] m
theorem dst_soonest (w:Wf g) {m s:Nat} (hs:s<g.n):g.soonest [s] f=some m↔Dst g f m s:=by
  have hn:[s].Nodup:=by simp
  have hl:∀ t∈[s],t<g.n:=fun t h=>by rw [List.mem_singleton.mp h];exact hs
  constructor
  · intro h
    have sp:=soonest_spec (f:=f) w hn hl
    rw [h] at sp
    exact sp
  · exact soonest_some w hn hl
theorem dst_zero {s:Nat}:Dst g f 0 s↔f s=true:=by
  constructor
  · rintro ⟨⟨t,h1,h2⟩,_⟩
    rw [List.mem_singleton.mp h1] at h2
    exact h2
  · intro h
    exact⟨⟨s,List.mem_singleton.mpr rfl,h⟩,fun i hi=>absurd hi (Nat.not_lt_zero i)⟩
theorem dst_succ {m s:Nat} (h:Dst g f (m+1) s):∃ t∈g.of s,Dst g f m t:=by
  obtain ⟨⟨u,h1,h2⟩,h3⟩:=h
  obtain ⟨s',hs,t,ht,_,hw⟩:=way_front.mp h1
  rw [List.mem_singleton.mp hs] at ht
  exact⟨t,ht,⟨u,hw,h2⟩,fun i hi v hv=>h3 (i+1) (by omega) v (way_front.mpr ⟨s,List.mem_singleton.mpr rfl,t,ht,rfl,hv⟩)⟩
theorem find_sorted {p:Nat->Bool}{x:Nat}:∀ {l:List Nat},l.Pairwise (·<·)->x∈l->p x=true->(∀ t∈l,p t=true->¬ t<x)->l.find? p=some x
  | [],_,h,_,_=>by cases h
  | a::r,hp,hx,px,hn=>by
    obtain ⟨h1,h2⟩:=List.pairwise_cons.mp hp
    by_cases e:p a=true
    · rw [List.find?_cons_of_pos e]
      rcases List.mem_cons.mp hx with z | z
      · rw [z]
      · exact absurd (h1 x z) (hn a List.mem_cons_self e)
    · rw [List.find?_cons_of_neg e]
      rcases List.mem_cons.mp hx with z | z
      · subst z;exact absurd px e
      · exact find_sorted h2 z px fun t ht=>hn t (List.mem_cons_of_mem _ ht)
theorem find_pre {p:Nat->Bool}{x i:Nat} (B:Bfs g l fd.length fd) (hx:x∈l) (hi:fd[i]?=some x) (px:p x=true) (hn:∀ y j:Nat,y∈l->fd[j]?=some y->p y=true->i<=j):l.find? p=some x:=by
  obtain ⟨r,hr⟩:=B.pre
  obtain ⟨m,hm⟩:=mem_at hx
  have hml:=(List.getElem?_eq_some_iff.mp hm).1
  have hm2:fd[m]?=some x:=by rw [hr,List.getElem?_append_left hml];exact hm
  have e:=at_uniq B.nd hi hm2
  subst e
  refine List.find?_eq_some_iff_getElem.mpr ⟨px,i,hml,(List.getElem?_eq_some_iff.mp hm).2,fun j hj=>?_⟩
  have hjl:j<l.length:=by omega
  cases e:p l[j] with
  | false=>rfl
  | true=>
    have:=hn l[j] j (List.getElem_mem hjl) (by rw [hr,List.getElem?_append_left hjl,List.getElem?_eq_getElem hjl]) e
    omega
theorem Bfs.greedy (w:Wf g) (hsr:∀ s,(g.of s).Pairwise (·<·)) (B:Bfs g l fd.length fd) {k:Nat} (hk:Least g (fun _=>true) f l k):∀ (i m x ix:Nat) (ct rest:List Nat),i+m=k->Chain g l fd ct x->fd[ix]?=some x->Fst g l i x->Dst g f m x ->
    (∀ y j:Nat,Fst g l i y->Dst g f m y->fd[j]?=some y->ix<=j)->g.way f m x=x::rest->∃ s is:Nat,s∈l/\fd[is]?=some s/\(∀ y j:Nat,y∈l->Dst g f k y->fd[j]?=some y->is<=j)/\Dst g f k s/\g.way f k s=ct++rest:=by
  have sum:∀ {i m y:Nat},Wy g i l y->Dst g f m y->k<=i+m:=fun {i m y} h1 h2=>by
    obtain ⟨⟨u,h3,h4⟩,_⟩:=h2
    refine Nat.le_of_not_lt fun z=>?_
    have:=hk.2 _ z u (way_join h1 h3)
    rw [h4] at this
    cases this
  intro i
  induction i with
  | zero=>
    intro m x ix ct rest hm hc hix hf hd hy hw
    have em:m=k:=by omega
    subst em
    have hx:x∈l:=fst_zero.mp hf
    cases hc with
    | one _=>exact⟨x,ix,hx,hix,fun y j hyl hdy hj=>hy y j (fst_zero.mpr hyl) hdy hj,hd,hw⟩
    | more n _ _=>exact absurd hx n
  | succ i ih=>
    intro m x' ix' ct rest hm hc hix' hf hd hy hw
    obtain ⟨hl,x,hx,hxt,hfx⟩:=B.par hix' hf
    cases hc with
    | one z=>exact absurd z hl
    | @more _ x2 c _ hx2 hc2=>
      rw [hx] at hx2
      cases hx2
      have hdx:Dst g f (m+1) x:=by
        obtain ⟨⟨u,h1,h2⟩,_⟩:=id hd
        refine⟨⟨u,way_front.mpr ⟨x,List.mem_singleton.mpr rfl,x',hxt,rfl,h1⟩,h2⟩,fun j hj v hv=>?_⟩
        cases e:f v with
        | false=>rfl
        | true=>
          have:=hk.2 (i+j) (by omega) v (way_join hfx.1 hv)
          rw [e] at this
          cases this
      have deep:∀ {y z:Nat},Fst g l i y->z∈g.of y->Dst g f m z->Fst g l (i+1) z:=fun {y z} h1 h2 h3=>by
        have wz:Wy g (i+1) l z:=⟨rfl,y,h1.1,h2⟩
        obtain ⟨dz,h4,h5⟩:=first_of wz
        have:=sum h5.1 h3
        have e:dz=i+1:=by omega
        rw [e] at h5
        exact h5
      have pl:∀ {z j:Nat},Fst g l (i+1) z->Dst g f m z->fd[j]?=some z->pix g fd x'<=pix g fd z/\(pix g fd z=pix g fd x'->¬ z<x'):=fun {z j} h1 h2 h3=>by
        have:=hy z j h1 h2 h3
        by_cases e:ix'=j
        · subst e
          rw [hix'] at h3
          cases h3
          exact⟨Nat.le_refl _,fun _=>Nat.lt_irrefl _⟩
        · have hzl:¬ z∈l:=fun q=>by
            have:=fst_uniq h1 (fst_zero.mpr q)
            omega
          rcases B.ord ix' j x' z (by omega) hix' h3 hl hzl with q | q
          · exact⟨by omega,fun q2=>by omega⟩
          · exact⟨by omega,fun _=>by omega⟩
      refine ih (m+1) x (pix g fd x') c (x'::rest) (by omega) hc2 hx hfx hdx (fun y j hfy hdy hj=>?_) ?_ |>.imp fun s h=>h.imp fun is h=>⟨h.1,h.2.1,h.2.2.1,h.2.2.2.1,by rw [h.2.2.2.2,List.append_assoc];rfl⟩
      · obtain ⟨z,hz,hdz⟩:=dst_succ hdy
        have hfz:=deep hfy hz hdz
        obtain ⟨jz,hjz⟩:=mem_at (B.has hfz.1)
        have:=(pl hfz hdz hjz).1
        have:=pix_le hj hz
        omega
      · have hfind:(g.of x).find? (fun t=>g.soonest [t] f==some m)=some x':=by
          refine find_sorted (hsr x) hxt ?_ fun t ht hp=>?_
          · rw [beq_iff_eq,dst_soonest w (w.lt x x' hxt)]
            exact hd
          · rw [beq_iff_eq,dst_soonest w (w.lt x t ht)] at hp
            have hft:=deep hfx ht hp
            obtain ⟨jt,hjt⟩:=mem_at (B.has hft.1)
            obtain ⟨q1,q2⟩:=pl hft hp hjt
            have:=pix_le hx ht
            exact q2 (by omega)
        show (match (g.of x).find? (fun t=>g.soonest [t] f==some m) with
          | none=>[x]
          | some t=>x::g.way f m t)=_
        rw [hfind]
        show x::g.way f m x'=_
        rw [hw]
theorem Bfs.never (B:Bfs g l fd.length fd) (h:∀ t∈fd,f t=false):Never g (fun _=>true) f l:=fun i t ht=>h t (B.has ht)
theorem Bfs.short (w:Wf g) (hsr:∀ s,(g.of s).Pairwise (·<·)) (B:Bfs g l fd.length fd) {j t:Nat} (hj:fd[j]?=some t) (ht:f t=true) (hb:∀ i x:Nat,i<j->fd[i]?=some x->f x=false) :
    ∃ k c,Chain g l fd c t/\c.length=k+1/\Least g (fun _=>true) f l k/\∃ s,l.find? (fun s=>g.soonest [s] f==some k)=some s/\g.way f k s=c:=by
  obtain ⟨k,hk⟩:=B.fst hj
  obtain ⟨c,hc,hlen⟩:=B.chain hj hk
  have first:∀ {y i:Nat},fd[i]?=some y->f y=true->j<=i:=fun {y i} h1 h2=>Nat.le_of_not_lt fun z=>by
    have:=hb i y z h1
    rw [h2] at this
    cases this
  have hL:Least g (fun _=>true) f l k:=by
    refine⟨⟨t,hk.1,ht⟩,fun i hi u hu=>?_⟩
    cases e:f u with
    | false=>rfl
    | true=>
      obtain ⟨iu,hiu⟩:=mem_at (B.has hu)
      obtain ⟨ku,h1,h2⟩:=first_of hu
      have:=B.mono hj hiu (first hiu e) hk h2
      omega
  obtain ⟨s,is,h1,h2,h3,h4,h5⟩:=B.greedy w hsr hL k 0 t j c [] (by omega) hc hj hk (dst_zero.mpr ht) (fun y i _ hd hi=>first hi (dst_zero.mp hd)) rfl
  refine⟨k,c,hc,hlen,hL,s,?_,by rw [h5,List.append_nil]⟩
  refine find_pre B h1 h2 ?_ fun y i hy hi hp=>?_
  · rw [beq_iff_eq,dst_soonest w (B.lt s (List.mem_of_getElem? h2))]
    exact h4
  · rw [beq_iff_eq,dst_soonest w (B.lt y (List.mem_of_getElem? hi))] at hp
    exact h3 y i hy hp hi
end
end
end Ways
end
section
namespace Ways
open Kri7
section
variable {g:Graph}{l:List Nat}
def offG (g:Graph) (bar:Nat->Bool):Graph:=⟨g.st,g.out.map fun o=>o.filter fun t=>!(bar t)⟩
theorem off_of (bar:Nat->Bool) (s:Nat):(offG g bar).of s=(g.of s).filter fun t=>!(bar t):=by
  unfold Graph.of offG
  simp only [List.getD_eq_getElem?_getD,List.getElem?_map]
  cases g.out[s]? with
  | none=>rfl
  | some o=>rfl
theorem off_wf (w:Wf g) (bar:Nat->Bool):Wf (offG g bar):=⟨fun s t h=>by
  rw [off_of] at h
  exact w.lt s t (List.mem_filter.mp h).1⟩
theorem off_sorted (h:∀ s,(g.of s).Pairwise (·<·)) (bar:Nat->Bool):∀ s,((offG g bar).of s).Pairwise (·<·):=fun s=>by
  rw [off_of]
  exact (h s).sublist List.filter_sublist
theorem off_way {bar:Nat->Bool}{l:List Nat}:∀ {k t:Nat},Wy (offG g bar) k l t↔Way g (fun t=>!(bar t)) k l t
  | 0,t=>Iff.rfl
  | k+1,t=>by
    constructor
    · rintro ⟨_,s,h1,h2⟩
      rw [off_of,List.mem_filter] at h2
      exact⟨h2.2,s,off_way.mp h1,h2.1⟩
    · rintro ⟨h,s,h1,h2⟩
      refine⟨rfl,s,off_way.mpr h1,?_⟩
      rw [off_of,List.mem_filter]
      exact⟨h2,h⟩
theorem off_least {bar f:Nat->Bool}{l:List Nat}{k:Nat}:Least (offG g bar) (fun _=>true) f l k↔Least g (fun t=>!(bar t)) f l k:=by
  unfold Least
  constructor
  · rintro ⟨⟨t,h1,h2⟩,h3⟩
    exact⟨⟨t,off_way.mp h1,h2⟩,fun i hi t ht=>h3 i hi t (off_way.mpr ht)⟩
  · rintro ⟨⟨t,h1,h2⟩,h3⟩
    exact⟨⟨t,off_way.mpr h1,h2⟩,fun i hi t ht=>h3 i hi t (off_way.mp ht)⟩
theorem off_never {bar f:Nat->Bool}{l:List Nat}:Never (offG g bar) (fun _=>true) f l↔Never g (fun t=>!(bar t)) f l:=
  ⟨fun h i t ht=>h i t (off_way.mpr ht),fun h i t ht=>h i t (off_way.mp ht)⟩
theorem without_some (w:Wf g) {bar f:Nat->Bool} (hn:l.Nodup) (hl:∀ t∈l,t<g.n) {k:Nat} (h:Least (offG g bar) (fun _=>true) f (l.filter fun t=>!(bar t)) k):g.without l bar f=some k:=by
  have sp:=without_spec (bar:=bar) (f:=f) w hn hl
  have h:=off_least.mp h
  cases e:g.without l bar f with
  | none=>rw [e] at sp;exact (h.never sp).elim
  | some j=>rw [e] at sp;rw [Least.uniq sp h]
theorem without_none (w:Wf g) {bar f:Nat->Bool} (hn:l.Nodup) (hl:∀ t∈l,t<g.n) (h:Never (offG g bar) (fun _=>true) f (l.filter fun t=>!(bar t))):g.without l bar f=none:=by
  have sp:=without_spec (bar:=bar) (f:=f) w hn hl
  have h:=off_never.mp h
  cases e:g.without l bar f with
  | none=>rfl
  | some j=>rw [e] at sp;exact (Least.never sp h).elim
theorem long_way {p:Nat->Bool}:∀ {k s:Nat},Long g p k s↔p s=true/\∃ t,Way g p k [s] t
  | 0,s=>⟨fun h=>⟨h,s,List.mem_singleton.mpr rfl⟩,fun h=>h.1⟩
  | k+1,s=>by
    constructor
    · rintro ⟨h,u,hu,hl⟩
      obtain ⟨h1,t,ht⟩:=long_way.mp hl
      exact⟨h,t,way_front.mpr ⟨s,List.mem_singleton.mpr rfl,u,hu,h1,ht⟩⟩
    · rintro ⟨h,t,ht⟩
      obtain ⟨s',hs,u,hu,h1,hw⟩:=way_front.mp ht
      rw [List.mem_singleton.mp hs] at hu
      exact⟨h,u,hu,long_way.mpr ⟨h1,t,hw⟩⟩
theorem long_for_ever (w:Wf g) {p:Nat->Bool}{s:Nat} (hs:s<g.n) (h:Long g p g.n s):∀ j,Long g p j s:=by
  classical
  let V:Nat->List Nat:=fun k=>g.all.filter fun t=>decide (Long g p k t)
  have hV:∀ k t,t∈V k↔t<g.n/\Long g p k t:=fun k t=>by
    show t∈g.all.filter _↔_
    rw [List.mem_filter,mem_all,decide_eq_true_iff]
  have hnd:∀ k,(V k).Nodup:=fun k=>List.nodup_range.sublist List.filter_sublist
  have key:∀ k,(∃ i,i<k/\∀ t,t<g.n->Long g p i t->Long g p (i+1) t) \/ (V k).length+k<=g.n:=fun k=>by
    induction k with
    | zero=>
      right
      exact nodup_le (hnd 0) fun x hx=>((hV 0 x).mp hx).1
    | succ k ih=>
      rcases ih with ⟨i,h1,h2⟩ | ih
      · exact .inl ⟨i,by omega,h2⟩
      · by_cases e:∀ t,t<g.n->Long g p k t->Long g p (k+1) t
        · exact .inl ⟨k,by omega,e⟩
        · right
          obtain ⟨t,ht⟩:=Classical.not_forall.mp e
          have ht1:t<g.n:=Classical.byContradiction fun z=>ht fun q=>absurd q z
          have ht2:Long g p k t:=Classical.byContradiction fun z=>ht fun _ q=>absurd q z
          have ht3:¬ Long g p (k+1) t:=fun z=>ht fun _ _=>z
          have hm:t∈V k:=(hV k t).mpr ⟨ht1,ht2⟩
          have hsub:∀ x∈V (k+1),x∈(V k).erase t:=fun x hx=>by
            obtain ⟨q1,q2⟩:=(hV _ x).mp hx
            refine (List.Nodup.mem_erase_iff (hnd k)).mpr ⟨fun z=>?_,(hV k x).mpr ⟨q1,q2.less⟩⟩
            subst z
            exact ht3 q2
          have:=nodup_sub_len (hnd (k+1)) hsub
          rw [List.length_erase_of_mem hm] at this
          have:0<(V k).length:=List.length_pos_of_mem hm
          omega
  rcases key g.n with ⟨i,h1,h2⟩ | h1
  · exact fun j=>long_stop w (k:=i) h2 j s hs (h.mono (by omega))
  · have:s∈V g.n:=(hV _ s).mpr ⟨hs,h⟩
    have:=List.length_pos_of_mem this
    omega
def Beyond (g:Graph) (l:List Nat) (m:Nat):Prop:=(∀ t,¬ Wy g m l t)/\∀ i,i<m->∃ t,Wy g i l t
section
variable {bar:Nat->Bool}
theorem avoid_yes (w:Wf g) (hl:∀ t∈l,t<g.n) (h:∃ t,Wy (offG g bar) g.n (l.filter fun t=>!(bar t)) t):(l.any fun s=>(g.goOn g.n (g.all.filter fun j=>!(bar j))).contains s)=true:=by
  obtain ⟨t,ht⟩:=h
  obtain ⟨s,hs,hw⟩:=way_of (off_way.mp ht)
  obtain ⟨h1,h2⟩:=List.mem_filter.mp hs
  rw [List.any_eq_true]
  refine⟨s,h1,List.contains_iff_mem.mpr ((mem_goOn w s).mpr ⟨hl s h1,?_⟩)⟩
  exact long_for_ever w (hl s h1) (long_way.mpr ⟨h2,t,hw⟩)
theorem avoid_no (w:Wf g) (hl:∀ t∈l,t<g.n) {m:Nat} (h:Beyond (offG g bar) (l.filter fun t=>!(bar t)) m):(l.any fun s=>(g.goOn g.n (g.all.filter fun j=>!(bar j))).contains s)=false:=by
  rw [Bool.eq_false_iff]
  intro z
  obtain ⟨s,hs,h1⟩:=List.any_eq_true.mp z
  have h2:=((mem_goOn w s).mp (List.contains_iff_mem.mp h1)).2 m
  obtain ⟨h3,t,ht⟩:=long_way.mp h2
  exact h.1 t (off_way.mpr (way_from (List.mem_filter.mpr ⟨hs,h3⟩) ht))
theorem sure_f {f:Nat->Bool}{k s:Nat} (h:f s=true):Sure g f k s:=Sure.mono (k:=0) h (Nat.zero_le k)
theorem sure_end {f:Nat->Bool}:∀ {k s j t:Nat},Sure g f k s->f s=false->Way g (fun t=>!(f t)) j [s] t->g.of t=[]->False
  | 0,s,j,t,h,hf,_,_=>by
    have h:f s=true:=h
    rw [h] at hf
    cases hf
  | k+1,s,j,t,h,hf,hw,he=>by
    rcases h with h | ⟨h1,h2⟩
    · rw [h] at hf;cases hf
    · cases j with
      | zero=>
        rw [List.mem_singleton.mp hw] at he
        exact h1 he
      | succ j=>
        obtain ⟨s',hs,u,hu,ho,hw⟩:=way_front.mp hw
        rw [List.mem_singleton.mp hs] at hu
        exact sure_end (h2 u hu) (by simpa using ho) hw he
theorem sure_way {f:Nat->Bool}:∀ {k s t:Nat},Sure g f k s->f s=false->Way g (fun t=>!(f t)) k [s] t->False
  | 0,s,t,h,hf,_=>by
    have h:f s=true:=h
    rw [h] at hf
    cases hf
  | k+1,s,t,h,hf,hw=>by
    rcases h with h | ⟨h1,h2⟩
    · rw [h] at hf;cases hf
    · obtain ⟨s',hs,u,hu,ho,hw⟩:=way_front.mp hw
      rw [List.mem_singleton.mp hs] at hu
      exact sure_way (h2 u hu) (by simpa using ho) hw
theorem sure_of {f:Nat->Bool}:∀ {k s:Nat},(∀ t,¬ Way g (fun t=>!(f t)) k [s] t)->(∀ j t,Way g (fun t=>!(f t)) j [s] t->g.of t≠[])->Sure g f k s
  | 0,s,h,_=>absurd (List.mem_singleton.mpr rfl) (h s)
  | k+1,s,h,he=>by
    refine .inr ⟨he 0 s (List.mem_singleton.mpr rfl),fun u hu=>?_⟩
    cases e:f u with
    | true=>exact sure_f e
    | false=>exact sure_of (fun t ht=>h t (way_front.mpr ⟨s,List.mem_singleton.mpr rfl,u,hu,by simp [e],ht⟩)) fun j t ht=>he (j+1) t (way_front.mpr ⟨s,List.mem_singleton.mpr rfl,u,hu,by simp [e],ht⟩)
theorem surely_none {f:Nat->Bool} (w:Wf g) (hl:∀ t∈l,t<g.n) (h:∀ j,¬ ∀ s∈l,Sure g f j s):g.surely l f=none:=by
  have sp:=surely_spec (f:=f) (l:=l) w hl (g.n+1) 0 _ _ rfl sure_start (by omega) (fun j hj=>absurd hj (Nat.not_lt_zero j))
  unfold Graph.surely
  cases e:g.surelyBy f l (g.n+1) 0 (g.all.filter f) with
  | none=>rfl
  | some m=>rw [e] at sp;exact absurd sp.1 (h m)
theorem surely_some {f:Nat->Bool} (w:Wf g) (hl:∀ t∈l,t<g.n) {m:Nat} (h1:∀ s∈l,Sure g f m s) (h2:∀ j,j<m->¬ ∀ s∈l,Sure g f j s):g.surely l f=some m:=by
  have sp:=surely_spec (f:=f) (l:=l) w hl (g.n+1) 0 _ _ rfl sure_start (by omega) (fun j hj=>absurd hj (Nat.not_lt_zero j))
  unfold Graph.surely
  cases e:g.surelyBy f l (g.n+1) 0 (g.all.filter f) with
  | none=>rw [e] at sp;exact absurd h1 (sp m)
  | some j=>
    rw [e] at sp
    have a:¬ j<m:=fun z=>h2 j z sp.1
    have b:¬ m<j:=fun z=>sp.2 m z h1
    rw [show j=m by omega]
theorem must_end {f:Nat->Bool} (w:Wf g) (hl:∀ t∈l,t<g.n) {j t:Nat} (h:Wy (offG g f) j (l.filter fun t=>!(f t)) t) (he:g.of t=[]):g.surely l f=none:=by
  refine surely_none w hl fun k z=>?_
  obtain ⟨s,hs,hw⟩:=way_of (off_way.mp h)
  obtain ⟨h1,h2⟩:=List.mem_filter.mp hs
  exact sure_end (z s h1) (by simpa using h2) hw he
theorem must_ever {f:Nat->Bool} (w:Wf g) (hl:∀ t∈l,t<g.n) (h:∃ t,Wy (offG g f) g.n (l.filter fun t=>!(f t)) t):g.surely l f=none:=by
  refine surely_none w hl fun k z=>?_
  obtain ⟨t,ht⟩:=h
  obtain ⟨s,hs,hw⟩:=way_of (off_way.mp ht)
  obtain ⟨h1,h2⟩:=List.mem_filter.mp hs
  have:=long_for_ever w (hl s h1) (long_way.mpr ⟨h2,t,hw⟩) k
  obtain ⟨_,u,hu⟩:=long_way.mp this
  exact sure_way (z s h1) (by simpa using h2) hu
theorem must_some {f:Nat->Bool} (w:Wf g) (hl:∀ t∈l,t<g.n) {m:Nat} (hb:Beyond (offG g f) (l.filter fun t=>!(f t)) m) (he:∀ j t,Wy (offG g f) j (l.filter fun t=>!(f t)) t->g.of t≠[]):g.surely l f=some m:=by
  refine surely_some w hl (fun s hs=>?_) fun j hj z=>?_
  · cases e:f s with
    | true=>exact sure_f e
    | false=>
      have hs':s∈l.filter fun t=>!(f t):=List.mem_filter.mpr ⟨hs,by simp [e]⟩
      exact sure_of (fun t ht=>hb.1 t (off_way.mpr (way_from hs' ht))) fun j t ht=>he j t (off_way.mpr (way_from hs' ht))
  · obtain ⟨t,ht⟩:=hb.2 j hj
    obtain ⟨s,hs,hw⟩:=way_of (off_way.mp ht)
    obtain ⟨h1,h2⟩:=List.mem_filter.mp hs
    exact sure_way (z s h1) (by simpa using h2) hw
end
theorem same_len {a b:List Nat} (ha:a.Nodup) (hb:b.Nodup) (h:∀ x,x∈a↔x∈b):a.length=b.length:=
  Nat.le_antisymm (nodup_sub_len ha fun x hx=>(h x).mp hx) (nodup_sub_len hb fun x hx=>(h x).mpr hx)
def IsAfter (g:Graph) (l:List Nat) (k:Nat) (m:List Nat):Prop:=m.Nodup/\∀ t,t∈m↔Wy g k l t
theorem IsAfter.len (w:Wf g) (hn:l.Nodup) {k:Nat}{m:List Nat} (h:IsAfter g l k m):m.length=(g.after k l).length:=
  same_len h.1 (after_nodup hn k) fun x=>(h.2 x).trans (mem_after w).symm
theorem IsAfter.start (hn:l.Nodup):IsAfter g l 0 l:=⟨hn,fun t=>Iff.rfl⟩
theorem IsAfter.next {k:Nat}{m m':List Nat} (h:IsAfter g l k m) (hn:m'.Nodup) (hm:∀ t,t∈m'↔∃ s∈m,t∈g.of s):IsAfter g l (k+1) m':=by
  refine⟨hn,fun t=>?_⟩
  rw [hm]
  constructor
  · rintro ⟨s,h1,h2⟩
    exact⟨rfl,s,(h.2 s).mp h1,h2⟩
  · rintro ⟨_,s,h1,h2⟩
    exact⟨s,(h.2 s).mpr h1,h2⟩
theorem places_same {i n:Nat}{a b:List Nat} (h:∀ x,x∈a↔x∈b):g.places i n a=g.places i n b:=by
  unfold Graph.places
  refine List.filter_congr fun p _=>?_
  rw [Bool.eq_iff_iff,List.any_eq_true,List.any_eq_true]
  exact⟨fun ⟨x,h1,h2⟩=>⟨x,(h x).mp h1,h2⟩,fun ⟨x,h1,h2⟩=>⟨x,(h x).mpr h1,h2⟩⟩
theorem round_least {a b:List Nat} (h:∀ x,x∈a↔x∈b):least (a.filterMap fun s=>g.round s)=least (b.filterMap fun s=>g.round s):=by
  have hm:∀ x,x∈a.filterMap (fun s=>g.round s)↔x∈b.filterMap (fun s=>g.round s):=fun x=>by
    rw [List.mem_filterMap,List.mem_filterMap]
    exact⟨fun ⟨s,h1,h2⟩=>⟨s,(h s).mp h1,h2⟩,fun ⟨s,h1,h2⟩=>⟨s,(h s).mpr h1,h2⟩⟩
  cases e:a.filterMap (fun s=>g.round s) with
  | nil=>
    have:b.filterMap (fun s=>g.round s)=[]:=List.eq_nil_iff_forall_not_mem.mpr fun x hx=>by
      have:=(hm x).mpr hx
      rw [e] at this
      cases this
    rw [this]
  | cons y r=>
    obtain ⟨m,e1,e2,e3,e4⟩:=least_go r y
    have hmm:m∈a.filterMap (fun s=>g.round s):=by
      rw [e]
      rcases e2 with z | z
      · rw [z];exact List.mem_cons_self
      · exact List.mem_cons_of_mem _ z
    have hle:∀ x∈a.filterMap (fun s=>g.round s),m<=x:=fun x hx=>by
      rw [e] at hx
      rcases List.mem_cons.mp hx with z | z
      · rw [z];exact e3
      · exact e4 x z
    have r1:=least_some hmm hle
    rw [<- e,r1]
    exact (least_some ((hm m).mp hmm) fun x hx=>hle x ((hm x).mpr hx)).symm
end
end Ways
end
section
namespace Ways
open Kri7
section
variable {g:Graph}{l:List Nat}{f f' ok ok':Nat->Bool}
theorem way_congr (w:Wf g) (h:∀ j,j<g.n->ok j=ok' j):∀ {k t:Nat},Way g ok k l t->Way g ok' k l t
  | 0,t,z=>z
  | k+1,t,⟨z1,s,z2,z3⟩=>⟨by rw [<- h t (w.lt s t z3)];exact z1,s,way_congr w h z2,z3⟩
theorem least_congr1 (w:Wf g) (hl:∀ t∈l,t<g.n) (h:∀ j,j<g.n->f j=f' j) (ho:∀ j,j<g.n->ok j=ok' j) {k:Nat} (z:Least g ok f l k):Least g ok' f' l k:=by
  obtain ⟨⟨t,h1,h2⟩,h3⟩:=z
  refine⟨⟨t,way_congr w ho h1,by rw [<- h t (way_lt w hl h1)];exact h2⟩,fun i hi u hu=>?_⟩
  rw [<- h u (way_lt w hl hu)]
  exact h3 i hi u (way_congr w (fun j hj=>(ho j hj).symm) hu)
theorem never_congr1 (w:Wf g) (hl:∀ t∈l,t<g.n) (h:∀ j,j<g.n->f j=f' j) (ho:∀ j,j<g.n->ok j=ok' j) (z:Never g ok f l):Never g ok' f' l:=fun i u hu=>by
  rw [<- h u (way_lt w hl hu)]
  exact z i u (way_congr w (fun j hj=>(ho j hj).symm) hu)
theorem soonest_congr (w:Wf g) (hn:l.Nodup) (hl:∀ t∈l,t<g.n) (h:∀ j,j<g.n->f j=f' j):g.soonest l f=g.soonest l f':=by
  have sp:=soonest_spec (f:=f) w hn hl
  cases e:g.soonest l f with
  | none=>
    rw [e] at sp
    exact (soonest_none w hn hl (never_congr1 w hl h (fun _ _=>rfl) sp)).symm
  | some k=>
    rw [e] at sp
    exact (soonest_some w hn hl (least_congr1 w hl h (fun _ _=>rfl) sp)).symm
theorem one_congr (w:Wf g) (h:∀ j,j<g.n->f j=f' j) {s:Nat} (hs:s<g.n):g.soonest [s] f=g.soonest [s] f':=
  soonest_congr w (by simp) (fun t ht=>by rw [List.mem_singleton.mp ht];exact hs) h
theorem find_congr {p q:Nat->Bool}:∀ {l:List Nat},(∀ x∈l,p x=q x)->l.find? p=l.find? q
  | [],_=>rfl
  | a::r,h=>by
    rw [List.find?_cons,List.find?_cons,h a List.mem_cons_self,find_congr fun x hx=>h x (List.mem_cons_of_mem _ hx)]
theorem gway_congr (w:Wf g) (h:∀ j,j<g.n->f j=f' j):∀ (k s:Nat),g.way f k s=g.way f' k s
  | 0,s=>rfl
  | k+1,s=>by
    have e:(g.of s).find? (fun t=>g.soonest [t] f==some k)=(g.of s).find? (fun t=>g.soonest [t] f'==some k):=find_congr fun t ht=>by rw [one_congr w h (w.lt s t ht)]
    show (match (g.of s).find? (fun t=>g.soonest [t] f==some k) with
      | none=>[s]
      | some t=>s::g.way f k t)=(match (g.of s).find? (fun t=>g.soonest [t] f'==some k) with
      | none=>[s]
      | some t=>s::g.way f' k t)
    rw [e]
    cases (g.of s).find? (fun t=>g.soonest [t] f'==some k) with
    | none=>rfl
    | some t=>exact congrArg (s::·) (gway_congr w h k t)
theorem without_congr (w:Wf g) (hn:l.Nodup) (hl:∀ t∈l,t<g.n) (h:∀ j,j<g.n->f j=f' j) {bar bar':Nat->Bool} (hb:∀ j,j<g.n->bar j=bar' j):g.without l bar f=g.without l bar' f':=by
  have el:l.filter (fun t=>!(bar t))=l.filter fun t=>!(bar' t):=List.filter_congr fun t ht=>by rw [hb t (hl t ht)]
  have sp:=without_spec (bar:=bar) (f:=f) w hn hl
  have hl':∀ t∈l.filter (fun t=>!(bar' t)),t<g.n:=fun t ht=>hl t (List.mem_filter.mp ht).1
  have ho:∀ j,j<g.n->(!(bar j))=!(bar' j):=fun j hj=>by rw [hb j hj]
  rw [el] at sp
  have sp':=without_spec (bar:=bar') (f:=f') w hn hl
  cases e:g.without l bar f with
  | none=>
    rw [e] at sp
    have z:=never_congr1 w hl' h ho sp
    cases e':g.without l bar' f' with
    | none=>rfl
    | some k=>rw [e'] at sp';exact (Least.never sp' z).elim
  | some k=>
    rw [e] at sp
    have z:=least_congr1 w hl' h ho sp
    cases e':g.without l bar' f' with
    | none=>rw [e'] at sp';exact (Least.never z sp').elim
    | some k'=>rw [e'] at sp';rw [Least.uniq z sp']
theorem sure_congr (w:Wf g) (h:∀ j,j<g.n->f j=f' j):∀ {k s:Nat},s<g.n->Sure g f k s->Sure g f' k s
  | 0,s,hs,z=>by
    have z:f s=true:=z
    rw [h s hs] at z
    exact z
  | k+1,s,hs,z=>by
    rcases z with z | ⟨z1,z2⟩
    · exact .inl (by rw [<- h s hs];exact z)
    · exact .inr ⟨z1,fun t ht=>sure_congr w h (w.lt s t ht) (z2 t ht)⟩
theorem surely_congr (w:Wf g) (hl:∀ t∈l,t<g.n) (h:∀ j,j<g.n->f j=f' j):g.surely l f=g.surely l f':=by
  have sp:=surely_spec (f:=f) (l:=l) w hl (g.n+1) 0 _ _ rfl sure_start (by omega) (fun j hj=>absurd hj (Nat.not_lt_zero j))
  have h':∀ j,j<g.n->f' j=f j:=fun j hj=>(h j hj).symm
  cases e:g.surely l f with
  | none=>
    have e':g.surelyBy f l (g.n+1) 0 (g.all.filter f)=none:=e
    rw [e'] at sp
    exact (surely_none w hl fun j z=>sp j fun s hs=>sure_congr w h' (hl s hs) (z s hs)).symm
  | some m=>
    have e':g.surelyBy f l (g.n+1) 0 (g.all.filter f)=some m:=e
    rw [e'] at sp
    exact (surely_some w hl (fun s hs=>sure_congr w h (hl s hs) (sp.1 s hs)) fun j hj z=>sp.2 j hj fun s hs=>sure_congr w h' (hl s hs) (z s hs)).symm
theorem pick_has (f:Nat->Bool):∀ j,j<g.n->((List.range g.st.length).filter f).contains j=f j:=fun j hj=>by
  rw [Bool.eq_iff_iff,List.contains_iff_mem,List.mem_filter,List.mem_range]
  exact⟨fun z=>z.2,fun z=>⟨hj,z⟩⟩
end
end Ways
end
section
namespace Sp
section
variable (ms:List Nat) (rs:List Kri6.Rule) (now:List Kri6.State)
theorem gr_wf:Ways.Wf (gr ms rs now):=⟨fun s t h=>by
  rw [gr_n]
  by_cases hs:s<(fitOf ms rs).length
  · rw [gr_of ms rs now hs] at h
    exact List.mem_range.mp (List.mem_filter.mp h).1
  · rw [gr_out ms rs now (by omega)] at h
    cases h⟩
end
end Sp
end
section
namespace Sp
open Ways
section
variable (ms:List Nat) (rs:List Kri6.Rule)
variable {ms rs}
abbrev stt (ms:List Nat) (rs:List Kri6.Rule) (j:Nat):Kri6.State:=(fitOf ms rs).getD j []
abbrev ixs (ms:List Nat) (rs:List Kri6.Rule) (L:List Kri6.State):List Nat:=(List.range (fitOf ms rs).length).filter fun i=>L.contains (stt ms rs i)
theorem mem_ixs {L:List Kri6.State}{i:Nat}:i∈ixs ms rs L↔i<(fitOf ms rs).length/\stt ms rs i∈L:=by
  rw [List.mem_filter,List.mem_range,List.contains_iff_mem]
theorem ixs_nodup (L:List Kri6.State):(ixs ms rs L).Nodup:=List.nodup_range.sublist List.filter_sublist
variable {now:List Kri6.State}
theorem ixs_lt (L:List Kri6.State):∀ t∈ixs ms rs L,t<(gr ms rs now).n:=fun t h=>by
  rw [gr_n]
  exact (mem_ixs.mp h).1
theorem nows_ixs:Kri7.House.nows ⟨⟨ms,rs⟩,now⟩ (gr ms rs now)=ixs ms rs now:=gr_nows ms rs now
end
section
variable (ms:List Nat) (rs:List Kri6.Rule) (now:List Kri6.State)
abbrev hs:Kri7.House:=⟨⟨ms,rs⟩,now⟩
abbrev isP (i p:Nat) (s:Kri6.State):Bool:=(Kri6.at_ s i).1==p
abbrev big:Bool:=decide (120<(fitOf ms rs).length)
theorem big_eq:Kri7.House.big (hs ms rs now)=big ms rs:=by
  unfold Kri7.House.big
  rw [states_eq]
  rfl
theorem isAt_eq (i p:Nat):(gr ms rs now).isAt i p=fun j=>isP i p (stt ms rs j):=funext fun j=>by
  unfold Kri7.Graph.isAt
  rw [gr_nth]
def refuse2 (i:Nat) (x:Kri7.Ans):Kri7.Ans:=if decide (ms.length<=i)=true then Kri7.say (-2) else x
def refuse28 (x:Kri7.Ans):Kri7.Ans:=if big ms rs=true then Kri7.say (-28) else x
def refuse22 (c:Bool) (x:Kri7.Ans):Kri7.Ans:=if c=true then Kri7.say (-22) else x
def noPl (i p:Nat):Bool:=decide (2*ms.getD i 0<p)
theorem act_places (i:Nat):Kri7.act (some (hs ms rs now)) (.places i)=(some (hs ms rs now),refuse2 ms i (Kri7.list ((List.range (2*ms.getD i 0+1)).filter fun p=>now.any fun s=>isP i p s))):=rfl
theorem act_ahead (k:Nat):Kri7.act (some (hs ms rs now)) (.ahead k)=(some (hs ms rs now),refuse28 ms rs (refuse22 (decide (40<k)) (Kri7.say ((gr ms rs now).after k (ixs ms rs now)).length))):=by
  unfold refuse28 refuse22
  rw [<- big_eq ms rs now,<- nows_ixs,<- ite_decide]
  rfl
theorem act_later (i k:Nat):Kri7.act (some (hs ms rs now)) (.later i k)=(some (hs ms rs now),refuse2 ms i (refuse28 ms rs (refuse22 (decide (40<k)) (Kri7.list ((gr ms rs now).places i (2*ms.getD i 0+1) ((gr ms rs now).after k (ixs ms rs now))))))):=by
  unfold refuse2 refuse28 refuse22
  rw [<- big_eq ms rs now,<- nows_ixs,<- ite_decide (40<k)]
  rfl
theorem act_ever (i:Nat):Kri7.act (some (hs ms rs now)) (.ever i)=(some (hs ms rs now),refuse2 ms i (refuse28 ms rs (Kri7.list ((gr ms rs now).places i (2*ms.getD i 0+1) ((gr ms rs now).ever (ixs ms rs now)))))):=by
  unfold refuse2 refuse28
  rw [<- big_eq ms rs now,<- nows_ixs]
  rfl
theorem act_reach:Kri7.act (some (hs ms rs now)) .reach=(some (hs ms rs now),refuse28 ms rs (Kri7.say ((gr ms rs now).ever (ixs ms rs now)).length)):=by
  unfold refuse28
  rw [<- big_eq ms rs now,<- nows_ixs]
  rfl
theorem act_may (i p:Nat):Kri7.act (some (hs ms rs now)) (.may i p)=(some (hs ms rs now),refuse2 ms i (refuse28 ms rs (refuse22 (noPl ms i p) (Kri7.opt ((gr ms rs now).soonest (ixs ms rs now) fun j=>isP i p (stt ms rs j)))))):=by
  unfold refuse2 refuse28 refuse22 noPl
  rw [<- big_eq ms rs now,<- nows_ixs,<- isAt_eq ms rs now]
  rfl
theorem act_must (i p:Nat):Kri7.act (some (hs ms rs now)) (.must i p)=(some (hs ms rs now),refuse2 ms i (refuse28 ms rs (refuse22 (noPl ms i p) (Kri7.opt ((gr ms rs now).surely (ixs ms rs now) fun j=>isP i p (stt ms rs j)))))):=by
  unfold refuse2 refuse28 refuse22 noPl
  rw [<- big_eq ms rs now,<- nows_ixs,<- isAt_eq ms rs now]
  rfl
theorem act_avoid (i p:Nat):Kri7.act (some (hs ms rs now)) (.avoid i p)=(some (hs ms rs now),refuse2 ms i (refuse28 ms rs (refuse22 (noPl ms i p)
    (Kri7.say (if ((ixs ms rs now).any fun s=>((gr ms rs now).goOn (gr ms rs now).n ((gr ms rs now).all.filter fun j=>!(isP i p (stt ms rs j)))).contains s)=true then 1 else 0))))):=by
  unfold refuse2 refuse28 refuse22 noPl
  have e:(fun j=>!(isP i p (stt ms rs j)))=fun j=>!((gr ms rs now).isAt i p j):=by rw [isAt_eq]
  rw [<- big_eq ms rs now,<- nows_ixs,e]
  rfl
theorem act_both (i p u q:Nat):Kri7.act (some (hs ms rs now)) (.both i p u q)=(some (hs ms rs now),if (decide (ms.length<=i)||decide (ms.length<=u))=true then Kri7.say (-2) else refuse28 ms rs (refuse22 (noPl ms i p||noPl ms u q)
    (Kri7.opt ((gr ms rs now).soonest (ixs ms rs now) fun j=>isP i p (stt ms rs j)&&isP u q (stt ms rs j))))):=by
  unfold refuse28 refuse22 noPl
  have e:(fun j=>isP i p (stt ms rs j)&&isP u q (stt ms rs j))=fun j=>(gr ms rs now).isAt i p j&&(gr ms rs now).isAt u q j:=by rw [isAt_eq,isAt_eq]
  rw [<- big_eq ms rs now,<- nows_ixs,e]
  rfl
theorem act_only (i p u q:Nat):Kri7.act (some (hs ms rs now)) (.only i p u q)=(some (hs ms rs now),if (decide (ms.length<=i)||decide (ms.length<=u))=true then Kri7.say (-2) else refuse28 ms rs (refuse22 (noPl ms i p||noPl ms u q)
    (Kri7.opt ((gr ms rs now).without (ixs ms rs now) (fun j=>isP u q (stt ms rs j)) fun j=>isP i p (stt ms rs j))))):=by
  unfold refuse28 refuse22 noPl
  rw [<- big_eq ms rs now,<- nows_ixs,<- isAt_eq ms rs now,<- isAt_eq ms rs now]
  rfl
theorem act_rest:Kri7.act (some (hs ms rs now)) .rest=(some (hs ms rs now),refuse28 ms rs (Kri7.opt ((gr ms rs now).soonest (ixs ms rs now) fun j=>Kri6.steady (stt ms rs j)))):=by
  unfold refuse28
  have e:(fun j=>Kri6.steady (stt ms rs j))=fun j=>Kri6.steady ((gr ms rs now).nth j):=funext fun j=>by rw [gr_nth]
  rw [<- big_eq ms rs now,<- nows_ixs,e]
  rfl
theorem act_stuck:Kri7.act (some (hs ms rs now)) .stuck=(some (hs ms rs now),refuse28 ms rs (Kri7.opt ((gr ms rs now).soonest (ixs ms rs now) fun j=>((gr ms rs now).of j).isEmpty))):=by
  unfold refuse28
  rw [<- big_eq ms rs now,<- nows_ixs]
  rfl
theorem act_round:Kri7.act (some (hs ms rs now)) .round=(some (hs ms rs now),refuse28 ms rs (Kri7.opt (Kri7.least (((gr ms rs now).ever (ixs ms rs now)).filterMap fun s=>(gr ms rs now).round s)))):=by
  unfold refuse28
  rw [<- big_eq ms rs now,<- nows_ixs]
  rfl
theorem act_path (i p:Nat):Kri7.act (some (hs ms rs now)) (.path i p)=(some (hs ms rs now),refuse2 ms i (refuse28 ms rs (refuse22 (noPl ms i p)
    (match (gr ms rs now).soonest (ixs ms rs now) (fun j=>isP i p (stt ms rs j)) with
      | none=>Kri7.say (-33)
      | some k=>match (ixs ms rs now).find? fun s=>(gr ms rs now).soonest [s] (fun j=>isP i p (stt ms rs j))==some k with
        | none=>Kri7.say (-33)
        | some s=>{ num:=k,nums:=((gr ms rs now).way (fun j=>isP i p (stt ms rs j)) k s).flatMap fun t=>Kri6.flat ((gr ms rs now).nth t) })))):=by
  unfold refuse2 refuse28 refuse22 noPl
  rw [<- big_eq ms rs now,<- nows_ixs,<- isAt_eq ms rs now]
  rfl
theorem act_state:Kri7.act (some (hs ms rs now)) .state=(some (hs ms rs now),{ num:=ms.length,nums:=Kri7.ints (rs.length::(fitOf ms rs).length::now.length::ms) }):=by
  rw [<- states_eq]
  rfl
end
end Sp
end
section
namespace Sp
open PySem PySem.Spec PyProof.Rows L2
def shN (ns:List Nat):HO:=.lst (ns.map fun (n:Nat)=>V.int n)
theorem shN_no:NoRef shN:=fun x as h e=>by
  unfold shN at e
  cases as with
  | nil=>exact h rfl
  | cons b r=>
    have e:=HO.lst.inj e
    cases x with
    | nil=>simp at e
    | cons z l=>simp at e
theorem LN.app {H:Hp}{a:Addr}{ns:List Nat}{n:Nat}:LN (L2.upd H a (.lst ((ns.map fun (n:Nat)=>V.int n)++[V.int (n:Int)]))) a (ns++[n]):=by
  rw [LN,upd_same,List.map_append]
  rfl
theorem nats_at {ns:List Nat}{j:Nat}{x:V} (h:(ns.map fun (n:Nat)=>V.int n)[j]?=some x):∃ m,ns[j]?=some m/\x=.int (m:Nat):=map_at h
theorem hin {k:Nat}{A:Around} (r:Room k A):A.in1.units+64<cLine:=by
  have:=r.un
  show A.units+1+64<_
  omega
theorem inV_nats (z:Nat) (l:List Nat):inV (.int (z:Int)) (l.map fun (n:Nat)=>V.int n)=l.contains z:=by
  have e:(l.map fun (n:Nat)=>V.int n)=(l.map fun (n:Nat)=>(n:Int)).map V.int:=by rw [List.map_map];rfl
  rw [e,inV_ints,Bool.eq_iff_iff,List.contains_iff_mem,List.contains_iff_mem,List.mem_map]
  exact⟨fun ⟨n,h1,h2⟩=>by rw [show z=n by omega];exact h1,fun h=>⟨z,h,rfl⟩⟩
theorem flat_nats (l:List Nat):(l.map fun (n:Nat)=>V.int n).all flatV=true:=by
  rw [List.all_eq_true]
  intro x hx
  obtain ⟨n,_,rfl⟩:=List.mem_map.mp hx
  rfl
section
variable {K:PySem.W.Frag}
theorem filter_rng {H1:Hp}{D:Addr}{n:Nat} (hD:H1 D=none) (hlen:n<=1000000) {σ:L2.St}{i:Nat} (hi:i<σ.length) {tt:TT}{Qd:Hp->Prop} (f:Nat->Bool)
    (htt:∀ (j:Nat) (H:Hp) (R:Bool->Hp->Prop),Same H1 H->j<n->(∀ H',Same H H'->R (f j) H')->tt ((wipe σ [i]).set i (some (.int (0+(j:Int))))) H R) (hd:∀ H,Same H1 H->LN H D ((List.range n).filter f)->Qd H) :
    ∃ W:Nat->Nat->Hp->Prop,(∃ m,W 0 m (L2.upd H1 D (.lst [])))/\∀ j m H,W j m H ->
      ((Itr 0 n).stop j H/\Qd H) \/ ((Itr 0 n).go j H/\∃ Nx:Hp->Prop,(∀ H',Nx H'->∃ m',m'<m/\W (j+1) m' H')/\∀ x H',(Itr 0 n).yld j H x H'->gName i x (wipe σ [i]) H' fun σ2 H2=>wipe σ2 [i]=wipe σ [i]/\tt σ2 H2 fun b H3=>
        if b=true then tVar i σ2 H3 fun y H4=>∃ acc,H4 D=some (.lst acc)/\acc.length<sizeLine/\Nx (L2.upd H4 D (.lst (acc++[y]))) else Nx H3):=by
  refine lc_range (lo:=0) (n:=n) (fun j H=>Same H1 H/\LN H D ((List.range j).filter f)) ⟨Same.new hD,upd_same⟩ ?_ fun H h=>hd H h.1 h.2
  rintro j H hj ⟨s1,l1⟩
  refine⟨wipe_back,htt j H _ s1 hj fun H3 s3=>ite_b (fun c=>?_) (fun c=>?_)⟩
  · refine⟨_,wipe_got hi,_,s3 _ _ l1,line_lt ?_,Same.put (s1.trans s3) hD,?_⟩
    · rw [List.length_map]
      have q1:((List.range j).filter f).length<=(List.range j).length:=List.length_filter_le _ _
      rw [List.length_range] at q1
      omega
    · rw [List.range_succ,List.filter_append]
      have e:[j].filter f=[j]:=by simp [c]
      rw [e,Int.zero_add]
      exact LN.app
  · refine⟨s1.trans s3,?_⟩
    rw [List.range_succ,List.filter_append]
    have e:[j].filter f=[]:=by simp [c]
    rw [e,List.append_nil]
    exact s3 _ _ l1
theorem filter_nats {H1:Hp}{D a:Addr}{ns:List Nat} (hl:LN H1 a ns) (hD:H1 D=none) (hlen:ns.length<=1000000) {σ:L2.St}{i:Nat} (hi:i<σ.length) {tt:TT}{Qd:Hp->Prop} (f:Nat->Bool)
    (htt:∀ (m:Nat) (H:Hp) (R:Bool->Hp->Prop),Same H1 H->m∈ns->(∀ H',Same H H'->R (f m) H')->tt ((wipe σ [i]).set i (some (.int (m:Int)))) H R) (hd:∀ H,Same H1 H->LN H D (ns.filter f)->Qd H) :
    (∃ ys,SqL K H1 a ys)/\∃ W:Nat->Nat->Hp->Prop,(∃ m,W 0 m (L2.upd H1 D (.lst [])))/\∀ j m H,W j m H ->
      ((Itl K a).stop j H/\Qd H) \/ ((Itl K a).go j H/\∃ Nx:Hp->Prop,(∀ H',Nx H'->∃ m',m'<m/\W (j+1) m' H')/\∀ x H',(Itl K a).yld j H x H'->gName i x (wipe σ [i]) H' fun σ2 H2=>wipe σ2 [i]=wipe σ [i]/\tt σ2 H2 fun b H3=>
        if b=true then tVar i σ2 H3 fun y H4=>∃ acc,H4 D=some (.lst acc)/\acc.length<sizeLine/\Nx (L2.upd H4 D (.lst (acc++[y]))) else Nx H3):=by
  refine⟨⟨_,SqL.of hl⟩,lc_list (K:=K) (a:=a) (xs:=ns.map fun (n:Nat)=>V.int n) (fun j H=>Same H1 H/\LN H D ((ns.take j).filter f)) ⟨Same.new hD,upd_same⟩ (fun j H _ h=>SqL.of (h.1 _ _ hl)) ?_ ?_⟩
  · rintro j x H hx ⟨s1,l1⟩
    obtain ⟨m,hm,rfl⟩:=nats_at hx
    refine⟨wipe_back,htt m H _ s1 (List.mem_of_getElem? hm) fun H3 s3=>ite_b (fun c=>?_) (fun c=>?_)⟩
    · refine⟨_,wipe_got hi,_,s3 _ _ l1,line_lt ?_,Same.put (s1.trans s3) hD,?_⟩
      · rw [List.length_map]
        have q1:((ns.take j).filter f).length<=(ns.take j).length:=List.length_filter_le _ _
        rw [List.length_take] at q1
        omega
      · rw [take_snoc hm,List.filter_append]
        have e:[m].filter f=[m]:=by simp [c]
        rw [e]
        exact LN.app
    · refine⟨s1.trans s3,?_⟩
      rw [take_snoc hm,List.filter_append]
      have e:[m].filter f=[]:=by simp [c]
      rw [e,List.append_nil]
      exact s3 _ _ l1
  · rintro H ⟨s1,l1⟩
    rw [List.length_map,List.take_length] at l1
    exact hd H s1 l1
end
def wf3 (a b c:V):List (Str × V):=[("states",a),("followers",b),("starts",c)]
section
variable {a b c v:V}
theorem wf_s:(wf3 a b c).lookup ("states":Str)=some a:=rfl
theorem wf_f:(wf3 a b c).lookup ("followers":Str)=some b:=rfl
theorem wf_t:(wf3 a b c).lookup ("starts":Str)=some c:=rfl
theorem wf_grow1:putF "states" a []=([("states",a)]:List (Str × V)):=rfl
theorem wf_grow2:putF "followers" b ([("states",a)]:List (Str × V))=([("states",a),("followers",b)]:List (Str × V)):=by
  simp only [putF]
  rw [if_neg (by decide +kernel)]
theorem wf_grow3:putF "starts" c ([("states",a),("followers",b)]:List (Str × V))=wf3 a b c:=by
  simp only [putF]
  rw [if_neg (by decide +kernel),if_neg (by decide +kernel)]
  rfl
end
structure WC (K:PySem.W.Frag) (C:Addr):Prop where
  cl:Cls K C
  nS:NoAttr K C "states"
  nF:NoAttr K C "followers"
  nT:NoAttr K C "starts"
structure WO (C:Addr) (H:Hp) (p:Addr) (g:Kri7.Graph) (l:List Nat):Prop where
  ex:∃ dx aS aF aL:Addr,H p=some (.ins C dx (wf3 (.ref aS) (.ref aF) (.ref aL)))/\LR shS H aS g.st/\LR shN H aF g.out/\LN H aL l
theorem WO.same {C:Addr}{H H':Hp}{p:Addr}{g:Kri7.Graph}{l:List Nat} (h:WO C H p g l) (e:Same H H'):WO C H' p g l:=by
  obtain ⟨dx,aS,aF,aL,h1,h2,h3,h4⟩:=h.ex
  exact⟨dx,aS,aF,aL,e _ _ h1,h2.same e,h3.same e,e _ _ h4⟩
structure GOk (ms:List Nat) (g:Kri7.Graph) (l:List Nat):Prop where
  mo:MOk ms
  st:∀ s∈g.st,IsSt ms s
  le:g.st.length<=120
  ol:g.out.length=g.st.length
  wf:Ways.Wf g
  sr:∀ s,(g.of s).Pairwise (·<·)
  nd:l.Nodup
  lt:∀ t∈l,t<g.n
theorem of_at {g:Kri7.Graph}{i:Nat} (h:i<g.out.length):g.out[i]?=some (g.of i):=by
  unfold Kri7.Graph.of
  rw [List.getD_eq_getElem?_getD,List.getElem?_eq_getElem h]
  rfl
theorem GOk.of_len {ms:List Nat}{g:Kri7.Graph}{l:List Nat} (G:GOk ms g l) (i:Nat):(g.of i).length<=120:=
  Nat.le_trans (Ways.nodup_le ((G.sr i).imp fun h=>Nat.ne_of_lt h) fun x hx=>G.wf.lt i x hx) G.le
theorem GOk.l_len {ms:List Nat}{g:Kri7.Graph}{l:List Nat} (G:GOk ms g l):l.length<=120:=Nat.le_trans (Ways.nodup_le G.nd G.lt) G.le
theorem GOk.begin {ms:List Nat}{g:Kri7.Graph}{l l':List Nat} (G:GOk ms g l) (h1:l'.Nodup) (h2:∀ t∈l',t<g.n):GOk ms g l':=⟨G.mo,G.st,G.le,G.ol,G.wf,G.sr,h1,h2⟩
theorem GOk.off {ms:List Nat}{g:Kri7.Graph}{l:List Nat} (G:GOk ms g l) (bar:Nat->Bool):GOk ms (Ways.offG g bar) (l.filter fun t=>!(bar t)):=
  ⟨G.mo,G.st,G.le,by show (g.out.map _).length=g.st.length;rw [List.length_map];exact G.ol,Ways.off_wf G.wf bar,Ways.off_sorted G.sr bar,G.nd.sublist List.filter_sublist,fun t h=>G.lt t (List.mem_filter.mp h).1⟩
section
variable {P:Program}{w:World}{K:PySem.W.Frag}{mg:Str->Option Value}{base:Heap}{C CW:Addr}
abbrev s_winit:Stmt:=inClass (top 36) 0
theorem sc_winit:FnScope ["self","states","followers","starts"] ["self","states","followers","starts"] (defScope s_winit):=⟨rfl,rfl,rfl,by decide +kernel,rfl,by decide +kernel,by decide +kernel⟩
def spWInit (C:Addr):L2.Sp:=fun vs H Q _=>∃ (p dx:Addr) (a b c:V),vs=[.ref p,a,b,c]/\H p=some (.ins C dx [])/\∀ H':Hp,Keep p H H'->H' p=some (.ins C dx (wf3 a b c))->Q .non H'
theorem ok_winit {f:Addr}{fd:FuncData} (U:WC K CW) (F:Fun K "__init__" "Ways.__init__" s_winit f fd):FnOk P w K mg base CX0 1 f fd ["self","states","followers","starts"] (spWInit CW):=by
  refine F.ok sc_winit (fun vs H Q E h=>?_) (fun cdv A outer s H vs Q E hr h=>?_)
  · obtain ⟨p,dx,a,b,c,rfl,_⟩:=h
    rfl
  · obtain ⟨p,dx,a,b,c,rfl,hp,k⟩:=h
    refine⟨_,pss_cons (ps_fld (pv 0) (pv 1) rfl) (pss_cons (ps_fld (pv 0) (pv 2) rfl) (pss_one (ps_fld (pv 0) (pv 3) rfl))),?_⟩
    refine⟨_,rfl,_,rfl,p,CW,dx,[],rfl,hp,U.cl,U.nS,(by show 0<1000;decide),?_⟩
    rw [wf_grow1]
    refine⟨_,rfl,_,rfl,p,CW,dx,_,rfl,upd_same,U.cl,U.nF,(by show 1<1000;decide),?_⟩
    rw [wf_grow2]
    refine⟨_,rfl,_,rfl,p,CW,dx,_,rfl,upd_same,U.cl,U.nT,(by show 2<1000;decide),?_⟩
    rw [wf_grow3]
    exact k _ (((Keep.upd (p:=p) (H:=H)).trans Keep.upd).trans Keep.upd) upd_same
structure MkW (P:Program) (w:World) (K:PySem.W.Frag) (mg:Str->Option Value) (base:Heap) (C:Addr):Prop where
  ex:∃ (f:Addr) (fd:FuncData),mg "Ways"=some (.ref C)/\Mk K C f/\Binds K fd ["self","states","followers","starts"] []/\FnOk P w K mg base CX0 1 f fd ["self","states","followers","starts"] (spWInit C)
theorem pe_Ways {X:Cx}{p pos:Pos}{e:Expr}{es:List Expr}{t:TA} (M:MkW X.prog X.w X.K X.mg X.base CW) (hr:Room 2 X.A) (hg:Gl X "Ways") (ha:PA X (e::es) t)
    (he:starEach (e::es) X.env=(false,eval e X.env)::starEach es X.env:=by rfl) (hpl:(backTo pos (starEach es X.env)).any (·.1)=false:=by rfl):PE X (.Call (.Name "Ways" p) (e::es) [] pos) (tMake CW (spWInit CW) [] E0 t):=by
  obtain ⟨f,fd,hm,M,hb,G⟩:=M.ex
  exact pe_make M G hr hg hm hb .nil pass0 ha (by decide) he hpl
end
theorem rise_eq:∀ {a b:List Nat},a.Pairwise (·<·)->b.Pairwise (·<·)->(∀ x,x∈a↔x∈b)->a=b
  | [],[],_,_,_=>rfl
  | [],y::b,_,_,h=>absurd ((h y).mpr List.mem_cons_self) (by simp)
  | x::a,[],_,_,h=>absurd ((h x).mp List.mem_cons_self) (by simp)
  | x::a,y::b,h1,h2,h=>by
    obtain ⟨p1,q1⟩:=List.pairwise_cons.mp h1
    obtain ⟨p2,q2⟩:=List.pairwise_cons.mp h2
    have e:x=y:=by
      rcases List.mem_cons.mp ((h x).mp List.mem_cons_self) with z | z
      · exact z
      · rcases List.mem_cons.mp ((h y).mpr List.mem_cons_self) with z2 | z2
        · exact z2.symm
        · have:=p1 y z2
          have:=p2 x z
          omega
    subst e
    congr 1
    refine rise_eq q1 q2 fun z=>⟨fun hz=>?_,fun hz=>?_⟩
    · rcases List.mem_cons.mp ((h z).mp (List.mem_cons_of_mem _ hz)) with q | q
      · have:=p1 z hz
        omega
      · exact q
    · rcases List.mem_cons.mp ((h z).mpr (List.mem_cons_of_mem _ hz)) with q | q
      · have:=p2 z hz
        omega
      · exact q
section
variable {P:Program}{w:World}{K:PySem.W.Frag}{mg:Str->Option Value}{base:Heap}{C CW:Addr}
def flw (ms:List Nat) (sts:List Kri6.State) (s:Kri6.State):List Nat:=(List.range sts.length).filter fun j=>goesOn ms s (sts.getD j [])
def spFlw:L2.Sp:=fun vs H Q _=>∃ (a b:Addr) (ms:List Nat) (sts:List Kri6.State),vs=[.ref a,.ref b]/\LN H a ms/\MOk ms/\LR shS H b sts/\(∀ s∈sts,IsSt ms s)/\sts.length<=120 /\
  ∀ (H':Hp) (p:Addr),H p=none->Same H H'->LR shN H' p (sts.map (flw ms sts))->Q (.ref p) H'
theorem st_at {sts:List Kri6.State}{j:Nat} (h:j<sts.length):sts[j]?=some (sts.getD j []):=by
  rw [List.getD_eq_getElem?_getD,List.getElem?_eq_getElem h]
  rfl
theorem st_in {sts:List Kri6.State}{j:Nat} (h:j<sts.length):sts.getD j []∈sts:=List.mem_of_getElem? (st_at h)
theorem ok_list_followers (T:Top K mg) (D:DefAt K mg "list_followers" s_list_followers) (G_state_follows:OkF P w K mg base 4 "state_follows" ["marks","state","later"] spGoes) :
    OkF P w K mg base 5 "list_followers" ["marks","states"] spFlw:=by
  refine D.ok sc_list_followers bi_list_followers (fun vs H Q E h=>?_) (fun f cdv A outer s H vs Q E hr h=>?_)
  · obtain ⟨a,b,ms,sts,rfl,_⟩:=h
    rfl
  · obtain ⟨a,b,ms,sts,rfl,ha,hm,hb,hst,hlen,k⟩:=h
    refine⟨_,(pss_cons (ps_set (i:=2) sc_list_followers.nd rfl (Or.inl rfl) (pe_lst pa_nil))
      (pss_cons (ps_for PassesOwn.never rfl (pi_list (pv 1)) (pg_name (i:=3) sc_list_followers.nd rfl (Or.inr rfl))
        (pss_one (ps_expr (pe_bm PySem.F.plainAttrs_list PySem.F.slot_list_append PySem.F.type_list_append mt_append (pv 2) (pa_cons (pe_lc rfl sc_list_followers.nd (pi_range1 rfl T.range (pa_cons (pe_callB call_len_seq (by rfl) T.len PySem.boot_len (pa_cons (pv 1) pa_nil)) pa_nil)) (blkOk_by (own:=[("number",4)]) (by show blkC ["marks","states","followers","state","number"] (defScope s_list_followers) _ _=true;decide +kernel)) (fun _ _ _ _ _=>(pg_name (i:=4) sc_list_followers.nd rfl (Or.inl rfl))) (fun _ _ _ _ _=>(pts_one (pt_val (pe_fn G_state_follows (hr.mono (by decide)) rfl (pa_cons (pv 0) (pa_cons (pv 3) (pa_cons (pe_ix (ixK_list (K:=K) rfl) (pv 1) (pv 4) (fun _ _=>rfl)) pa_nil))))))) (fun _ _ _ _ _=>(pv 4))) pa_nil)))))
      (pss_one (ps_ret (pv 2))))),?_⟩
    obtain ⟨bs,b1,b2,b3,b4⟩:=hb.sq (K:=K)
    refine⟨Nat.zero_le _,fun p hp=>?_⟩
    have s0:Same H (L2.upd H p (.lst [])):=Same.new hp
    refine⟨_,rfl,b,rfl,⟨_,s0.seq b1⟩,?_⟩
    refine for_list (K:=K) (a:=b) (xs:=bs.map V.ref) (fun i σ H'=>∃ v3 v4:Option V,σ=[some (.ref a),some (.ref b),some (.ref p),v3,v4]/\Same H H'/\LR shN H' p ((sts.take i).map (flw ms sts)))
      ⟨none,none,rfl,s0,LR.nil upd_same⟩ (fun i σ H' _ ⟨_,_,_,s1,_⟩=>s1.seq b1) ?_ ?_
    · rintro i x σ H1 hi ⟨v3,v4,rfl,s1,l1⟩
      obtain ⟨c,hc,rfl⟩:=map_at hi
      obtain ⟨st,hsti,hcs⟩:=paired_getL b4 hc
      obtain ⟨zs,z1,_⟩:=l1.sq (K:=K)
      refine⟨_,rfl,.inl ⟨rfl,_,z1⟩,?_⟩
      have en:(((bs.map V.ref).length:Nat):Int).toNat=sts.length:=by rw [List.length_map,b3];omega
      refine⟨_,rfl,b,_,rfl,.inl (s1.seq b1),_,rfl,by omega,by rw [List.length_map,b3];omega,fun Dl hDl=>?_⟩
      rw [en]
      refine filter_rng (i:=4) hDl (by omega) (by show 4<5;decide) (fun j=>goesOn ms st (sts.getD j [])) ?_ ?_
      · intro j H3 R s3 hj kR
        obtain ⟨d,hd,hds⟩:=paired_get b4 (st_at hj)
        have s13:=s1.trans s3
        refine⟨_,rfl,_,rfl,_,rfl,_,rfl,b,_,_,_,rfl,rfl,s13.seq b1,at_of (j:=j) (by omega) (by rw [List.getElem?_map,hd];rfl),a,c,d,ms,st,sts.getD j [],rfl,s13 _ _ ha,hm,s13 _ _ hcs,s13 _ _ hds,hst _ (List.mem_of_getElem? hsti),hst _ (st_in hj),fun H4 s4=>⟨_,rfl,kR H4 s4⟩⟩
      · intro H3 s3 l3
        have hpD:Dl≠p:=fun z=>by
          obtain ⟨_,h1,_⟩:=l1
          rw [z,h1] at hDl
          cases hDl
        obtain ⟨ws,e1,e2,e3⟩:=LR.app (x:=flw ms sts st) shN_no (l1.same s3) l3 hpD
        refine⟨p,_,_,rfl,rfl,e1,line_lt ?_,?_⟩
        · rw [List.length_map,e2,List.length_map,List.length_take]
          omega
        · refine⟨_,_,rfl,Same.put (s1.trans s3) hp,?_⟩
          rw [take_snoc hsti,List.map_append]
          exact e3
    · rintro σ H1 ⟨v3,v4,rfl,s1,l1⟩
      refine⟨_,rfl,k H1 p hp s1 ?_⟩
      rw [List.length_map,b3,List.take_length] at l1
      exact l1
def plc (ms:List Nat) (i:Nat) (sts:List Kri6.State):List Nat:=(List.range (2*ms.getD i 0+1)).filter fun p=>sts.any fun s=>(Kri6.at_ s i).1==p
def spPlc:L2.Sp:=fun vs H Q _=>∃ (a:Addr) (i:Nat) (ms:List Nat) (sts:List Kri6.State),vs=[.ref a,.int i]/\MOk ms/\LR shS H a sts/\(∀ s∈sts,IsSt ms s)/\sts.length<=194481/\i<ms.length /\
  ∀ (H':Hp) (q:Addr),H q=none->Same H H'->LN H' q (plc ms i sts)->Q (.ref q) H'
theorem ok_list_places (T:Top K mg) (D:DefAt K mg "list_places" s_list_places) (G_place_of:OkF P w K mg base 1 "place_of" ["state","quantity"] spPlace):OkF P w K mg base 2 "list_places" ["states","quantity"] spPlc:=by
  refine D.ok sc_list_places bi_list_places (fun vs H Q E h=>?_) (fun f cdv A outer s H vs Q E hr h=>?_)
  · obtain ⟨a,i,ms,sts,rfl,_⟩:=h
    rfl
  · obtain ⟨a,i,ms,sts,rfl,hm,ha,hst,hlen,hi,k⟩:=h
    refine⟨_,(pss_one (ps_ret (pe_callB (SX.call_sorted_small hr.hd) (by rfl) T.sorted PyProof.Rows.boot_sorted (pa_cons (pe_callTy (SX.call_set_small hr.hd) (by rfl) T.set PyProof.Rows.boot_set (pa_cons (pe_lc rfl sc_list_places.nd (pi_list (pv 0)) (blkOk_by (own:=[("state",2)]) (by show blkC ["states","quantity","state"] (defScope s_list_places) _ _=true;decide +kernel)) (fun _ _ _ _ _=>(pg_name (i:=2) sc_list_places.nd rfl (Or.inl rfl))) (fun _ _ _ _ _=>pts_nil) (fun _ _ _ _ _=>(pe_fn G_place_of (hr.mono (by decide)) rfl (pa_cons (pv 2) (pa_cons (pv 1) pa_nil))))) pa_nil)) pa_nil)))),?_⟩
    obtain ⟨as,a1,a2,a3,a4⟩:=ha.sq (K:=K)
    have hm3:ms.getD i 0<=3:=hm.2 _ (List.mem_of_getElem? (getD_get hi))
    refine⟨_,rfl,a,rfl,⟨_,a1⟩,fun Dl hDl=>?_⟩
    refine lc_list (K:=K) (a:=a) (xs:=as.map V.ref) (fun j H'=>Same H H'/\LN H' Dl ((sts.take j).map fun s=>(Kri6.at_ s i).1)) ⟨Same.new hDl,upd_same⟩ (fun j H' _ h=>h.1.seq a1) ?_ ?_
    · rintro j x H1 hx ⟨s1,l1⟩
      obtain ⟨c,hc,rfl⟩:=map_at hx
      obtain ⟨st,hsti,hcs⟩:=paired_getL a4 hc
      refine⟨wipe_back,?_⟩
      unfold tYes
      dsimp only
      rw [if_pos rfl]
      refine⟨_,rfl,_,rfl,c,st,i,rfl,s1 _ _ hcs,by rw [(hst st (List.mem_of_getElem? hsti)).1];exact hi,?_⟩
      refine⟨_,l1,line_lt ?_,Same.put s1 hDl,?_⟩
      · rw [List.length_map,List.length_map,List.length_take]
        omega
      · rw [take_snoc hsti,List.map_append]
        exact LN.app
    · rintro H1 ⟨s1,l1⟩
      rw [List.length_map,a3,List.take_length] at l1
      have h7:∀ n∈sts.map (fun s=>(Kri6.at_ s i).1),n<7:=fun n hn=>by
        obtain ⟨st,h1,rfl⟩:=List.mem_map.mp hn
        have:=((hst st h1).at hi).1
        omega
      refine⟨Dl,_,rfl,SqL.of l1,h7,fun l b hl hb hmem=>?_⟩
      have s2:=Same.new (o:=SX.gd w l b) hl
      refine⟨l,b,rfl,hb,upd_same,fun q hq=>?_⟩
      have s3:Same H _:=Same.upd (o:=.lst ((ST.LB b).map fun (n:Nat)=>V.int n)) (s1.trans s2) hq
      refine k _ q ((s1.trans s2).free hq) s3 ?_
      have e:ST.LB b=plc ms i sts:=by
        refine rise_eq (ST.rising b) ((List.pairwise_lt_range).sublist List.filter_sublist) fun u=>?_
        constructor
        · intro hu
          have hu7:=ST.mem_lt hu
          obtain ⟨st,h1,h2⟩:=List.mem_map.mp ((hmem u hu7).mp hu)
          have:=((hst st h1).at hi).1
          refine List.mem_filter.mpr ⟨List.mem_range.mpr (by omega),List.any_eq_true.mpr ⟨st,h1,by rw [h2];exact beq_self_eq_true u⟩⟩
        · intro hu
          obtain ⟨h1,h2⟩:=List.mem_filter.mp hu
          obtain ⟨st,h3,h4⟩:=List.any_eq_true.mp h2
          have h5:=List.mem_range.mp h1
          exact (hmem u (by omega)).mpr (List.mem_map.mpr ⟨st,h3,beq_iff_eq.mp h4⟩)
      rw [LN,upd_same,e]
def atP (g:Kri7.Graph) (i p:Nat):List Nat:=(List.range g.st.length).filter fun j=>g.isAt i p j
def spAt (CW:Addr):L2.Sp:=fun vs H Q _=>∃ (p:Addr) (i pl:Nat) (ms:List Nat) (g:Kri7.Graph) (l:List Nat),vs=[.ref p,.int i,.int pl]/\WO CW H p g l/\GOk ms g l/\i<ms.length /\
  ∀ (H':Hp) (q:Addr),H q=none->Same H H'->LN H' q (atP g i pl)->Q (.ref q) H'
theorem ok_numbers_at (T:Top K mg) (U:WC K CW) (D:DefAt K mg "numbers_at" s_numbers_at) (G_place_of:OkF P w K mg base 1 "place_of" ["state","quantity"] spPlace):OkF P w K mg base 2 "numbers_at" ["ways","quantity","place"] (spAt CW):=by
  refine D.ok sc_numbers_at bi_numbers_at (fun vs H Q E h=>?_) (fun f cdv A outer s H vs Q E hr h=>?_)
  · obtain ⟨p,i,pl,ms,g,l,rfl,_⟩:=h
    rfl
  · obtain ⟨p,i,pl,ms,g,l,rfl,hw,G,hi,k⟩:=h
    obtain ⟨dx,aS,aF,aL,h1,h2,h3,h4⟩:=hw.ex
    obtain ⟨as,a1,a2,a3,a4⟩:=h2.sq (K:=K)
    refine⟨_,(pss_one (ps_ret (pe_lc rfl sc_numbers_at.nd (pi_range1 rfl T.range (pa_cons (pe_callB call_len_seq (by rfl) T.len PySem.boot_len (pa_cons (pe_fld (pv 0) (by rfl)) pa_nil)) pa_nil)) (blkOk_by (own:=[("number",3)]) (by show blkC ["ways","quantity","place","number"] (defScope s_numbers_at) _ _=true;decide +kernel)) (fun _ _ _ _ _=>(pg_name (i:=3) sc_numbers_at.nd rfl (Or.inl rfl))) (fun _ _ _ _ _=>(pts_one (pt_cmpR op_eq (pe_fn G_place_of (hr.mono (by decide)) rfl (pa_cons (pe_ix (ixK_list (K:=K) rfl) (pe_fldK (K:=K) rfl (pv 0)) (pv 3) (fun _ _=>rfl)) (pa_cons (pv 1) pa_nil))) (pv 2) (nomark _)))) (fun _ _ _ _ _=>(pv 3))))),?_⟩
    have en:(((as.map V.ref).length:Nat):Int).toNat=g.st.length:=by rw [List.length_map,a3];omega
    have hle:=G.le
    refine⟨_,rfl,p,CW,dx,_,_,rfl,h1,U.cl,U.nS,wf_s,aS,_,rfl,.inl a1,_,rfl,by omega,by rw [List.length_map,a3];omega,fun Dl hDl=>?_⟩
    rw [en]
    refine filter_rng (i:=3) hDl (by omega) (by show 3<4;decide) (fun j=>g.isAt i pl j) ?_ fun H3 s3 l3=>k H3 Dl hDl s3 l3
    intro j H3 R s3 hj kR
    obtain ⟨d,hd,hds⟩:=paired_get a4 (st_at hj)
    refine⟨_,rfl,p,CW,dx,_,_,rfl,s3 _ _ h1,U.cl,U.nS,wf_s,_,rfl,aS,_,_,_,rfl,rfl,s3.seq a1,at_of (j:=j) (by omega) (by rw [List.getElem?_map,hd];rfl),_,rfl,d,g.st.getD j [],i,rfl,s3 _ _ hds,by rw [(G.st _ (st_in hj)).1];exact hi,_,rfl,rfl,?_⟩
    have e:g.isAt i pl j=decide (V.int ((Kri6.at_ (g.st.getD j []) i).1:Nat)=V.int (pl:Int)):=by
      rw [dNN]
      rfl
    rw [<- e]
    exact⟨_,rfl,kR H3 (Same.refl _)⟩
def spOff (CW:Addr):L2.Sp:=fun vs H Q _=>∃ (p b:Addr) (bar:List Nat) (ms:List Nat) (g:Kri7.Graph) (l:List Nat),vs=[.ref p,.ref b]/\WO CW H p g l/\GOk ms g l/\LN H b bar /\
  ∀ (H':Hp) (q:Addr),H q=none->Same H H'->WO CW H' q (Ways.offG g bar.contains) (l.filter fun t=>!(bar.contains t))->Q (.ref q) H'
theorem ok_ways_without (T:Top K mg) (U:WC K CW) (M_Ways:MkW P w K mg base CW) (D:DefAt K mg "ways_without" s_ways_without):OkF P w K mg base 3 "ways_without" ["ways","barred"] (spOff CW):=by
  refine D.ok sc_ways_without bi_ways_without (fun vs H Q E h=>?_) (fun f cdv A outer s H vs Q E hr h=>?_)
  · obtain ⟨p,b,bar,ms,g,l,rfl,_⟩:=h
    rfl
  · obtain ⟨p,b,bar,ms,g,l,rfl,hw,G,hb,k⟩:=h
    obtain ⟨dx,aS,aF,aL,h1,h2,h3,h4⟩:=hw.ex
    obtain ⟨fs,f1,f2,f3,f4⟩:=h3.sq (K:=K)
    refine⟨_,(pss_cons (ps_set (i:=2) sc_ways_without.nd rfl (Or.inl rfl) (pe_lst pa_nil))
      (pss_cons (ps_for PassesOwn.never rfl (pi_list (pe_fld (pv 0) (by rfl))) (pg_name (i:=3) sc_ways_without.nd rfl (Or.inl rfl))
        (pss_one (ps_expr (pe_bm PySem.F.plainAttrs_list PySem.F.slot_list_append PySem.F.type_list_append mt_append (pv 2) (pa_cons (pe_lc rfl sc_ways_without.nd (pi_list (pv 3)) (blkOk_by (own:=[("number",4)]) (by show blkC ["ways","barred","followers","later","number"] (defScope s_ways_without) _ _=true;decide +kernel)) (fun _ _ _ _ _=>(pg_name (i:=4) sc_ways_without.nd rfl (Or.inl rfl))) (fun _ _ _ _ _=>(pts_one (pt_cmpR (notInK_seq (K:=K) rfl) (pv 4) (pv 1) (by with_unfolding_all rfl)))) (fun _ _ _ _ _=>(pv 4))) pa_nil)))))
      (pss_one (ps_ret (pe_Ways M_Ways (hr.mono (by decide)) rfl (pa_cons (pe_fld (pv 0) (by rfl)) (pa_cons (pv 2) (pa_cons (pe_lc rfl sc_ways_without.nd (pi_list (pe_fld (pv 0) (by rfl))) (blkOk_by (own:=[("number",4)]) (by show blkC ["ways","barred","followers","later","number"] (defScope s_ways_without) _ _=true;decide +kernel)) (fun _ _ _ _ _=>(pg_name (i:=4) sc_ways_without.nd rfl (Or.inl rfl))) (fun _ _ _ _ _=>(pts_one (pt_cmpR (notInK_seq (K:=K) rfl) (pv 4) (pv 1) (by with_unfolding_all rfl)))) (fun _ _ _ _ _=>(pv 4))) pa_nil)))))))),?_⟩
    have hle:=G.le
    have hol:=G.ol
    have htest:∀ (σ:L2.St) (m:Nat) (H3:Hp) (R:Bool->Hp->Prop),Same H H3->σ[4]?=some (some (.int (m:Int)))->σ[1]?=some (some (.ref b))->R (!(bar.contains m)) H3 ->
        ∃ v,σ[4]?=some (some v)/\∃ u,σ[1]?=some (some u)/\rIn K true v u H3 fun y H4=>∃ z,y=.bl z/\R z H4:=fun σ m H3 R s3 e4 e1 kR=>by
      refine⟨_,e4,_,e1,b,_,rfl,.inl (SqL.of (s3 _ _ hb)),rfl,flat_nats bar,_,rfl,?_⟩
      rw [if_pos rfl,inV_nats]
      exact kR
    refine⟨Nat.zero_le _,fun q hq=>?_⟩
    have s0:Same H (L2.upd H q (.lst [])):=Same.new hq
    refine⟨_,rfl,p,CW,dx,_,_,rfl,s0 _ _ h1,U.cl,U.nF,wf_f,aF,rfl,⟨_,s0.seq f1⟩,?_⟩
    refine for_list (K:=K) (a:=aF) (xs:=fs.map V.ref) (fun i σ H'=>∃ v3 v4:Option V,σ=[some (.ref p),some (.ref b),some (.ref q),v3,v4]/\Same H H'/\LR shN H' q ((g.out.take i).map fun o=>o.filter fun t=>!(bar.contains t)))
      ⟨none,none,rfl,s0,LR.nil upd_same⟩ (fun i σ H' _ ⟨_,_,_,s1,_⟩=>s1.seq f1) ?_ ?_
    · rintro i x σ H1 hi ⟨v3,v4,rfl,s1,l1⟩
      obtain ⟨c,hc,rfl⟩:=map_at hi
      obtain ⟨o,ho,hco⟩:=paired_getL f4 hc
      obtain ⟨zs,z1,_⟩:=l1.sq (K:=K)
      have hoi:o=g.of i:=by
        have:=of_at (g:=g) (i:=i) (at_lt ho)
        rw [ho] at this
        exact Option.some.inj this
      have holen:o.length<=120:=by rw [hoi];exact G.of_len i
      refine⟨_,rfl,.inl ⟨rfl,_,z1⟩,?_⟩
      refine⟨_,rfl,c,rfl,⟨_,SqL.of (s1 _ _ hco)⟩,fun Dl hDl=>(filter_nats (K:=K) (i:=4) (a:=c) (s1 _ _ hco) hDl (by omega) (by show 4<5;decide) (fun t=>!(bar.contains t)) ?_ ?_).2⟩
      · intro m H3 R s3 hm kR
        exact htest _ m H3 R (s1.trans s3) rfl rfl (kR H3 (Same.refl _))
      · intro H3 s3 l3
        have hpD:Dl≠q:=fun z=>by
          obtain ⟨_,h1,_⟩:=l1
          rw [z,h1] at hDl
          cases hDl
        obtain ⟨ws,e1,e2,e3⟩:=LR.app (x:=o.filter fun t=>!(bar.contains t)) shN_no (l1.same s3) l3 hpD
        refine⟨q,_,_,rfl,rfl,e1,line_lt ?_,?_⟩
        · rw [List.length_map,e2,List.length_map,List.length_take]
          omega
        · refine⟨_,_,rfl,Same.put (s1.trans s3) hq,?_⟩
          rw [take_snoc ho,List.map_append]
          exact e3
    · rintro σ H1 ⟨v3,v4,rfl,s1,l1⟩
      rw [List.length_map,f3,List.take_length] at l1
      refine⟨_,rfl,p,CW,dx,_,_,rfl,s1 _ _ h1,U.cl,U.nS,wf_s,_,rfl,?_⟩
      refine⟨_,rfl,p,CW,dx,_,_,rfl,s1 _ _ h1,U.cl,U.nT,wf_t,aL,rfl,⟨_,SqL.of (s1 _ _ h4)⟩,fun Dl hDl=>(filter_nats (K:=K) (i:=4) (a:=aL) (s1 _ _ h4) hDl (by have:=G.l_len;omega) (by show 4<5;decide) (fun t=>!(bar.contains t)) ?_ ?_).2⟩
      · intro m H3 R s3 hm kR
        exact htest _ m H3 R (s1.trans s3) rfl rfl (kR H3 (Same.refl _))
      · intro H3 s3 l3
        have s13:=s1.trans s3
        intro x dxn nx ndx nex
        refine⟨x,dxn,_,_,_,rfl,upd_same,fun H4 k4 p4=>⟨rfl,?_⟩⟩
        have s4:Same H3 H4:=Same.made nx ndx fun b o e h=>k4 b o e h
        exact k H4 x (s13.free nx) (s13.trans s4) ⟨dxn,aS,q,Dl,p4,h2.same (s13.trans s4),(l1.same s3).same s4,s4 _ _ l3⟩
def spNowW (C CW:Addr):L2.Sp:=fun vs H Q _=>∃ (p:Addr) (ms:List Nat) (rs:List Kri6.Rule) (now:List Kri6.State),vs=[.ref p]/\Pl C H p ms rs now/\(fitOf ms rs).length<=120 /\
  ∀ (H':Hp) (q:Addr),H q=none->Same H H'->WO CW H' q ⟨fitOf ms rs,(fitOf ms rs).map (flw ms (fitOf ms rs))⟩ ((List.range (fitOf ms rs).length).filter fun j=>now.contains ((fitOf ms rs).getD j []))->Q (.ref q) H'
theorem flat_one1:∀ {s t:Kri6.State},Kri6.flat s=Kri6.flat t->s=t
  | [],[],_=>rfl
  | x::s,[],h=>by simp [Kri6.flat] at h
  | [],y::t,h=>by simp [Kri6.flat] at h
  | (a,b)::s,(c,d)::t,h=>by
    have h:((a:Int)::(b:Int)::Kri6.flat s)=((c:Int)::(d:Int)::Kri6.flat t):=h
    injection h with h1 h2
    injection h2 with h2 h3
    rw [flat_one1 h3,show a=c by omega,show b=d by omega]
theorem flat_has1 (s:Kri6.State):∀ l:List Kri6.State,(l.map Kri6.flat).contains (Kri6.flat s)=l.contains s
  | []=>rfl
  | t::l=>by
    rw [List.map_cons,List.contains_cons,List.contains_cons,flat_has1 s l]
    congr 1
    rw [Bool.eq_iff_iff,beq_iff_eq,beq_iff_eq]
    exact⟨fun h=>flat_one1 h,fun h=>by rw [h]⟩
theorem ok_ways_from_now (T:Top K mg) (U:PC K C) (UW:WC K CW) (M_Ways:MkW P w K mg base CW) (D:DefAt K mg "ways_from_now" s_ways_from_now) (G_list_followers:OkF P w K mg base 5 "list_followers" ["marks","states"] spFlw) :
    OkF P w K mg base 6 "ways_from_now" ["plant"] (spNowW C CW):=by
  refine D.ok sc_ways_from_now bi_ways_from_now (fun vs H Q E h=>?_) (fun f cdv A outer s H vs Q E hr h=>?_)
  · obtain ⟨p,ms,rs,now,rfl,_⟩:=h
    rfl
  · obtain ⟨p,ms,rs,now,rfl,hp,hle,k⟩:=h
    obtain ⟨dx,am,ar,af,ac,h1,h2,h3,h4,h5⟩:=hp.ex
    obtain ⟨as,a1,a2,a3,a4⟩:=h4.sq (K:=K)
    obtain ⟨cs,c1,c2,c3,c4⟩:=h5.sq (K:=K)
    refine⟨_,(pss_cons (ps_set (i:=1) sc_ways_from_now.nd rfl (Or.inr rfl) (pe_fld (pv 0) (by rfl)))
      (pss_cons (ps_setLc (i:=2) rfl sc_ways_from_now.nd rfl rfl (sw_true rfl rfl rfl (by decide +kernel)) (pi_range1 rfl T.range (pa_cons (pe_callB call_len_seq (by rfl) T.len PySem.boot_len (pa_cons (pv 1) pa_nil)) pa_nil)) (blkOk_by (own:=[("number",3)]) (by show blkC ["plant","states","starts","number"] (defScope s_ways_from_now) _ _=true;decide +kernel)) (fun _ _ _ _ _=>(pg_name (i:=3) sc_ways_from_now.nd rfl (Or.inl rfl))) (fun _ _ _ _ _=>(pts_one (pt_cmpR (SX.inK_L (K:=K) rfl (hin hr)) (pe_ix (ixK_list (K:=K) rfl) (pv 1) (pv 3) (fun _ _=>rfl)) (pe_fldK (K:=K) rfl (pv 0)) (by with_unfolding_all rfl)))) (fun _ _ _ _ _=>(pv 3)))
      (pss_one (ps_ret (pe_Ways M_Ways (hr.mono (by decide)) rfl (pa_cons (pv 1) (pa_cons (pe_fn G_list_followers (hr.mono (by decide)) rfl (pa_cons (pe_fld (pv 0) (by rfl)) (pa_cons (pv 1) pa_nil))) (pa_cons (pv 2) pa_nil)))))))),?_⟩
    have en:(((as.map V.ref).length:Nat):Int).toNat=(fitOf ms rs).length:=by rw [List.length_map,a3];omega
    refine⟨_,rfl,p,C,dx,_,_,rfl,h1,U.cl,U.nF,pf_f,?_⟩
    refine⟨_,rfl,af,_,rfl,.inl a1,_,rfl,by omega,by rw [List.length_map,a3];omega,fun Dl hDl=>?_⟩
    rw [en]
    refine filter_rng (i:=3) hDl (by omega) (by show 3<4;decide) (fun j=>now.contains ((fitOf ms rs).getD j [])) ?_ ?_
    · intro j H3 R s3 hj kR
      obtain ⟨d,hd,hds⟩:=paired_get a4 (st_at hj)
      refine⟨_,rfl,_,rfl,af,_,_,_,rfl,rfl,s3.seq a1,at_of (j:=j) (by omega) (by rw [List.getElem?_map,hd];rfl),_,rfl,p,C,dx,_,_,rfl,s3 _ _ h1,U.cl,U.nC,pf_c,?_⟩
      refine⟨d,ac,Kri6.flat ((fitOf ms rs).getD j []),cs,now.map Kri6.flat,rfl,rfl,SqL.of (s3 _ _ hds),s3.seq c1,?_,_,rfl,?_⟩
      · have:∀ {l:List Addr}{m:List Kri6.State},Paired (fun b x=>H b=some (shS x)) l m->Paired (fun b ns=>SqL K H3 b (ns.map V.int)) l (m.map Kri6.flat):=fun {l m} q=>by
          induction q with
          | nil=>exact .nil
          | cons r t ih=>exact .cons (SqL.of (s3 _ _ r)) ih
        exact this c4
      · rw [flat_has1]
        exact kR H3 (Same.refl _)
    · intro H3 s3 l3
      have hfs:∀ s∈fitOf ms rs,IsSt ms s:=fun s hs=>(fit_mem.mp hs).1
      refine⟨_,rfl,_,rfl,p,C,dx,_,_,rfl,s3 _ _ h1,U.cl,U.nM,pf_m,_,rfl,am,af,ms,fitOf ms rs,rfl,s3 _ _ h2,hp.mo,h4.same s3,hfs,hle,fun H4 q hq s4 l4=>⟨_,rfl,?_⟩⟩
      intro x dxn nx ndx nex
      refine⟨x,dxn,_,_,_,rfl,upd_same,fun H5 k5 p5=>⟨rfl,?_⟩⟩
      have s5:Same H4 H5:=Same.made nx ndx fun b o e h=>k5 b o e h
      have s35:=(s3.trans s4).trans s5
      exact k H5 x ((s3.trans s4).free nx) s35 ⟨dxn,af,q,Dl,p5,h4.same s35,l4.same s5,s5 _ _ (s4 _ _ l3)⟩
end
abbrev kI (t:Nat):Key:=Sum.inl (t:Int)
def kvs1 (F:Nat->V) (ks:List Nat):List (Key × V):=ks.map fun t=>(kI t,F t)
theorem kI_inj {a b:Nat}:kI a=kI b↔a=b:=⟨fun h=>by have:=Sum.inl.inj h;omega,fun h=>by rw [h]⟩
theorem kv_any (F:Nat->V) (t:Nat):∀ ks:List Nat,((kvs1 F ks).any fun kv=>decide (kv.1=kI t))=ks.contains t
  | []=>rfl
  | a::r=>by
    show (decide (kI a=kI t)||(kvs1 F r).any fun kv=>decide (kv.1=kI t))=_
    rw [kv_any F t r,List.contains_cons]
    congr 1
    rw [Bool.eq_iff_iff,decide_eq_true_iff,beq_iff_eq,kI_inj]
    exact⟨fun h=>h.symm,fun h=>h.symm⟩
theorem kv_at (F:Nat->V) (t:Nat):∀ ks:List Nat,t∈ks->valV (kvs1 F ks) (kI t)=some (F t)
  | [],h=>by cases h
  | a::r,h=>by
    by_cases e:a=t
    · subst e
      exact valV_pos rfl
    · refine (valV_neg (p:=(kI a,F a)) (r:=kvs1 F r) fun q=>e (kI_inj.mp q)).trans (kv_at F t r ?_)
      rcases List.mem_cons.mp h with z | z
      · exact absurd z.symm e
      · exact z
theorem kv_new (F:Nat->V) (t:Nat) (v:V) (ks:List Nat) (h:¬ t∈ks):putK (kvs1 F ks) (kI t) v=kvs1 F ks++[(kI t,v)]:=by
  unfold putK
  rw [if_neg]
  rw [kv_any,List.contains_iff_mem]
  exact h
theorem kv_same (v:V) (t:Nat) (ks:List Nat) (h:t∈ks):putK (kvs1 (fun _=>v) ks) (kI t) v=kvs1 (fun _=>v) ks:=by
  unfold putK
  rw [if_pos (by rw [kv_any,List.contains_iff_mem];exact h)]
  unfold kvs1
  rw [List.map_map]
  refine List.map_congr_left fun a _=>?_
  show (if kI a=kI t then (kI a,v) else (kI a,v))=_
  split <;> rfl
theorem kv_app (F:Nat->V) (a b:List Nat):kvs1 F (a++b)=kvs1 F a++kvs1 F b:=List.map_append
theorem kv_keys (F:Nat->V) (ks:List Nat):(kvs1 F ks).map (fun kv=>kV kv.1)=ks.map fun (n:Nat)=>V.int n:=by
  unfold kvs1
  rw [List.map_map]
  rfl
theorem kv_len (F:Nat->V) (ks:List Nat):(kvs1 F ks).length=ks.length:=List.length_map _
def bef (g:Kri7.Graph) (l fd:List Nat) (t:Nat):V:=if t∈l then .non else .int (fd.getD (Ways.pix g fd t) 0:Nat)
theorem bef_grow {g:Kri7.Graph}{l fd new:List Nat}{t a:Nat} (B:Ways.Bfs g l a fd) (ht:t∈fd):bef g l (fd++new) t=bef g l fd t:=by
  unfold bef
  by_cases h:t∈l
  · rw [if_pos h,if_pos h]
  · rw [if_neg h,if_neg h]
    obtain ⟨j,hj⟩:=Ways.mem_at ht
    have hp:=(B.bef j t hj h).1
    have hl:=B.le
    rw [Ways.pix_grow (by omega),List.getD_eq_getElem?_getD,List.getD_eq_getElem?_getD,List.getElem?_append_left (by omega)]
theorem bef_new {g:Kri7.Graph}{l fd:List Nat}{t a x:Nat} (B:Ways.Bfs g l a fd) (hx:fd[a]?=some x) (ht:t∈g.of x) (hn:¬ t∈fd) (new:List Nat):bef g l (fd++new) t=.int (x:Nat):=by
  have hal:=at_lt hx
  unfold bef
  have hl:¬ t∈l:=fun z=>hn (by obtain ⟨r,hr⟩:=B.pre;rw [hr];exact List.mem_append_left _ z)
  have e:Ways.pix g fd t=a:=by
    refine Nat.le_antisymm (Ways.pix_le hx ht) (Nat.le_of_not_lt fun z=>?_)
    obtain ⟨y,hy,hty⟩:=Ways.pix_at (g:=g) (fd:=fd) (t:=t) (by omega)
    exact hn (B.cl _ y z hy t hty)
  rw [if_neg hl,Ways.pix_grow (by omega),e,List.getD_eq_getElem?_getD,List.getElem?_append_left hal,hx]
  rfl
theorem kv_congr {F G:Nat->V}{ks:List Nat} (h:∀ t∈ks,F t=G t):kvs1 F ks=kvs1 G ks:=List.map_congr_left fun t ht=>by rw [h t ht]
section
variable {P:Program}{w:World}{K:PySem.W.Frag}{mg:Str->Option Value}{base:Heap}{C CW:Addr}
def spAfter1 (CW:Addr):L2.Sp:=fun vs H Q _=>∃ (p b:Addr) (ns:List Nat) (ms:List Nat) (g:Kri7.Graph) (l:List Nat),vs=[.ref p,.ref b]/\WO CW H p g l/\GOk ms g l/\LN H b ns/\(∀ t∈ns,t<g.n) /\
  ∀ (H':Hp) (q:Addr) (m:List Nat),H q=none->Same H H'->LN H' q m->m.Nodup->(∀ t,t∈m↔∃ s∈ns,t∈g.of s)->Q (.ref q) H'
theorem ok_all_after (T:Top K mg) (U:WC K CW) (D:DefAt K mg "all_after" s_all_after):OkF P w K mg base 1 "all_after" ["ways","numbers"] (spAfter1 CW):=by
  refine D.ok sc_all_after bi_all_after (fun vs H Q E h=>?_) (fun f cdv A outer s H vs Q E hr h=>?_)
  · obtain ⟨p,b,ns,ms,g,l,rfl,_⟩:=h
    rfl
  · obtain ⟨p,b,ns,ms,g,l,rfl,hw,G,hb,hlt,k⟩:=h
    obtain ⟨dx,aS,aF,aL,h1,h2,h3,h4⟩:=hw.ex
    obtain ⟨fs,f1,f2,f3,f4⟩:=h3.sq (K:=K)
    have hle:=G.le
    have hol:=G.ol
    refine⟨_,(pss_cons (ps_set (i:=2) sc_all_after.nd rfl (Or.inl rfl) pe_dnewK)
      (pss_cons (ps_for PassesOwn.never rfl (pi_list (pv 1)) (pg_name (i:=3) sc_all_after.nd rfl (Or.inl rfl))
        (pss_one (ps_for PassesOwn.never rfl (pi_list (pe_ix ix_list (pe_fld (pv 0) (by rfl)) (pv 3) (fun _ _=>rfl))) (pg_name (i:=4) sc_all_after.nd rfl (Or.inl rfl))
        (pss_one (ps_dput (hu_of hr) (pv 2) (pv 4) pe_bl rfl)))))
      (pss_one (ps_ret (pe_callTy (SX.call_list_keys hr.hd) (by rfl) T.list PyProof.Rows.boot_list (pa_cons (pv 2) pa_nil)))))),?_⟩
    intro d hd
    have s0:Same H (L2.upd H d (.dK [])):=Same.new hd
    refine⟨_,rfl,b,rfl,⟨_,SqL.of (s0 _ _ hb)⟩,?_⟩
    refine for_list (K:=K) (a:=b) (xs:=ns.map fun (n:Nat)=>V.int n) (fun i σ H'=>∃ (v3 v4:Option V) (ks:List Nat),σ=[some (.ref p),some (.ref b),some (.ref d),v3,v4]/\Same H H'/\H' d=some (.dK (kvs1 (fun _=>.bl true) ks))/\ks.Nodup/\∀ t,t∈ks↔∃ s∈ns.take i,t∈g.of s)
      ⟨none,none,[],rfl,s0,upd_same,List.nodup_nil,fun t=>by simp⟩ (fun i σ H' _ ⟨_,_,_,_,s1,_⟩=>SqL.of (s1 _ _ hb)) ?_ ?_
    · rintro i x σ H1 hi ⟨v3,v4,ks,rfl,s1,d1,nd1,m1⟩
      obtain ⟨n,hn,rfl⟩:=nats_at hi
      have hnl:n<g.out.length:=by rw [hol];exact hlt n (List.mem_of_getElem? hn)
      obtain ⟨c,hc,hco⟩:=paired_get f4 (of_at hnl)
      refine⟨_,rfl,p,CW,dx,_,_,rfl,s1 _ _ h1,U.cl,U.nF,wf_f,_,rfl,aF,_,_,_,rfl,rfl,s1.seq f1,at_of (j:=n) rfl (by rw [List.getElem?_map,hc];rfl),c,rfl,⟨_,SqL.of (s1 _ _ hco)⟩,?_⟩
      refine for_list (K:=K) (a:=c) (xs:=(g.of n).map fun (n:Nat)=>V.int n) (fun j σ H'=>∃ (v4:Option V) (ks:List Nat),σ=[some (.ref p),some (.ref b),some (.ref d),some (.int (n:Int)),v4]/\Same H H'/\H' d=some (.dK (kvs1 (fun _=>.bl true) ks))/\ks.Nodup /\
          ∀ t,t∈ks↔(∃ s∈ns.take i,t∈g.of s) \/ t∈(g.of n).take j) ⟨v4,ks,rfl,s1,d1,nd1,fun t=>by rw [m1];simp⟩ (fun j σ H' _ ⟨_,_,_,s2,_⟩=>SqL.of (s2 _ _ hco)) ?_ ?_
      · rintro j y σ H2 hj ⟨v4,ks,rfl,s2,d2,nd2,m2⟩
        obtain ⟨t,ht,rfl⟩:=nats_at hj
        have hks:ks.length<=120:=Nat.le_trans (Ways.nodup_le nd2 fun u hu=>by
          rcases (m2 u).mp hu with ⟨s,_,h⟩ | h
          · exact G.wf.lt s u h
          · exact G.wf.lt n u (List.mem_of_mem_take h)) hle
        refine⟨_,rfl,_,rfl,d,_,rfl,DPut.k (k:=kI t) d2 (line_lt (by rw [kv_len];omega)),?_⟩
        by_cases z:t∈ks
        · rw [kv_same _ t ks z]
          refine⟨_,ks,rfl,Same.put s2 hd,upd_same,nd2,fun u=>?_⟩
          rw [take_snoc ht,List.mem_append,m2]
          constructor
          · rintro (h | h)
            · exact .inl h
            · exact .inr (.inl h)
          · rintro (h | h | h)
            · exact .inl h
            · exact .inr h
            · rw [List.mem_singleton.mp h]
              exact (m2 t).mp z
        · rw [kv_new _ t _ ks z]
          refine⟨_,ks++[t],rfl,Same.put s2 hd,?_,?_,fun u=>?_⟩
          · rw [upd_same,kv_app]
            rfl
          · rw [List.nodup_append]
            refine⟨nd2,by simp,fun u hu v hv e=>?_⟩
            rw [List.mem_singleton.mp hv] at e
            rw [e] at hu
            exact z hu
          · rw [List.mem_append,take_snoc ht,List.mem_append,m2,or_assoc]
      · rintro σ H2 ⟨v4,ks,rfl,s2,d2,nd2,m2⟩
        refine⟨_,_,ks,rfl,s2,d2,nd2,fun u=>?_⟩
        rw [m2,List.length_map,List.take_length,take_snoc hn]
        constructor
        · rintro (⟨s,h,h'⟩ | h)
          · exact⟨s,List.mem_append_left _ h,h'⟩
          · exact⟨n,List.mem_append_right _ (List.mem_singleton.mpr rfl),h⟩
        · rintro ⟨s,h,h'⟩
          rcases List.mem_append.mp h with h | h
          · exact .inl ⟨s,h,h'⟩
          · rw [List.mem_singleton.mp h] at h'
            exact .inr h'
    · rintro σ H1 ⟨v3,v4,ks,rfl,s1,d1,nd1,m1⟩
      rw [List.length_map,List.take_length] at m1
      refine⟨_,rfl,d,_,rfl,d1,fun q hq=>?_⟩
      refine k _ q ks (s1.free hq) (Same.upd s1 hq) ?_ nd1 m1
      rw [LN,upd_same,kv_keys]
def spAfter (CW:Addr):L2.Sp:=fun vs H Q _=>∃ (p:Addr) (k:Nat) (ms:List Nat) (g:Kri7.Graph) (l:List Nat),vs=[.ref p,.int k]/\WO CW H p g l/\GOk ms g l/\k<=40 /\
  ∀ (H':Hp) (q:Addr) (m:List Nat),Same H H'->LN H' q m->Ways.IsAfter g l k m->Q (.ref q) H'
theorem ok_after_moments (T:Top K mg) (U:WC K CW) (D:DefAt K mg "after_moments" s_after_moments) (G_all_after:OkF P w K mg base 1 "all_after" ["ways","numbers"] (spAfter1 CW)):OkF P w K mg base 2 "after_moments" ["ways","moments"] (spAfter CW):=by
  refine D.ok sc_after_moments bi_after_moments (fun vs H Q E h=>?_) (fun f cdv A outer s H vs Q E hr h=>?_)
  · obtain ⟨p,kk,ms,g,l,rfl,_⟩:=h
    rfl
  · obtain ⟨p,kk,ms,g,l,rfl,hw,G,hk,k⟩:=h
    obtain ⟨dx,aS,aF,aL,h1,h2,h3,h4⟩:=hw.ex
    refine⟨_,(pss_cons (ps_set (i:=2) sc_after_moments.nd rfl (Or.inl rfl) (pe_fld (pv 0) (by rfl)))
      (pss_cons (ps_for PassesOwn.never rfl (pi_range1 rfl T.range (pa_cons (pv 1) pa_nil)) (pg_name (i:=3) sc_after_moments.nd rfl (Or.inl rfl))
        (pss_one (ps_set (i:=2) sc_after_moments.nd rfl (Or.inl rfl) (pe_fn G_all_after (hr.mono (by decide)) rfl (pa_cons (pv 0) (pa_cons (pv 2) pa_nil))))))
      (pss_one (ps_ret (pv 2))))),?_⟩
    refine⟨_,rfl,p,CW,dx,_,_,rfl,h1,U.cl,U.nT,wf_t,?_⟩
    refine⟨_,rfl,_,rfl,by omega,by omega,?_⟩
    have en:((kk:Nat):Int).toNat=kk:=by omega
    refine for_range (fun i σ H'=>∃ (q:Addr) (v3:Option V) (m:List Nat),σ=[some (.ref p),some (.int (kk:Int)),some (.ref q),v3]/\Same H H'/\LN H' q m/\Ways.IsAfter g l i m) ⟨aL,none,l,rfl,Same.refl H,h4,Ways.IsAfter.start G.nd⟩ ?_ ?_
    · rintro i σ H1 hi ⟨q,v3,m,rfl,s1,l1,a1⟩
      refine⟨_,rfl,_,rfl,p,q,m,ms,g,l,rfl,hw.same s1,G,l1,fun t ht=>Ways.way_lt G.wf G.lt ((a1.2 t).mp ht),fun H2 q2 m2 hq2 s2 l2 nd2 hm2=>?_⟩
      exact⟨q2,_,m2,rfl,s1.trans s2,l2,a1.next nd2 hm2⟩
    · rintro σ H1 ⟨q,v3,m,rfl,s1,l1,a1⟩
      rw [en] at a1
      exact⟨_,rfl,k H1 q m s1 l1 a1⟩
def spBef (CW:Addr):L2.Sp:=fun vs H Q _=>∃ (p:Addr) (ms:List Nat) (g:Kri7.Graph) (l:List Nat),vs=[.ref p]/\WO CW H p g l/\GOk ms g l /\
  ∀ (H':Hp) (d:Addr) (fd:List Nat),H d=none->Same H H'->H' d=some (.dK (kvs1 (bef g l fd) fd))->Ways.Bfs g l fd.length fd->Q (.ref d) H'
def at4 (σ:L2.St):Nat:=match σ[4]? with
  | some (some (V.int i))=>i.toNat
  | _=>0
theorem ok_befores (T:Top K mg) (U:WC K CW) (D:DefAt K mg "befores" s_befores):OkF P w K mg base 1 "befores" ["ways"] (spBef CW):=by
  refine D.ok sc_befores bi_befores (fun vs H Q E h=>?_) (fun f cdv A outer s H vs Q E hr h=>?_)
  · obtain ⟨p,ms,g,l,rfl,_⟩:=h
    rfl
  · obtain ⟨p,ms,g,l,rfl,hw,G,k⟩:=h
    obtain ⟨dx,aS,aF,aL,h1,h2,h3,h4⟩:=hw.ex
    obtain ⟨fs,f1,f2,f3,f4⟩:=h3.sq (K:=K)
    have hle:=G.le
    have hol:=G.ol
    have hll:=G.l_len
    refine⟨_,(pss_cons (ps_set (i:=1) sc_befores.nd rfl (Or.inl rfl) pe_dnewK)
      (pss_cons (ps_for PassesOwn.never rfl (pi_list (pe_fld (pv 0) (by rfl))) (pg_name (i:=2) sc_befores.nd rfl (Or.inl rfl))
        (pss_one (ps_dput (hu_of hr) (pv 1) (pv 2) pe_non rfl)))
      (pss_cons (ps_set (i:=3) sc_befores.nd rfl (Or.inl rfl) (pe_callTy call_list_of (by rfl) T.list PyProof.Rows.boot_list (pa_cons (pe_fld (pv 0) (by rfl)) pa_nil)))
      (pss_cons (ps_set (i:=4) sc_befores.nd rfl (Or.inl rfl) pe_int)
      (pss_cons (ps_while PassesOwn.never (pt_cmpR op_lt (pv 4) (pe_callB call_len_seq (by rfl) T.len PySem.boot_len (pa_cons (pv 3) pa_nil)) (nomark _))
        (pss_cons (ps_set (i:=2) sc_befores.nd rfl (Or.inl rfl) (pe_ix ix_list (pv 3) (pv 4) (fun _ _=>rfl)))
      (pss_cons (ps_for PassesOwn.never rfl (pi_list (pe_ix ix_list (pe_fld (pv 0) (by rfl)) (pv 2) (fun _ _=>rfl))) (pg_name (i:=5) sc_befores.nd rfl (Or.inl rfl))
        (pss_one (ps_if (pt_cmp (pc_dnotin (hu_of hr) (pv 5) (pv 1))) (pss_cons (ps_dput (hu_of hr) (pv 1) (pv 5) (pv 2) rfl)
      (pss_one (ps_expr (pe_bm PySem.F.plainAttrs_list PySem.F.slot_list_append PySem.F.type_list_append mt_append (pv 3) (pa_cons (pv 5) pa_nil))))) pss_nil)))
      (pss_one (ps_set (i:=4) sc_befores.nd rfl (Or.inl rfl) (pe_op op_add (pv 4) pe_int))))))
      (pss_one (ps_ret (pv 1)))))))),?_⟩
    intro d hd
    have s0:Same H (L2.upd H d (.dK [])):=Same.new hd
    refine⟨_,rfl,p,CW,dx,_,_,rfl,s0 _ _ h1,U.cl,U.nT,wf_t,aL,rfl,⟨_,SqL.of (s0 _ _ h4)⟩,?_⟩
    refine for_list (K:=K) (a:=aL) (xs:=l.map fun (n:Nat)=>V.int n) (fun i σ H'=>∃ (v2:Option V),σ=[some (.ref p),some (.ref d),v2,none,none,none]/\Same H H'/\H' d=some (.dK (kvs1 (fun _=>.non) (l.take i)))) ⟨none,rfl,s0,upd_same⟩ (fun i σ H' _ ⟨_,_,s1,_⟩=>SqL.of (s1 _ _ h4)) ?_ ?_
    · rintro i x σ H1 hi ⟨v2,rfl,s1,d1⟩
      obtain ⟨n,hn,rfl⟩:=nats_at hi
      have hnn:¬ n∈l.take i:=fun z=>by
        obtain ⟨j,hj⟩:=Ways.mem_at z
        have hji:j<i:=by
          have:=at_lt hj
          rw [List.length_take] at this
          omega
        rw [List.getElem?_take_of_lt hji] at hj
        have:=Ways.at_uniq G.nd hj hn
        omega
      refine⟨_,rfl,_,rfl,d,_,rfl,DPut.k (k:=kI n) d1 (line_lt (by rw [kv_len,List.length_take];omega)),?_⟩
      refine⟨_,rfl,Same.put s1 hd,?_⟩
      rw [upd_same,kv_new _ n _ _ hnn,take_snoc hn,kv_app]
      rfl
    · rintro σ H1 ⟨v2,rfl,s1,d1⟩
      rw [List.length_map,List.take_length] at d1
      refine⟨_,rfl,p,CW,dx,_,_,rfl,s1 _ _ h1,U.cl,U.nT,wf_t,aL,_,rfl,.inl (SqL.of (s1 _ _ h4)),fun q hq=>?_⟩
      have hqd:q≠d:=fun z=>by rw [z,d1] at hq;cases hq
      have s2:Same H (L2.upd H1 q (.lst (l.map fun (n:Nat)=>V.int n))):=Same.upd s1 hq
      have hqH:H q=none:=s1.free hq
      refine while_by (fun σ H'=>∃ (a:Nat) (v2 v5:Option V) (fd:List Nat),σ=[some (.ref p),some (.ref d),v2,some (.ref q),some (.int (a:Int)),v5]/\Same H H'/\H' d=some (.dK (kvs1 (bef g l fd) fd))/\LN H' q fd/\Ways.Bfs g l a fd) (fun σ _=>121 - at4 σ) ?_ ?_ ?_
      · refine⟨0,v2,none,l,rfl,s2,?_,upd_same,Ways.Bfs.start G.nd G.lt⟩
        rw [upd_ne (fun z=>hqd z.symm),d1]
        refine congrArg (fun z=>some (HO.dK z)) (kv_congr fun t ht=>?_)
        unfold bef
        rw [if_pos ht]
      · rintro σ H2 ⟨a,v2,v5,fd,rfl,s3,d3,l3,B⟩
        have hfl:fd.length<=120:=Nat.le_trans (Ways.nodup_le B.nd B.lt) hle
        refine⟨_,rfl,_,rfl,q,_,rfl,.inl (SqL.of l3),_,_,rfl,rfl,_,rfl,ite_dec (fun c=>?_) (fun c=>?_)⟩
        · rw [List.length_map] at c
          have ha:a<fd.length:=by omega
          obtain ⟨x,hx⟩:∃ x,fd[a]?=some x:=⟨_,List.getElem?_eq_getElem ha⟩
          refine⟨_,rfl,_,rfl,q,_,_,_,rfl,rfl,SqL.of l3,at_of (j:=a) rfl (by rw [List.getElem?_map,hx];rfl),?_⟩
          have hxl:x<g.out.length:=by rw [hol];exact B.lt x (List.mem_of_getElem? hx)
          obtain ⟨c',hc',hco⟩:=paired_get f4 (of_at hxl)
          refine⟨_,rfl,p,CW,dx,_,_,rfl,s3 _ _ h1,U.cl,U.nF,wf_f,_,rfl,aF,_,_,_,rfl,rfl,s3.seq f1,at_of (j:=x) rfl (by rw [List.getElem?_map,hc'];rfl),c',rfl,⟨_,SqL.of (s3 _ _ hco)⟩,?_⟩
          have hsx:=G.sr x
          have hnx:(g.of x).Nodup:=hsx.imp fun h=>Nat.ne_of_lt h
          refine for_list (K:=K) (a:=c') (xs:=(g.of x).map fun (n:Nat)=>V.int n) (fun j σ H'=>∃ (v5:Option V),σ=[some (.ref p),some (.ref d),some (.int (x:Int)),some (.ref q),some (.int (a:Int)),v5]/\Same H H' /\
              H' d=some (.dK (kvs1 (bef g l fd) fd++kvs1 (fun _=>.int (x:Int)) (((g.of x).take j).filter fun t=>!(fd.contains t))))/\LN H' q (fd++((g.of x).take j).filter fun t=>!(fd.contains t)))
            ⟨v5,rfl,s3,by simpa [kvs1] using d3,by simpa using l3⟩ (fun j σ H' _ ⟨_,_,s4,_⟩=>SqL.of (s4 _ _ hco)) ?_ ?_
          · rintro j y σ H3 hj ⟨v5,rfl,s4,d4,l4⟩
            obtain ⟨t,ht,rfl⟩:=nats_at hj
            have htm:t∈g.of x:=List.mem_of_getElem? ht
            have hnj:¬ t∈(g.of x).take j:=fun z=>by
              obtain ⟨i',hi'⟩:=Ways.mem_at z
              have hji:i'<j:=by
                have:=at_lt hi'
                rw [List.length_take] at this
                omega
              rw [List.getElem?_take_of_lt hji] at hi'
              have:=Ways.at_uniq hnx hi' ht
              omega
            have hall:(fd++((g.of x).take j).filter fun t=>!(fd.contains t)).length<=120:=by
              refine Nat.le_trans (Ways.nodup_le (n:=g.n) ?_ ?_) hle
              · rw [List.nodup_append]
                refine⟨B.nd,(hnx.sublist (List.take_sublist j _)).sublist List.filter_sublist,fun u hu v hv e=>?_⟩
                subst e
                have:=(List.mem_filter.mp hv).2
                rw [List.contains_iff_mem.mpr hu] at this
                cases this
              · intro u hu
                rcases List.mem_append.mp hu with h | h
                · exact B.lt u h
                · exact G.wf.lt x u (List.mem_of_mem_take (List.mem_filter.mp h).1)
            have hval:(valV (kvs1 (bef g l fd) fd++kvs1 (fun _=>.int (x:Int)) (((g.of x).take j).filter fun t=>!(fd.contains t))) (kI t)).isSome=fd.contains t:=by
              rw [<- valV_any,List.any_append,kv_any,kv_any]
              have:(((g.of x).take j).filter fun t=>!(fd.contains t)).contains t=false:=by
                rw [<- Bool.not_eq_true,List.contains_iff_mem]
                exact fun z=>hnj (List.mem_filter.mp z).1
              rw [this,Bool.or_false]
            refine⟨_,rfl,_,rfl,d,_,rfl,DGet.k (k:=kI t) d4,_,rfl,?_⟩
            rw [hval]
            refine ite_nb (fun c2=>?_) (fun c2=>?_)
            · have hnf:¬ t∈fd:=fun z=>by rw [List.contains_iff_mem.mpr z] at c2;cases c2
              have hput:putK (kvs1 (bef g l fd) fd++kvs1 (fun _=>.int (x:Int)) (((g.of x).take j).filter fun t=>!(fd.contains t))) (kI t) (.int (x:Int))=kvs1 (bef g l fd) fd++kvs1 (fun _=>.int (x:Int)) (((g.of x).take (j+1)).filter fun t=>!(fd.contains t)):=by
                rw [putK_new]
                · rw [take_snoc ht,List.filter_append]
                  have e:[t].filter (fun t=>!(fd.contains t))=[t]:=by simp [hnf]
                  rw [e,kv_app,List.append_assoc]
                  rfl
                · exact Option.not_isSome_iff_eq_none.mp (by rw [hval,c2];exact Bool.false_ne_true)
              refine⟨_,rfl,_,rfl,_,rfl,d,_,rfl,DPut.k (k:=kI t) d4 (line_lt ?_),?_⟩
              · rw [List.length_append,kv_len,kv_len,<- List.length_append]
                omega
              · rw [hput]
                have l5:LN (L2.upd H3 d (.dK (kvs1 (bef g l fd) fd++kvs1 (fun _=>.int (x:Int)) (((g.of x).take (j+1)).filter fun t=>!(fd.contains t))))) q (fd++((g.of x).take j).filter fun t=>!(fd.contains t)):=by
                  rw [LN,upd_ne hqd]
                  exact l4
                refine⟨_,rfl,.inl ⟨rfl,_,SqL.of l5⟩,_,rfl,q,_,_,rfl,rfl,l5,line_lt (by rw [List.length_map];omega),?_⟩
                refine⟨_,rfl,Same.put (Same.put s4 hd) hqH,?_,?_⟩
                · rw [upd_ne (fun z=>hqd z.symm),upd_same]
                · rw [take_snoc ht,List.filter_append]
                  have e:[t].filter (fun t=>!(fd.contains t))=[t]:=by simp [hnf]
                  rw [e,<- List.append_assoc]
                  exact LN.app
            · refine⟨_,rfl,s4,?_,?_⟩
              · rw [take_snoc ht,List.filter_append]
                have e:[t].filter (fun t=>!(fd.contains t))=[]:=by rw [List.filter_cons,c2];rfl
                rw [e,List.append_nil]
                exact d4
              · rw [take_snoc ht,List.filter_append]
                have e:[t].filter (fun t=>!(fd.contains t))=[]:=by rw [List.filter_cons,c2];rfl
                rw [e,List.append_nil]
                exact l4
          · rintro σ H3 ⟨v5,rfl,s4,d4,l4⟩
            rw [List.length_map,List.take_length] at d4 l4
            refine⟨_,rfl,_,_,rfl,rfl,⟨⟨a+1,_,_,fd++(g.of x).filter fun t=>!(fd.contains t),rfl,s4,?_,l4,B.next G.wf hx hsx⟩,?_⟩⟩
            · rw [d4,kv_app]
              refine congrArg (fun z=>some (HO.dK z)) ?_
              refine congr (congrArg _ (kv_congr fun t ht=>(bef_grow B ht).symm)) (kv_congr fun t ht=>?_)
              obtain ⟨q1,q2⟩:=List.mem_filter.mp ht
              refine (bef_new B hx q1 (fun z=>?_) _).symm
              rw [List.contains_iff_mem.mpr z] at q2
              cases q2
            · show 121 - ((a:Int)+1).toNat<121 - (a:Int).toNat
              omega
        · rw [List.length_map] at c
          have ha:a=fd.length:=by have:=B.le;omega
          subst ha
          exact⟨_,rfl,k H2 d fd hd s3 d3 B⟩
      · rintro σ H1 R R' hR ⟨v,hv,u,hu,p,ys,e1,hs,i,j,ei,ej,b,eb,z⟩
        exact⟨v,hv,u,hu,p,ys,e1,hs,i,j,ei,ej,b,eb,hR _ _ z⟩
end
theorem ite_nn {x:V}{A B:Prop} (h1:x≠.non->A) (h2:x=.non->B):if (!decide (x=.non))=true then A else B:=by
  by_cases h:x=.non
  · rw [if_neg (by simp [h])];exact h2 h
  · rw [if_pos (by simp [h])];exact h1 h
theorem ite_in {x:V}{A B:Prop} (h1:x=.non->A) (h2:x≠.non->B):if decide (x=.non)=true then A else B:=ite_dec h1 h2
theorem chain_mem {g:Kri7.Graph}{l fd c:List Nat}{t:Nat} (B:Ways.Bfs g l fd.length fd) (h:Ways.Chain g l fd c t) (ht:t∈fd):∀ x∈c,x∈fd:=by
  induction h with
  | one hl=>
    intro x hx
    rw [List.mem_singleton.mp hx]
    exact ht
  | @more t x c hl hx hc ih=>
    intro y hy
    rcases List.mem_append.mp hy with h | h
    · exact ih (List.mem_of_getElem? hx) y h
    · rw [List.mem_singleton.mp h]
      exact ht
theorem way_len {g:Kri7.Graph}{f:Nat->Bool}:∀ {k s:Nat},(g.way f k s).length<=k+1
  | 0,s=>Nat.le_refl _
  | k+1,s=>by
    show (match (g.of s).find? (fun t=>g.soonest [t] f==some k) with
      | none=>[s]
      | some t=>s::g.way f k t).length<=_
    cases (g.of s).find? (fun t=>g.soonest [t] f==some k) with
    | none=>exact Nat.succ_le_succ (Nat.zero_le _)
    | some t=>exact Nat.succ_le_succ way_len
theorem chain_len {g:Kri7.Graph}{l fd c:List Nat}{t:Nat} (B:Ways.Bfs g l fd.length fd) (h:Ways.Chain g l fd c t):∀ j:Nat,fd[j]?=some t->c.length<=j+1:=by
  induction h with
  | one hl=>exact fun j _=>Nat.succ_le_succ (Nat.zero_le j)
  | @more t x c hl hx hc ih=>
    intro j hj
    have q1:=ih _ hx
    have q2:=(B.bef j t hj hl).2
    rw [List.length_append]
    show c.length+1<=_
    omega
section
variable {P:Program}{w:World}{K:PySem.W.Frag}{mg:Str->Option Value}{base:Heap}{C CW:Addr}
def lenAt (H:Hp) (q:Addr):Nat:=match H q with
  | some (.lst xs)=>xs.length
  | _=>0
def spTo:L2.Sp:=fun vs H Q _=>∃ (d:Addr) (t:Nat) (g:Kri7.Graph) (l fd c:List Nat),vs=[.ref d,.int t]/\Rd H d (.dK (kvs1 (bef g l fd) fd))/\Ways.Bfs g l fd.length fd/\t∈fd/\Ways.Chain g l fd c t/\c.length<=1000 /\
  ∀ (H':Hp) (q:Addr),H q=none->Same H H'->LN H' q c->Q (.ref q) H'
theorem Rd.same {H H':Hp}{a:Addr}{u:HO} (h:Rd H a u) (s:Same H H'):Rd H' a u:=by
  rcases h with h | ⟨o,h⟩
  · exact .inl (s _ _ h)
  · exact .inr ⟨o,s _ _ h⟩
theorem ok_way_to (T:Top K mg) (D:DefAt K mg "way_to" s_way_to):OkF P w K mg base 1 "way_to" ["before","number"] spTo:=by
  refine D.ok sc_way_to bi_way_to (fun vs H Q E h=>?_) (fun f cdv A outer s H vs Q E hr h=>?_)
  · obtain ⟨d,t,g,l,fd,c,rfl,_⟩:=h
    rfl
  · obtain ⟨d,t,g,l,fd,c,rfl,hd,B,ht,hc,hcl,k⟩:=h
    refine⟨_,(pss_cons (ps_set (i:=2) sc_way_to.nd rfl (Or.inl rfl) (pe_lst pa_nil))
      (pss_cons (ps_while PassesOwn.never (pt_cmpR op_notN (pv 1) pe_non (nomark _))
        (pss_cons (ps_expr (pe_bm PySem.F.plainAttrs_list PySem.F.slot_list_append PySem.F.type_list_append mt_append (pv 2) (pa_cons (pv 1) pa_nil)))
      (pss_one (ps_set (i:=1) sc_way_to.nd rfl (Or.inl rfl) (pe_dget (hu_of hr) (pv 0) (pv 1) (fun _ _=>rfl))))))
      (pss_cons (ps_expr (pe_bm0 PySem.F.plainAttrs_list PySem.F.slot_list_reverse PySem.F.type_list_reverse mt_reverse (pv 2)))
      (pss_one (ps_ret (pv 2)))))),?_⟩
    refine⟨Nat.zero_le _,fun q hq=>?_⟩
    have s0:Same H (L2.upd H q (.lst [])):=Same.new hq
    refine while_by (fun σ H'=>∃ (v:V) (pre rest:List Nat),σ=[some (.ref d),some v,some (.ref q)]/\Same H H'/\LN H' q rest/\c=pre++rest.reverse/\((v=.non/\pre=[]) \/ ∃ u,v=.int (u:Nat)/\u∈fd/\Ways.Chain g l fd pre u))
      (fun _ H'=>1001 - lenAt H' q) ?_ ?_ ?_
    · exact⟨_,c,[],rfl,s0,upd_same,by simp,.inr ⟨t,rfl,ht,hc⟩⟩
    · rintro σ H1 ⟨v,pre,rest,rfl,s1,l1,ec,hv⟩
      refine⟨_,rfl,rfl,_,rfl,ite_nn (fun z=>?_) (fun z=>?_)⟩
      · rcases hv with ⟨e,_⟩ | ⟨u,rfl,hu,hch⟩
        · exact absurd e z
        · have hrl:rest.length+pre.length<=1000:=by
            have:=congrArg List.length ec
            rw [List.length_append,List.length_reverse] at this
            omega
          have hpl:1<=pre.length:=by
            cases hch with
            | one _=>exact Nat.le_refl _
            | more _ _ _=>rw [List.length_append];exact Nat.le_add_left _ _
          refine⟨_,rfl,.inl ⟨rfl,_,SqL.of l1⟩,_,rfl,q,_,_,rfl,rfl,l1,line_lt (by rw [List.length_map];omega),?_⟩
          have s2:Same H (L2.upd H1 q (.lst ((rest.map fun (n:Nat)=>V.int n)++[V.int (u:Int)]))):=Same.put s1 hq
          have l2:LN (L2.upd H1 q (.lst ((rest.map fun (n:Nat)=>V.int n)++[V.int (u:Int)]))) q (rest++[u]):=LN.app
          refine⟨_,rfl,_,rfl,d,bef g l fd u,rfl,.inl ⟨_,kI u,Rd.same hd s2,rfl,(kv_at _ u fd hu).symm⟩,?_⟩
          have em:1001 - lenAt (L2.upd H1 q (.lst ((rest.map fun (n:Nat)=>V.int n)++[V.int (u:Int)]))) q<1001 - lenAt H1 q:=by
            unfold lenAt
            rw [upd_same,show H1 q=_ from l1]
            simp only [List.length_append,List.length_map,List.length_cons,List.length_nil]
            omega
          refine⟨⟨_,pre.dropLast,rest++[u],rfl,s2,l2,?_,?_⟩,em⟩
          · rw [List.reverse_append,List.reverse_singleton]
            cases hch with
            | one _=>exact ec
            | @more _ x c' hl hx hc'=>
              rw [List.dropLast_concat]
              rw [ec,List.append_assoc]
          · cases hch with
            | one hl=>
              refine .inl ⟨?_,rfl⟩
              unfold bef
              rw [if_pos hl]
            | @more _ x c' hl hx hc'=>
              refine .inr ⟨x,?_,List.mem_of_getElem? hx,?_⟩
              · unfold bef
                rw [if_neg hl,List.getD_eq_getElem?_getD,hx]
                rfl
              · rw [List.dropLast_concat]
                exact hc'
      · rcases hv with ⟨_,rfl⟩ | ⟨u,rfl,_⟩
        · rw [List.nil_append] at ec
          refine⟨_,rfl,.inl ⟨rfl,_,SqL.of l1⟩,q,_,rfl,rfl,l1,?_⟩
          refine⟨_,rfl,k _ q hq (Same.put s1 hq) ?_⟩
          rw [LN,upd_same,ec,List.map_reverse]
        · cases z
    · rintro σ H1 R R' hR ⟨v,hv,e,b,eb,z⟩
      exact⟨v,hv,e,b,eb,hR _ _ z⟩
def spShort (CW:Addr):L2.Sp:=fun vs H Q _=>∃ (p b:Addr) (gs:List Nat) (ms:List Nat) (g:Kri7.Graph) (l:List Nat),vs=[.ref p,.ref b]/\WO CW H p g l/\GOk ms g l/\LN H b gs /\
  (Ways.Never g (fun _=>true) gs.contains l->∀ H',Same H H'->Q .non H') /\
  ∀ (k s:Nat),Ways.Least g (fun _=>true) gs.contains l k->l.find? (fun s=>g.soonest [s] gs.contains==some k)=some s->(g.way gs.contains k s).length=k+1->k<g.n->(∀ x∈g.way gs.contains k s,x<g.n) ->
    ∀ (H':Hp) (q:Addr),H q=none->Same H H'->LN H' q (g.way gs.contains k s)->Q (.ref q) H'
theorem ok_shortest_way (T:Top K mg) (U:WC K CW) (D:DefAt K mg "shortest_way" s_shortest_way) (G_befores:OkF P w K mg base 1 "befores" ["ways"] (spBef CW)) (G_way_to:OkF P w K mg base 1 "way_to" ["before","number"] spTo) :
    OkF P w K mg base 2 "shortest_way" ["ways","goals"] (spShort CW):=by
  refine D.ok sc_shortest_way bi_shortest_way (fun vs H Q E h=>?_) (fun f cdv A outer s H vs Q E hr h=>?_)
  · obtain ⟨p,b,gs,ms,g,l,rfl,_⟩:=h
    rfl
  · obtain ⟨p,b,gs,ms,g,l,rfl,hw,G,hb,k1,k2⟩:=h
    refine⟨_,(pss_cons (ps_set (i:=2) sc_shortest_way.nd rfl (Or.inl rfl) (SX.pe_freeze (pe_fn G_befores (hr.mono (by decide)) rfl (pa_cons (pv 0) pa_nil))))
      (pss_cons (ps_for PassesOwn.never rfl (pi_keys (pv 2)) (pg_name (i:=3) sc_shortest_way.nd rfl (Or.inl rfl))
        (pss_one (ps_if (pt_cmpR op_in_seq (pv 3) (pv 1) (by with_unfolding_all rfl)) (pss_one (ps_ret (pe_fn G_way_to (hr.mono (by decide)) rfl (pa_cons (pv 2) (pa_cons (pv 3) pa_nil))))) pss_nil)))
      (pss_one (ps_ret pe_non)))),?_⟩
    refine⟨_,rfl,p,ms,g,l,rfl,hw,G,fun H1 d fd hd s1 d1 B=>?_⟩
    refine⟨d,_,rfl,d1,trivial,fun od=>?_⟩
    have s2:Same H (L2.upd H1 d (.frz od (.dK (kvs1 (bef g l fd) fd)))):=Same.put s1 hd
    have d2:(L2.upd H1 d (.frz od (.dK (kvs1 (bef g l fd) fd)))) d=some (.frz od (.dK (kvs1 (bef g l fd) fd))):=upd_same
    generalize L2.upd H1 d (.frz od (.dK (kvs1 (bef g l fd) fd)))=H2 at s2 d2
    refine⟨_,rfl,d,od,rfl,.inl ⟨_,d2,?_⟩⟩
    refine SX.for_keys (fun i σ H'=>∃ v3:Option V,σ=[some (.ref p),some (.ref b),some (.ref d),v3]/\H'=H2/\∀ j x,j<i->fd[j]?=some x->gs.contains x=false) ⟨none,rfl,rfl,fun j x h=>absurd h (Nat.not_lt_zero j)⟩ (fun i σ H' _ ⟨_,_,e,_⟩=>by rw [e];exact d2) ?_ ?_
    · rintro i kk v σ H' hi ⟨v3,rfl,rfl,hn⟩
      obtain ⟨t,ht,e⟩:=map_at hi
      cases e
      refine⟨_,rfl,_,rfl,b,_,rfl,.inl (SqL.of (s2 _ _ hb)),rfl,flat_nats gs,_,rfl,?_⟩
      rw [if_neg Bool.false_ne_true,show inV (kV (kI t)) (gs.map fun (n:Nat)=>V.int n)=gs.contains t from inV_nats t gs]
      refine ite_b (fun c=>?_) (fun c=>?_)
      · obtain ⟨k,cc,hch,hcl,hL,s',hs',hway⟩:=B.short G.wf G.sr ht c hn
        have htm:=List.mem_of_getElem? ht
        have q1:=chain_len B hch i ht
        have q2:=at_lt ht
        have q3:=Ways.nodup_le B.nd B.lt
        have q4:g.n<=120:=G.le
        have hkl:cc.length<=1000:=by omega
        have hkn:k<g.n:=by omega
        refine⟨_,rfl,_,rfl,d,t,g,l,fd,cc,rfl,.inr ⟨od,d2⟩,B,htm,hch,hkl,fun H3 q hq s3 l3=>?_⟩
        refine k2 k s' hL hs' (by rw [hway];exact hcl) hkn (fun x hx=>?_) H3 q (s2.free hq) (s2.trans s3) (by rw [hway];exact l3)
        rw [hway] at hx
        exact B.lt x (chain_mem B hch htm x hx)
      · refine⟨_,rfl,rfl,fun j x hj hx=>?_⟩
        by_cases e:j=i
        · subst e
          rw [ht] at hx
          cases hx
          exact c
        · exact hn j x (by omega) hx
    · rintro σ H' ⟨v3,rfl,rfl,hn⟩
      rw [kv_len] at hn
      exact k1 (B.never fun t ht=>by obtain ⟨j,hj⟩:=Ways.mem_at ht;exact hn j t (at_lt hj) hj) _ s2
def spBeyond (CW:Addr):L2.Sp:=fun vs H Q _=>∃ (p:Addr) (ms:List Nat) (g:Kri7.Graph) (l:List Nat),vs=[.ref p]/\WO CW H p g l/\GOk ms g l /\
  ((∃ t,Ways.Wy g g.n l t)->∀ H',Same H H'->Q .non H')/\∀ m,Ways.Beyond g l m->∀ H',Same H H'->Q (.int (m:Nat)) H'
def at2 (σ:L2.St):Nat:=match σ[2]? with
  | some (some (V.int i))=>i.toNat
  | _=>0
theorem ok_moments_beyond (T:Top K mg) (U:WC K CW) (D:DefAt K mg "moments_beyond" s_moments_beyond) (G_all_after:OkF P w K mg base 1 "all_after" ["ways","numbers"] (spAfter1 CW)):OkF P w K mg base 2 "moments_beyond" ["ways"] (spBeyond CW):=by
  refine D.ok sc_moments_beyond bi_moments_beyond (fun vs H Q E h=>?_) (fun f cdv A outer s H vs Q E hr h=>?_)
  · obtain ⟨p,ms,g,l,rfl,_⟩:=h
    rfl
  · obtain ⟨p,ms,g,l,rfl,hw,G,k1,k2⟩:=h
    obtain ⟨dx,aS,aF,aL,h1,h2,h3,h4⟩:=hw.ex
    obtain ⟨as,a1,a2,a3,a4⟩:=h2.sq (K:=K)
    refine⟨_,(pss_cons (ps_set (i:=1) sc_moments_beyond.nd rfl (Or.inl rfl) (pe_fld (pv 0) (by rfl)))
      (pss_cons (ps_set (i:=2) sc_moments_beyond.nd rfl (Or.inl rfl) pe_int)
      (pss_cons (ps_while PassesOwn.never (pt_cmpR op_gt (pe_callB call_len_seq (by rfl) T.len PySem.boot_len (pa_cons (pv 1) pa_nil)) pe_int (nomark _))
        (pss_cons (ps_if (pt_cmpR op_eq (pv 2) (pe_callB call_len_seq (by rfl) T.len PySem.boot_len (pa_cons (pe_fld (pv 0) (by rfl)) pa_nil)) (nomark _)) (pss_one (ps_ret pe_non)) pss_nil)
      (pss_cons (ps_set (i:=1) sc_moments_beyond.nd rfl (Or.inl rfl) (pe_fn G_all_after (hr.mono (by decide)) rfl (pa_cons (pv 0) (pa_cons (pv 1) pa_nil))))
      (pss_one (ps_set (i:=2) sc_moments_beyond.nd rfl (Or.inl rfl) (pe_op op_add (pv 2) pe_int))))))
      (pss_one (ps_ret (pv 2)))))),?_⟩
    refine⟨_,rfl,p,CW,dx,_,_,rfl,h1,U.cl,U.nT,wf_t,?_⟩
    have hle:=G.le
    refine while_by (fun σ H'=>∃ (i:Nat) (q:Addr) (m:List Nat),σ=[some (.ref p),some (.ref q),some (.int (i:Int))]/\Same H H'/\LN H' q m/\Ways.IsAfter g l i m/\i<=g.n/\∀ j,j<i->∃ t,Ways.Wy g j l t) (fun σ _=>121 - at2 σ) ?_ ?_ ?_
    · exact⟨0,aL,l,rfl,Same.refl H,h4,Ways.IsAfter.start G.nd,Nat.zero_le _,fun j hj=>absurd hj (Nat.not_lt_zero j)⟩
    · rintro σ H1 ⟨i,q,m,rfl,s1,l1,af,hi,hj⟩
      refine⟨_,rfl,q,_,rfl,.inl (SqL.of l1),_,_,rfl,rfl,_,rfl,ite_dec (fun c=>?_) (fun c=>?_)⟩
      · rw [List.length_map] at c
        have hne:∃ t,Ways.Wy g i l t:=by
          cases m with
          | nil=>exact absurd c (by simp)
          | cons t r=>exact⟨t,(af.2 t).mp List.mem_cons_self⟩
        refine⟨_,rfl,_,rfl,p,CW,dx,_,_,rfl,s1 _ _ h1,U.cl,U.nS,wf_s,aS,_,rfl,.inl (s1.seq a1),rfl,_,rfl,ite_ii (fun c2=>?_) (fun c2=>?_)⟩
        · rw [List.length_map,a3] at c2
          have e:i=g.n:=by
            show i=g.st.length
            omega
          rw [e] at hne
          exact k1 hne H1 s1
        · rw [List.length_map,a3] at c2
          have hin:i<g.n:=by
            have:i<=g.st.length:=hi
            show i<g.st.length
            omega
          refine⟨_,rfl,_,rfl,p,q,m,ms,g,l,rfl,hw.same s1,G,l1,fun t ht=>Ways.way_lt G.wf G.lt ((af.2 t).mp ht),fun H2 q2 m2 hq2 s2 l2 nd2 hm2=>?_⟩
          refine⟨_,rfl,_,_,rfl,rfl,⟨⟨i+1,q2,m2,rfl,s1.trans s2,l2,af.next nd2 hm2,hin,fun j hj'=>?_⟩,?_⟩⟩
          · by_cases e:j=i
            · subst e;exact hne
            · exact hj j (by omega)
          · have:g.n<=120:=hle
            show 121 - ((i:Int)+1).toNat<121 - (i:Int).toNat
            omega
      · rw [List.length_map] at c
        have hm:m=[]:=by
          cases m with
          | nil=>rfl
          | cons t r=>exact absurd (show (0:Int)<((t::r).length:Nat) by rw [List.length_cons];omega) c
        have hb:Ways.Beyond g l i:=⟨fun t ht=>(by have z:=(af.2 t).mpr ht;rw [hm] at z;cases z),hj⟩
        exact⟨_,rfl,k2 i hb H1 s1⟩
    · rintro σ H1 R R' hR ⟨v,hv,p,ys,e1,hs,i,j,ei,ej,b,eb,z⟩
      exact⟨v,hv,p,ys,e1,hs,i,j,ei,ej,b,eb,hR _ _ z⟩
theorem least_snoc (l:List Nat) (x:Nat):Kri7.least (l++[x])=some (match Kri7.least l with
    | none=>x
    | some y=>min x y):=by
  unfold Kri7.least
  rw [List.foldl_append]
  show (match List.foldl _ none l with
    | none=>some x
    | some y=>some (min x y))=_
  cases List.foldl (fun b x=>match b with
    | none=>some x
    | some y=>some (min x y)) none l <;> rfl
def optV:Option Nat->V
  | none=>.non
  | some k=>.int (k:Nat)
def spRound (CW:Addr):L2.Sp:=fun vs H Q _=>∃ (p:Addr) (ms:List Nat) (g:Kri7.Graph) (l:List Nat),vs=[.ref p]/\WO CW H p g l/\GOk ms g l/\∀ H',Same H H'->Q (optV (Kri7.least ((g.ever l).filterMap fun s=>g.round s))) H'
theorem ok_shortest_round (T:Top K mg) (U:WC K CW) (M_Ways:MkW P w K mg base CW) (D:DefAt K mg "shortest_round" s_shortest_round) (G_befores:OkF P w K mg base 1 "befores" ["ways"] (spBef CW)) (G_shortest_way:OkF P w K mg base 2 "shortest_way" ["ways","goals"] (spShort CW)) :
    OkF P w K mg base 3 "shortest_round" ["ways"] (spRound CW):=by
  refine D.ok sc_shortest_round bi_shortest_round (fun vs H Q E h=>?_) (fun f cdv A outer s H vs Q E hr h=>?_)
  · obtain ⟨p,ms,g,l,rfl,_⟩:=h
    rfl
  · obtain ⟨p,ms,g,l,rfl,hw,G,k⟩:=h
    obtain ⟨dx,aS,aF,aL,h1,h2,h3,h4⟩:=hw.ex
    obtain ⟨fs,f1,f2,f3,f4⟩:=h3.sq (K:=K)
    have hle:=G.le
    have hol:=G.ol
    refine⟨_,(pss_cons (ps_set (i:=1) sc_shortest_round.nd rfl (Or.inl rfl) pe_non)
      (pss_cons (ps_for PassesOwn.never rfl (pi_keys (SX.pe_freeze (pe_fn G_befores (hr.mono (by decide)) rfl (pa_cons (pv 0) pa_nil)))) (pg_name (i:=2) sc_shortest_round.nd rfl (Or.inr rfl))
        (pss_cons (ps_setLc (i:=3) rfl sc_shortest_round.nd rfl rfl (sw_true rfl rfl rfl (by decide +kernel)) (pi_list (pe_ix ix_list (pe_fld (pv 0) (by rfl)) (pv 2) (fun _ _=>rfl))) (blkOk_by (own:=[("later",5)]) (by show blkC ["ways","fewest","number","others","back","later"] (defScope s_shortest_round) _ _=true;decide +kernel)) (fun _ _ _ _ _=>(pg_name (i:=5) sc_shortest_round.nd rfl (Or.inl rfl))) (fun _ _ _ _ _=>(pts_one (pt_cmpR op_ne (pv 5) (pv 2) (nomark _)))) (fun _ _ _ _ _=>(pv 5)))
      (pss_cons (ps_set (i:=4) sc_shortest_round.nd rfl (Or.inl rfl) (pe_fn G_shortest_way (hr.mono (by decide)) rfl (pa_cons (pe_Ways M_Ways (hr.mono (by decide)) rfl (pa_cons (pe_fld (pv 0) (by rfl)) (pa_cons (pe_fld (pv 0) (by rfl)) (pa_cons (pv 3) pa_nil)))) (pa_cons (pe_lst (pa_cons (pv 2) pa_nil)) pa_nil))))
      (pss_one (ps_if (PW.pt (pw_and (pt_cmpR op_notN (pv 4) pe_non (nomark _)) (pw_and1 (PW.pt (pw_or (pt_cmpR op_isN (pv 1) pe_non (nomark _)) (pw_or1 (pt_cmpR op_lt (pe_callB call_len_seq (by rfl) T.len PySem.boot_len (pa_cons (pv 4) pa_nil)) (pv 1) (nomark _)))))))) (pss_one (ps_set (i:=1) sc_shortest_round.nd rfl (Or.inl rfl) (pe_callB call_len_seq (by rfl) T.len PySem.boot_len (pa_cons (pv 4) pa_nil)))) pss_nil)))))
      (pss_one (ps_ret (pv 1))))),?_⟩
    refine⟨_,rfl,p,ms,g,l,rfl,hw,G,fun H1 d fd hd s1 d1 B=>?_⟩
    refine⟨d,_,rfl,d1,trivial,fun od=>?_⟩
    have s2:Same H (L2.upd H1 d (.frz od (.dK (kvs1 (bef g l fd) fd)))):=Same.put s1 hd
    have d2:(L2.upd H1 d (.frz od (.dK (kvs1 (bef g l fd) fd)))) d=some (.frz od (.dK (kvs1 (bef g l fd) fd))):=upd_same
    generalize L2.upd H1 d (.frz od (.dK (kvs1 (bef g l fd) fd)))=H2 at s2 d2
    refine⟨d,od,rfl,.inl ⟨_,d2,?_⟩⟩
    refine SX.for_keys (fun i σ H'=>∃ v2 v3 v4 v5:Option V,σ=[some (.ref p),some (optV (Kri7.least ((fd.take i).filterMap fun s=>g.round s))),v2,v3,v4,v5]/\Same H2 H') ⟨none,none,none,none,rfl,Same.refl H2⟩ (fun i σ H' _ ⟨_,_,_,_,_,s3⟩=>s3 _ _ d2) ?_ ?_
    · rintro i kk v σ H' hi ⟨v2,v3,v4,v5,rfl,s3⟩
      obtain ⟨t,ht,e⟩:=map_at hi
      cases e
      have s23:=s2.trans s3
      have htm:=List.mem_of_getElem? ht
      have htn:t<g.n:=B.lt t htm
      have htl:t<g.out.length:=by rw [hol];exact htn
      obtain ⟨c,hc,hco⟩:=paired_get f4 (of_at htl)
      refine⟨_,rfl,p,CW,dx,_,_,rfl,s23 _ _ h1,U.cl,U.nF,wf_f,_,rfl,aF,_,_,_,rfl,rfl,s23.seq f1,at_of (j:=t) rfl (by rw [List.getElem?_map,hc];rfl),c,rfl,⟨_,SqL.of (s23 _ _ hco)⟩,fun Dl hDl=>(filter_nats (K:=K) (i:=5) (a:=c) (s23 _ _ hco) hDl (by have:=G.of_len t;omega) (by show 5<6;decide) (fun u=>u != t) ?_ ?_).2⟩
      · intro m H3 R s4 hm kR
        refine⟨_,rfl,_,rfl,rfl,?_⟩
        have e:(m != t)=!decide (V.int (m:Int)=V.int (t:Int)):=by rw [dNN];rfl
        have kR:=kR H3 (Same.refl _)
        rw [e] at kR
        exact⟨_,rfl,kR⟩
      · intro H3 s4 l4
        have s24:=s23.trans s4
        refine⟨_,rfl,p,CW,dx,_,_,rfl,s24 _ _ h1,U.cl,U.nS,wf_s,_,rfl,p,CW,dx,_,_,rfl,s24 _ _ h1,U.cl,U.nF,wf_f,_,rfl,?_⟩
        intro x dxn nx ndx nex
        refine⟨x,dxn,_,_,_,rfl,upd_same,fun H4 k4 p4=>⟨rfl,?_⟩⟩
        have s5:Same H3 H4:=Same.made nx ndx fun b o e h=>k4 b o e h
        refine⟨_,rfl,(by show 1<=sizeLine;decide),fun b hb=>?_⟩
        have s6:=Same.new (o:=.lst [V.int (t:Int)]) hb
        have s56:=s5.trans s6
        have Gt:GOk ms g ((g.of t).filter fun u=>u != t):=G.begin (((G.sr t).imp fun h=>Nat.ne_of_lt h).sublist List.filter_sublist) fun u hu=>G.wf.lt t u (List.mem_filter.mp hu).1
        have hwt:WO CW _ x g ((g.of t).filter fun u=>u != t):=⟨dxn,aS,aF,Dl,s6 _ _ p4,h2.same (s24.trans s56),h3.same (s24.trans s56),s56 _ _ l4⟩
        have eg:(fun u=>u==t)=[t].contains:=funext fun u=>by show (u==t)=(u==t||false);rw [Bool.or_false]
        have hround:g.round t=(g.soonest ((g.of t).filter fun u=>u != t) [t].contains).map fun k=>k+1:=by
          unfold Kri7.Graph.round
          rw [eg]
        have fin:∀ (y:Option Nat) (H5:Hp) (vb:V),Same H2 H5->g.round t=y->vb=vb->∀ (v2 v3 v4 v5:Option V),
            ∃ v2' v3' v4' v5':Option V,([some (.ref p),some (optV (match y with
              | none=>Kri7.least ((fd.take i).filterMap fun s=>g.round s)
              | some k=>some (match Kri7.least ((fd.take i).filterMap fun s=>g.round s) with
                | none=>k
                | some z=>min k z))),v2,v3,v4,v5]:L2.St)=[some (.ref p),some (optV (Kri7.least ((fd.take (i+1)).filterMap fun s=>g.round s))),v2',v3',v4',v5']/\Same H2 H5:=fun y H5 vb s7 hy _ v2 v3 v4 v5=>by
          refine⟨v2,v3,v4,v5,?_,s7⟩
          rw [take_snoc ht,List.filterMap_append]
          cases y with
          | none=>
            have:[t].filterMap (fun s=>g.round s)=[]:=by simp [hy]
            rw [this,List.append_nil]
          | some k=>
            have:[t].filterMap (fun s=>g.round s)=[k]:=by simp [hy]
            rw [this,least_snoc]
        refine⟨x,b,[t],ms,g,_,rfl,hwt,Gt,upd_same,fun hnev H5 s7=>?_,fun kk s' hL hs' hlen hkn hlt H5 q hq s7 l7=>?_⟩
        · have s27:Same H2 H5:=((s3.trans s4).trans s56).trans s7
          have hy:g.round t=none:=by rw [hround,Ways.soonest_none Gt.wf Gt.nd Gt.lt hnev];rfl
          refine⟨_,rfl,rfl,_,rfl,ite_nn (fun z=>absurd rfl z) (fun z=>?_)⟩
          exact fin none H5 .non s27 hy rfl _ _ _ _
        · have s27:Same H2 H5:=((s3.trans s4).trans s56).trans s7
          have hy:g.round t=some (kk+1):=by rw [hround,Ways.soonest_some Gt.wf Gt.nd Gt.lt hL];rfl
          have f0:=fun v2 v3 v4 v5=>fin (some (kk+1)) H5 .non s27 hy rfl v2 v3 v4 v5
          refine⟨_,rfl,rfl,_,rfl,ite_nn (fun z=>?_) (fun z=>by cases z)⟩
          cases el:Kri7.least ((fd.take i).filterMap fun s=>g.round s) with
          | none=>
            rw [el] at f0
            refine⟨_,rfl,rfl,_,rfl,ite_in (fun z=>?_) (fun z=>absurd rfl z)⟩
            refine⟨_,rfl,q,_,rfl,.inl (SqL.of l7),?_⟩
            rw [List.length_map,hlen]
            exact f0 _ _ _ _
          | some y=>
            rw [el] at f0
            refine⟨_,rfl,rfl,_,rfl,ite_in (fun z=>by cases z) (fun z=>?_)⟩
            refine⟨_,rfl,q,_,rfl,.inl (SqL.of l7),_,rfl,_,_,rfl,rfl,_,rfl,ite_dec (fun c=>?_) (fun c=>?_)⟩
            · rw [List.length_map,hlen] at c
              refine⟨_,rfl,q,_,rfl,.inl (SqL.of l7),?_⟩
              rw [List.length_map,hlen]
              have e:min (kk+1) y=kk+1:=by omega
              simp only [e] at f0
              exact f0 _ _ _ _
            · rw [List.length_map,hlen] at c
              have e:min (kk+1) y=y:=by omega
              simp only [e] at f0
              exact f0 _ _ _ _
    · rintro σ H' ⟨v2,v3,v4,v5,rfl,s3⟩
      rw [kv_len,List.take_length]
      refine⟨_,rfl,?_⟩
      have e:Kri7.least (fd.filterMap fun s=>g.round s)=Kri7.least ((g.ever l).filterMap fun s=>g.round s):=Ways.round_least fun x=>by
        rw [Ways.mem_ever G.wf G.nd G.lt,B.mem]
      rw [e]
      exact k H' (s2.trans s3)
end
def GivesW (H:Hp) (Q:VK) (ns:List Int):Prop:=∀ (H':Hp) (q:Addr),H q=none->Same H H'->LI H' q ns->Q (.ref q) H'
theorem GivesW.one {H H1:Hp}{Q:VK}{n:Int} (k:GivesW H Q [n]) (s:Same H H1):[V.int n].length<=sizeLine/\∀ q,H1 q=none->Q (.ref q) (L2.upd H1 q (.lst [.int n])):=
  ⟨(by show 1<=sizeLine;decide),fun q hq=>k _ q (s.free hq) (Same.upd s hq) upd_same⟩
theorem GivesW.mono {H H1:Hp}{Q:VK}{ns:List Int} (k:GivesW H Q ns) (s:Same H H1):GivesW H1 Q ns:=fun H' q hq s' l=>k H' q (s.free hq) (s.trans s') l
def optI:Option Nat->Int
  | none=>-33
  | some k=>(k:Nat)
def listI (l:List Nat):List Int:=(l.length:Int)::l.map fun (n:Nat)=>(n:Int)
section
variable {P:Program}{w:World}{K:PySem.W.Frag}{mg:Str->Option Value}{base:Heap}{C CW:Addr}
def spQ0 (CW:Addr) (F:Kri7.Graph->List Nat->List Int):L2.Sp:=fun vs H Q _=>∃ (p:Addr) (ms:List Nat) (g:Kri7.Graph) (l:List Nat),vs=[.ref p]/\WO CW H p g l/\GOk ms g l/\GivesW H Q (F g l)
def spQP (CW:Addr) (F:Nat->Nat->Kri7.Graph->List Nat->List Int):L2.Sp:=fun vs H Q _=>∃ (p:Addr) (i pl:Nat) (ms:List Nat) (g:Kri7.Graph) (l:List Nat),vs=[.ref p,.int i,.int pl]/\WO CW H p g l/\GOk ms g l/\i<ms.length/\GivesW H Q (F i pl g l)
def spQPP (CW:Addr) (F:Nat->Nat->Nat->Nat->Kri7.Graph->List Nat->List Int):L2.Sp:=fun vs H Q _=>∃ (p:Addr) (i pl u q:Nat) (ms:List Nat) (g:Kri7.Graph) (l:List Nat),vs=[.ref p,.int i,.int pl,.int u,.int q]/\WO CW H p g l/\GOk ms g l/\i<ms.length/\u<ms.length/\GivesW H Q (F i pl u q g l)
def spAhead (CW:Addr):L2.Sp:=fun vs H Q _=>∃ (p:Addr) (k:Nat) (ms:List Nat) (g:Kri7.Graph) (l:List Nat),vs=[.ref p,.int k]/\WO CW H p g l/\GOk ms g l/\k<=40/\GivesW H Q [((g.after k l).length:Int)]
theorem ok_ahead (T:Top K mg) (U:WC K CW) (D:DefAt K mg "ahead" s_ahead) (G_after_moments:OkF P w K mg base 2 "after_moments" ["ways","moments"] (spAfter CW)):OkF P w K mg base 3 "ahead" ["ways","moments"] (spAhead CW):=by
  refine D.ok sc_ahead bi_ahead (fun vs H Q E h=>?_) (fun f cdv A outer s H vs Q E hr h=>?_)
  · obtain ⟨p,kk,ms,g,l,rfl,_⟩:=h
    rfl
  · obtain ⟨p,kk,ms,g,l,rfl,hw,G,hk,k⟩:=h
    refine⟨_,(pss_one (ps_ret (pe_lst (pa_cons (pe_callB call_len_seq (by rfl) T.len PySem.boot_len (pa_cons (pe_fn G_after_moments (hr.mono (by decide)) rfl (pa_cons (pv 0) (pa_cons (pv 1) pa_nil))) pa_nil)) pa_nil)))),?_⟩
    refine⟨_,rfl,_,rfl,p,kk,ms,g,l,rfl,hw,G,hk,fun H1 q m s1 l1 a1=>⟨q,_,rfl,.inl (SqL.of l1),?_⟩⟩
    rw [List.length_map,a1.len G.wf G.nd]
    exact k.one s1
theorem counted {H H1:Hp}{Q:VK}{q:Addr}{ns:List Nat} (k:GivesW H Q (listI ns)) (s1:Same H H1) (l1:LN H1 q ns) (hl:ns.length<=1000) :
    [V.int ((ns.map fun (n:Nat)=>V.int n).length:Nat)].length<=sizeLine/\∀ r,H1 r=none->∃ (a b:Addr) (xs ys:List V),V.ref r=.ref a/\V.ref q=.ref b/\(L2.upd H1 r (.lst [V.int ((ns.map fun (n:Nat)=>V.int n).length:Nat)])) a=some (.lst xs) /\
      (L2.upd H1 r (.lst [V.int ((ns.map fun (n:Nat)=>V.int n).length:Nat)])) b=some (.lst ys)/\xs.length+ys.length<=sizeLine/\∀ t,(L2.upd H1 r (.lst [V.int ((ns.map fun (n:Nat)=>V.int n).length:Nat)])) t=none->Q (.ref t) (L2.upd (L2.upd H1 r (.lst [V.int ((ns.map fun (n:Nat)=>V.int n).length:Nat)])) t (.lst (xs++ys))):=by
  refine⟨(by show 1<=sizeLine;decide),fun r hr=>?_⟩
  have s2:=Same.new (o:=.lst [V.int ((ns.map fun (n:Nat)=>V.int n).length:Nat)]) hr
  refine⟨r,q,_,_,rfl,rfl,upd_same,s2 _ _ l1,line_le ?_,fun t ht=>?_⟩
  · rw [List.length_map]
    show 1+_<=_
    omega
  · refine k _ t ((s1.trans s2).free ht) (Same.upd (s1.trans s2) ht) ?_
    rw [LI,upd_same]
    unfold listI
    rw [List.length_map,List.map_cons,List.map_map]
    rfl
def spAmong (CW:Addr):L2.Sp:=fun vs H Q _=>∃ (p b:Addr) (i:Nat) (ns:List Nat) (ms:List Nat) (g:Kri7.Graph) (l:List Nat),vs=[.ref p,.ref b,.int i]/\WO CW H p g l/\GOk ms g l/\LN H b ns/\(∀ t∈ns,t<g.n)/\ns.length<=120/\i<ms.length /\
  GivesW H Q (listI (g.places i (2*ms.getD i 0+1) ns))
theorem ok_places_among (T:Top K mg) (U:WC K CW) (D:DefAt K mg "places_among" s_places_among) (G_list_places:OkF P w K mg base 2 "list_places" ["states","quantity"] spPlc):OkF P w K mg base 3 "places_among" ["ways","numbers","quantity"] (spAmong CW):=by
  refine D.ok sc_places_among bi_places_among (fun vs H Q E h=>?_) (fun f cdv A outer s H vs Q E hr h=>?_)
  · obtain ⟨p,b,i,ns,ms,g,l,rfl,_⟩:=h
    rfl
  · obtain ⟨p,b,i,ns,ms,g,l,rfl,hw,G,hb,hlt,hlen,hi,k⟩:=h
    obtain ⟨dx,aS,aF,aL,h1,h2,h3,h4⟩:=hw.ex
    obtain ⟨as,a1,a2,a3,a4⟩:=h2.sq (K:=K)
    have hm3:ms.getD i 0<=3:=G.mo.2 _ (List.mem_of_getElem? (getD_get hi))
    refine⟨_,(pss_cons (ps_set (i:=3) sc_places_among.nd rfl (Or.inl rfl) (pe_fn G_list_places (hr.mono (by decide)) rfl (pa_cons (pe_lc rfl sc_places_among.nd (pi_list (pv 1)) (blkOk_by (own:=[("number",4)]) (by show blkC ["ways","numbers","quantity","places","number"] (defScope s_places_among) _ _=true;decide +kernel)) (fun _ _ _ _ _=>(pg_name (i:=4) sc_places_among.nd rfl (Or.inl rfl))) (fun _ _ _ _ _=>pts_nil) (fun _ _ _ _ _=>(pe_ix (ixK_list (K:=K) rfl) (pe_fldK (K:=K) rfl (pv 0)) (pv 4) (fun _ _=>rfl)))) (pa_cons (pv 2) pa_nil))))
      (pss_one (ps_ret (pe_op op_cat (pe_lst (pa_cons (pe_callB call_len_seq (by rfl) T.len PySem.boot_len (pa_cons (pv 3) pa_nil)) pa_nil)) (pv 3))))),?_⟩
    refine⟨_,rfl,b,rfl,⟨_,SqL.of hb⟩,fun Dl hDl=>?_⟩
    refine lc_list (K:=K) (a:=b) (xs:=ns.map fun (n:Nat)=>V.int n) (fun j H'=>Same H H'/\LR shS H' Dl ((ns.take j).map g.nth)) ⟨Same.new hDl,LR.nil upd_same⟩ (fun j H' _ h=>SqL.of (h.1 _ _ hb)) ?_ ?_
    · rintro j x H1 hx ⟨s1,l1⟩
      obtain ⟨n,hn,rfl⟩:=nats_at hx
      have hnl:n<g.st.length:=hlt n (List.mem_of_getElem? hn)
      obtain ⟨c,hc,hcs⟩:=paired_get a4 (st_at hnl)
      refine⟨wipe_back,?_⟩
      unfold tYes
      dsimp only
      rw [if_pos rfl]
      refine⟨_,rfl,p,CW,dx,_,_,rfl,s1 _ _ h1,U.cl,U.nS,wf_s,_,rfl,aS,_,_,_,rfl,rfl,s1.seq a1,at_of (j:=n) rfl (by rw [List.getElem?_map,hc];rfl),?_⟩
      obtain ⟨ws,e1,e2,e3⟩:=LR.app (x:=g.nth n) shS_no l1 (s1 _ _ hcs) (ne_of_none hcs hDl)
      refine⟨_,e1,line_lt ?_,Same.put s1 hDl,?_⟩
      · rw [List.length_map,e2,List.length_map,List.length_take]
        omega
      · rw [take_snoc hn,List.map_append]
        exact e3
    · rintro H1 ⟨s1,l1⟩
      rw [List.length_map,List.take_length] at l1
      refine⟨_,rfl,Dl,i,ms,ns.map g.nth,rfl,G.mo,l1,fun s hs=>?_,by rw [List.length_map];omega,hi,fun H2 q hq s2 l2=>?_⟩
      · obtain ⟨n,hn,rfl⟩:=List.mem_map.mp hs
        exact G.st _ (st_in (hlt n hn))
      · have e:plc ms i (ns.map g.nth)=g.places i (2*ms.getD i 0+1) ns:=by
          unfold plc Kri7.Graph.places
          refine List.filter_congr fun q _=>?_
          rw [List.any_map]
          rfl
        rw [e] at l2
        have hpl:(g.places i (2*ms.getD i 0+1) ns).length<=1000:=by
          refine Nat.le_trans (List.length_filter_le _ _) ?_
          rw [List.length_range]
          omega
        exact⟨_,rfl,q,_,rfl,.inl (SqL.of l2),(counted k (s1.trans s2) l2 hpl).1,fun r hr=>⟨_,rfl,(counted k (s1.trans s2) l2 hpl).2 r hr⟩⟩
def spLaterW (CW:Addr):L2.Sp:=fun vs H Q _=>∃ (p:Addr) (i kk:Nat) (ms:List Nat) (g:Kri7.Graph) (l:List Nat),vs=[.ref p,.int i,.int kk]/\WO CW H p g l/\GOk ms g l/\i<ms.length/\kk<=40/\GivesW H Q (listI (g.places i (2*ms.getD i 0+1) (g.after kk l)))
theorem ok_later (T:Top K mg) (D:DefAt K mg "later" s_later) (G_after_moments:OkF P w K mg base 2 "after_moments" ["ways","moments"] (spAfter CW)) (G_places_among:OkF P w K mg base 3 "places_among" ["ways","numbers","quantity"] (spAmong CW)) :
    OkF P w K mg base 4 "later" ["ways","quantity","moments"] (spLaterW CW):=by
  refine D.ok sc_later bi_later (fun vs H Q E h=>?_) (fun f cdv A outer s H vs Q E hr h=>?_)
  · obtain ⟨p,i,kk,ms,g,l,rfl,_⟩:=h
    rfl
  · obtain ⟨p,i,kk,ms,g,l,rfl,hw,G,hi,hk,k⟩:=h
    refine⟨_,(pss_one (ps_ret (pe_fn G_places_among (hr.mono (by decide)) rfl (pa_cons (pv 0) (pa_cons (pe_fn G_after_moments (hr.mono (by decide)) rfl (pa_cons (pv 0) (pa_cons (pv 2) pa_nil))) (pa_cons (pv 1) pa_nil)))))),?_⟩
    refine⟨_,rfl,_,rfl,_,rfl,p,kk,ms,g,l,rfl,hw,G,hk,fun H1 q m s1 l1 a1=>⟨_,rfl,?_⟩⟩
    have hm:∀ t∈m,t<g.n:=fun t ht=>Ways.way_lt G.wf G.lt ((a1.2 t).mp ht)
    refine⟨p,q,i,m,ms,g,l,rfl,hw.same s1,G,l1,hm,Nat.le_trans (Ways.nodup_le a1.1 hm) G.le,hi,?_⟩
    rw [Ways.places_same (a:=m) (b:=g.after kk l) fun x=>(a1.2 x).trans (Ways.mem_after G.wf).symm]
    exact k.mono s1
def spEver (CW:Addr):L2.Sp:=fun vs H Q _=>∃ (p:Addr) (i:Nat) (ms:List Nat) (g:Kri7.Graph) (l:List Nat),vs=[.ref p,.int i]/\WO CW H p g l/\GOk ms g l/\i<ms.length/\GivesW H Q (listI (g.places i (2*ms.getD i 0+1) (g.ever l)))
theorem ok_ever (T:Top K mg) (D:DefAt K mg "ever" s_ever) (G_befores:OkF P w K mg base 1 "befores" ["ways"] (spBef CW)) (G_places_among:OkF P w K mg base 3 "places_among" ["ways","numbers","quantity"] (spAmong CW)) :
    OkF P w K mg base 4 "ever" ["ways","quantity"] (spEver CW):=by
  refine D.ok sc_ever bi_ever (fun vs H Q E h=>?_) (fun f cdv A outer s H vs Q E hr h=>?_)
  · obtain ⟨p,i,ms,g,l,rfl,_⟩:=h
    rfl
  · obtain ⟨p,i,ms,g,l,rfl,hw,G,hi,k⟩:=h
    refine⟨_,(pss_one (ps_ret (pe_fn G_places_among (hr.mono (by decide)) rfl (pa_cons (pv 0) (pa_cons (pe_callTy (SX.call_list_keys hr.hd) (by rfl) T.list PyProof.Rows.boot_list (pa_cons (pe_fn G_befores (hr.mono (by decide)) rfl (pa_cons (pv 0) pa_nil)) pa_nil)) (pa_cons (pv 1) pa_nil)))))),?_⟩
    refine⟨_,rfl,_,rfl,p,ms,g,l,rfl,hw,G,fun H1 d fd hd s1 d1 B=>⟨d,_,rfl,d1,fun q hq=>⟨_,rfl,?_⟩⟩⟩
    have s2:=Same.new (o:=.lst ((kvs1 (bef g l fd) fd).map fun kv=>kV kv.1)) hq
    have l2:LN (L2.upd H1 q (.lst ((kvs1 (bef g l fd) fd).map fun kv=>kV kv.1))) q fd:=by
      rw [LN,upd_same,kv_keys]
    refine⟨p,q,i,fd,ms,g,l,rfl,hw.same (s1.trans s2),G,l2,B.lt,Nat.le_trans (Ways.nodup_le B.nd B.lt) G.le,hi,?_⟩
    rw [Ways.places_same (a:=fd) (b:=g.ever l) fun x=>B.mem.trans (Ways.mem_ever G.wf G.nd G.lt x).symm]
    exact k.mono (s1.trans s2)
theorem ok_reach (T:Top K mg) (D:DefAt K mg "reach" s_reach) (G_befores:OkF P w K mg base 1 "befores" ["ways"] (spBef CW)):OkF P w K mg base 2 "reach" ["ways"] (spQ0 CW fun g l=>[((g.ever l).length:Int)]):=by
  refine D.ok sc_reach bi_reach (fun vs H Q E h=>?_) (fun f cdv A outer s H vs Q E hr h=>?_)
  · obtain ⟨p,ms,g,l,rfl,_⟩:=h
    rfl
  · obtain ⟨p,ms,g,l,rfl,hw,G,k⟩:=h
    refine⟨_,(pss_one (ps_ret (pe_lst (pa_cons (pe_callB call_lenD (by rfl) T.len PySem.boot_len (pa_cons (pe_fn G_befores (hr.mono (by decide)) rfl (pa_cons (pv 0) pa_nil)) pa_nil)) pa_nil)))),?_⟩
    refine⟨_,rfl,p,ms,g,l,rfl,hw,G,fun H1 d fd hd s1 d1 B=>⟨d,_,rfl,d1,?_⟩⟩
    rw [kv_len,Ways.same_len B.nd (b:=g.ever l) (List.nodup_range.sublist List.filter_sublist) fun x=>B.mem.trans (Ways.mem_ever G.wf G.nd G.lt x).symm]
    exact k.one s1
def spMom (CW:Addr):L2.Sp:=fun vs H Q _=>∃ (p b:Addr) (gs:List Nat) (ms:List Nat) (g:Kri7.Graph) (l:List Nat),vs=[.ref p,.ref b]/\WO CW H p g l/\GOk ms g l/\LN H b gs/\GivesW H Q [optI (g.soonest l gs.contains)]
theorem ok_moments_to (T:Top K mg) (D:DefAt K mg "moments_to" s_moments_to) (G_shortest_way:OkF P w K mg base 2 "shortest_way" ["ways","goals"] (spShort CW)):OkF P w K mg base 3 "moments_to" ["ways","goals"] (spMom CW):=by
  refine D.ok sc_moments_to bi_moments_to (fun vs H Q E h=>?_) (fun f cdv A outer s H vs Q E hr h=>?_)
  · obtain ⟨p,b,gs,ms,g,l,rfl,_⟩:=h
    rfl
  · obtain ⟨p,b,gs,ms,g,l,rfl,hw,G,hb,k⟩:=h
    refine⟨_,(pss_cons (ps_set (i:=2) sc_moments_to.nd rfl (Or.inl rfl) (pe_fn G_shortest_way (hr.mono (by decide)) rfl (pa_cons (pv 0) (pa_cons (pv 1) pa_nil))))
      (pss_cons (ps_if (pt_cmpR op_isN (pv 2) pe_non (nomark _)) (pss_one (ps_ret (pe_lst (pa_cons (pe_gint T.CANNOT_BE rfl) pa_nil)))) pss_nil)
      (pss_one (ps_ret (pe_lst (pa_cons (pe_op op_sub (pe_callB call_len_seq (by rfl) T.len PySem.boot_len (pa_cons (pv 2) pa_nil)) pe_int) pa_nil)))))),?_⟩
    refine⟨_,rfl,_,rfl,p,b,gs,ms,g,l,rfl,hw,G,hb,fun hn H1 s1=>?_,fun kk s' hL hs hlen hkn hlt H1 q hq s1 l1=>?_⟩
    · rw [Ways.soonest_none G.wf G.nd G.lt hn] at k
      refine⟨_,rfl,rfl,_,rfl,ite_in (fun z=>?_) (fun z=>absurd rfl z)⟩
      exact k.one s1
    · rw [Ways.soonest_some G.wf G.nd G.lt hL] at k
      refine⟨_,rfl,rfl,_,rfl,ite_in (fun z=>by cases z) (fun z=>?_)⟩
      refine⟨_,rfl,q,_,rfl,.inl (SqL.of l1),_,_,rfl,rfl,?_⟩
      rw [List.length_map,hlen]
      have e:optI (some kk)=((kk+1:Nat):Int) - 1:=by
        show ((kk:Nat):Int)=_
        omega
      rw [e] at k
      exact k.one s1
theorem at_has (g:Kri7.Graph) (i p:Nat):∀ j,j<g.n->(atP g i p).contains j=g.isAt i p j:=Ways.pick_has _
theorem ok_may (T:Top K mg) (D:DefAt K mg "may" s_may) (G_numbers_at:OkF P w K mg base 2 "numbers_at" ["ways","quantity","place"] (spAt CW)) (G_moments_to:OkF P w K mg base 3 "moments_to" ["ways","goals"] (spMom CW)) :
    OkF P w K mg base 4 "may" ["ways","quantity","place"] (spQP CW fun i p g l=>[optI (g.soonest l (g.isAt i p))]):=by
  refine D.ok sc_may bi_may (fun vs H Q E h=>?_) (fun f cdv A outer s H vs Q E hr h=>?_)
  · obtain ⟨p,i,pl,ms,g,l,rfl,_⟩:=h
    rfl
  · obtain ⟨p,i,pl,ms,g,l,rfl,hw,G,hi,k⟩:=h
    refine⟨_,(pss_one (ps_ret (pe_fn G_moments_to (hr.mono (by decide)) rfl (pa_cons (pv 0) (pa_cons (pe_fn G_numbers_at (hr.mono (by decide)) rfl (pa_cons (pv 0) (pa_cons (pv 1) (pa_cons (pv 2) pa_nil)))) pa_nil))))),?_⟩
    refine⟨_,rfl,_,rfl,_,rfl,_,rfl,p,i,pl,ms,g,l,rfl,hw,G,hi,fun H1 q hq s1 l1=>?_⟩
    refine⟨p,q,atP g i pl,ms,g,l,rfl,hw.same s1,G,l1,?_⟩
    rw [Ways.soonest_congr G.wf G.nd G.lt (at_has g i pl)]
    exact k.mono s1
def pathI (g:Kri7.Graph) (l:List Nat) (f:Nat->Bool):List Int:=match g.soonest l f with
  | none=>[-33]
  | some k=>match l.find? fun s=>g.soonest [s] f==some k with
    | none=>[-33]
    | some s=>(k:Int)::(g.way f k s).flatMap fun t=>Kri6.flat (g.nth t)
theorem ok_path (T:Top K mg) (U:WC K CW) (D:DefAt K mg "path" s_path) (G_numbers_at:OkF P w K mg base 2 "numbers_at" ["ways","quantity","place"] (spAt CW)) (G_shortest_way:OkF P w K mg base 2 "shortest_way" ["ways","goals"] (spShort CW)) :
    OkF P w K mg base 3 "path" ["ways","quantity","place"] (spQP CW fun i p g l=>pathI g l (g.isAt i p)):=by
  refine D.ok sc_path bi_path (fun vs H Q E h=>?_) (fun f cdv A outer s H vs Q E hr h=>?_)
  · obtain ⟨p,i,pl,ms,g,l,rfl,_⟩:=h
    rfl
  · obtain ⟨p,i,pl,ms,g,l,rfl,hw,G,hi,k⟩:=h
    obtain ⟨dx,aS,aF,aL,h1,h2,h3,h4⟩:=hw.ex
    obtain ⟨as,a1,a2,a3,a4⟩:=h2.sq (K:=K)
    refine⟨_,(pss_cons (ps_set (i:=3) sc_path.nd rfl (Or.inl rfl) (pe_fn G_shortest_way (hr.mono (by decide)) rfl (pa_cons (pv 0) (pa_cons (pe_fn G_numbers_at (hr.mono (by decide)) rfl (pa_cons (pv 0) (pa_cons (pv 1) (pa_cons (pv 2) pa_nil)))) pa_nil))))
      (pss_cons (ps_if (pt_cmpR op_isN (pv 3) pe_non (nomark _)) (pss_one (ps_ret (pe_lst (pa_cons (pe_gint T.CANNOT_BE rfl) pa_nil)))) pss_nil)
      (pss_cons (ps_set (i:=4) sc_path.nd rfl (Or.inl rfl) (pe_lst (pa_cons (pe_op op_sub (pe_callB call_len_seq (by rfl) T.len PySem.boot_len (pa_cons (pv 3) pa_nil)) pe_int) pa_nil)))
      (pss_cons (ps_for PassesOwn.never rfl (pi_list (pv 3)) (pg_name (i:=5) sc_path.nd rfl (Or.inl rfl))
        (pss_one (ps_expr (pe_bm PySem.F.plainAttrs_list PySem.F.slot_list_extend PySem.F.type_list_extend mt_extend (pv 4) (pa_cons (pe_ix ix_list (pe_fld (pv 0) (by rfl)) (pv 5) (fun _ _=>rfl)) pa_nil)))))
      (pss_one (ps_ret (pv 4))))))),?_⟩
    have hc:=at_has g i pl
    have ep:pathI g l (g.isAt i pl)=pathI g l (atP g i pl).contains:=by
      unfold pathI
      rw [<- Ways.soonest_congr G.wf G.nd G.lt hc]
      cases g.soonest l (atP g i pl).contains with
      | none=>rfl
      | some kk=>
        have e:l.find? (fun s=>g.soonest [s] (g.isAt i pl)==some kk)=l.find? (fun s=>g.soonest [s] (atP g i pl).contains==some kk):=Ways.find_congr fun x hx=>by rw [Ways.one_congr G.wf hc (G.lt x hx)]
        simp only [e]
        cases l.find? (fun s=>g.soonest [s] (atP g i pl).contains==some kk) with
        | none=>rfl
        | some s'=>simp only [Ways.gway_congr G.wf hc kk s']
    have k:GivesW H Q (pathI g l (g.isAt i pl)):=k
    rw [ep] at k
    refine⟨_,rfl,_,rfl,_,rfl,_,rfl,p,i,pl,ms,g,l,rfl,hw,G,hi,fun H1 q hq s1 l1=>?_⟩
    refine⟨p,q,atP g i pl,ms,g,l,rfl,hw.same s1,G,l1,fun hn H2 s2=>?_,fun kk s' hL hs hlen hkn hlt H2 r hr2 s2 l2=>?_⟩
    · unfold pathI at k
      rw [Ways.soonest_none G.wf G.nd G.lt hn] at k
      refine⟨_,rfl,rfl,_,rfl,ite_in (fun z=>?_) (fun z=>absurd rfl z)⟩
      exact k.one (s1.trans s2)
    · unfold pathI at k
      rw [Ways.soonest_some G.wf G.nd G.lt hL] at k
      simp only [hs] at k
      have s12:=s1.trans s2
      generalize g.way (atP g i pl).contains kk s'=wy at k hlen hlt l2
      have hkk:wy.length<=121:=by
        have:g.n<=120:=G.le
        omega
      refine⟨_,rfl,rfl,_,rfl,ite_in (fun z=>by cases z) (fun z=>?_)⟩
      refine⟨_,rfl,r,_,rfl,.inl (SqL.of l2),_,_,rfl,rfl,(by show 1<=sizeLine;decide),fun t ht=>?_⟩
      have hrt:r≠t:=fun z=>by
        rw [z] at l2
        rw [show H2 t=_ from l2] at ht
        cases ht
      have e1:(((wy.map fun (n:Nat)=>V.int n).length:Nat):Int) - 1=(kk:Nat):=by
        rw [List.length_map,hlen]
        omega
      have e2:L2.upd H2 t (.lst [(fun (i j:Int)=>V.int (i - j)) (((wy.map fun (n:Nat)=>V.int n).length:Nat):Int) 1])=L2.upd H2 t (.lst [V.int ((kk:Nat):Int)]):=by
        show L2.upd H2 t (.lst [V.int ((((wy.map fun (n:Nat)=>V.int n).length:Nat):Int) - 1)])=_
        rw [e1]
      rw [e2]
      have s3:=Same.new (o:=.lst [V.int ((kk:Nat):Int)]) ht
      refine⟨_,rfl,r,rfl,⟨_,SqL.of (s3 _ _ l2)⟩,?_⟩
      have htH:H t=none:=s12.free ht
      have hfl:∀ n,n<g.n->(Kri6.flat (g.nth n)).length<=8:=fun n hn=>by
        rw [flat_length,show (g.nth n).length=ms.length from (G.st _ (st_in hn)).1]
        have:=G.mo.1
        omega
      refine for_list (K:=K) (a:=r) (xs:=wy.map fun (n:Nat)=>V.int n) (fun j σ H'=>∃ v5:Option V,σ=[some (.ref p),some (.int (i:Int)),some (.int (pl:Int)),some (.ref r),some (.ref t),v5]/\Same H H'/\H' r=some (shN wy)/\LI H' t ((kk:Int)::(wy.take j).flatMap fun t=>Kri6.flat (g.nth t)))
        ⟨none,rfl,s12.trans s3,s3 _ _ l2,upd_same⟩ (fun j σ H' _ ⟨_,_,_,h,_⟩=>SqL.of h) ?_ ?_
      · rintro j x σ H4 hj ⟨v5,rfl,s4,r4,l4⟩
        obtain ⟨n,hn,rfl⟩:=nats_at hj
        have hnl:n<g.st.length:=hlt n (List.mem_of_getElem? hn)
        obtain ⟨c,hc,hcs⟩:=paired_get a4 (st_at hnl)
        refine⟨_,rfl,.inl ⟨rfl,_,SqL.of l4⟩,_,rfl,p,CW,dx,_,_,rfl,s4 _ _ h1,U.cl,U.nS,wf_s,_,rfl,aS,_,_,_,rfl,rfl,s4.seq a1,at_of (j:=n) rfl (by rw [List.getElem?_map,hc];rfl),?_⟩
        refine⟨t,c,_,_,rfl,rfl,l4,s4 _ _ hcs,line_le ?_,?_⟩
        · have q1:((wy.take j).flatMap fun t=>Kri6.flat (g.nth t)).length<=8*(wy.take j).length:=by
            have:∀ l:List Nat,(∀ x∈l,x<g.n)->(l.flatMap fun t=>Kri6.flat (g.nth t)).length<=8*l.length:=fun l=>by
              induction l with
              | nil=>intro _;simp
              | cons a rr ih=>
                intro hh
                rw [List.flatMap_cons,List.length_append,List.length_cons]
                have:=ih fun x hx=>hh x (List.mem_cons_of_mem _ hx)
                have:=hfl a (hh a List.mem_cons_self)
                omega
            exact this _ fun x hx=>hlt x (List.mem_of_mem_take hx)
          have q2:=hfl n hnl
          rw [List.length_take] at q1
          rw [List.length_map,List.length_cons,List.length_map]
          show _+(Kri6.flat (g.nth n)).length<=_
          omega
        · refine⟨_,rfl,Same.put s4 htH,by rw [upd_ne hrt];exact r4,?_⟩
          rw [LI,upd_same,take_snoc hn,List.flatMap_append,List.flatMap_singleton,<- List.map_append]
          rfl
      · rintro σ H4 ⟨v5,rfl,s4,r4,l4⟩
        rw [List.length_map,List.take_length] at l4
        exact⟨_,rfl,k H4 t htH s4 l4⟩
def spEnds (CW:Addr):L2.Sp:=fun vs H Q _=>∃ (p:Addr) (ms:List Nat) (g:Kri7.Graph) (l:List Nat),vs=[.ref p]/\WO CW H p g l/\GOk ms g l/\∀ (H':Hp) (q:Addr),H q=none->Same H H'->LN H' q ((List.range g.st.length).filter fun j=>(g.of j).isEmpty)->Q (.ref q) H'
theorem ok_ends (T:Top K mg) (U:WC K CW) (D:DefAt K mg "ends" s_ends):OkF P w K mg base 1 "ends" ["ways"] (spEnds CW):=by
  refine D.ok sc_ends bi_ends (fun vs H Q E h=>?_) (fun f cdv A outer s H vs Q E hr h=>?_)
  · obtain ⟨p,ms,g,l,rfl,_⟩:=h
    rfl
  · obtain ⟨p,ms,g,l,rfl,hw,G,k⟩:=h
    obtain ⟨dx,aS,aF,aL,h1,h2,h3,h4⟩:=hw.ex
    obtain ⟨as,a1,a2,a3,a4⟩:=h2.sq (K:=K)
    obtain ⟨fs,f1,f2,f3,f4⟩:=h3.sq (K:=K)
    refine⟨_,(pss_one (ps_ret (pe_lc rfl sc_ends.nd (pi_range1 rfl T.range (pa_cons (pe_callB call_len_seq (by rfl) T.len PySem.boot_len (pa_cons (pe_fld (pv 0) (by rfl)) pa_nil)) pa_nil)) (blkOk_by (own:=[("number",1)]) (by show blkC ["ways","number"] (defScope s_ends) _ _=true;decide +kernel)) (fun _ _ _ _ _=>(pg_name (i:=1) sc_ends.nd rfl (Or.inl rfl))) (fun _ _ _ _ _=>(pts_one (pt_cmpR op_eq (pe_callB (lenK_seq (K:=K) rfl) (by rfl) T.len PySem.boot_len (pa_cons (pe_ix (ixK_list (K:=K) rfl) (pe_fldK (K:=K) rfl (pv 0)) (pv 1) (fun _ _=>rfl)) pa_nil)) pe_int (nomark _)))) (fun _ _ _ _ _=>(pv 1))))),?_⟩
    have en:(((as.map V.ref).length:Nat):Int).toNat=g.st.length:=by rw [List.length_map,a3];omega
    have hle:=G.le
    refine⟨_,rfl,p,CW,dx,_,_,rfl,h1,U.cl,U.nS,wf_s,aS,_,rfl,.inl a1,_,rfl,by omega,by rw [List.length_map,a3];omega,fun Dl hDl=>?_⟩
    rw [en]
    refine filter_rng (i:=1) hDl (by omega) (by show 1<2;decide) (fun j=>(g.of j).isEmpty) ?_ fun H3 s3 l3=>k H3 Dl hDl s3 l3
    intro j H3 R s3 hj kR
    obtain ⟨d,hd,hds⟩:=paired_get f4 (of_at (g:=g) (i:=j) (by rw [G.ol];exact hj))
    refine⟨_,rfl,p,CW,dx,_,_,rfl,s3 _ _ h1,U.cl,U.nF,wf_f,_,rfl,aF,_,_,_,rfl,rfl,s3.seq f1,at_of (j:=j) (by omega) (by rw [List.getElem?_map,hd];rfl),d,_,rfl,.inl (SqL.of (s3 _ _ hds)),rfl,?_⟩
    have e:(g.of j).isEmpty=decide (V.int (((g.of j).map fun (n:Nat)=>V.int n).length:Nat)=V.int 0):=by
      rw [dII,List.length_map,Bool.eq_iff_iff,List.isEmpty_iff,decide_eq_true_iff]
      cases g.of j with
      | nil=>simp
      | cons a r=>simp;omega
    have kR:=kR H3 (Same.refl _)
    rw [e] at kR
    exact⟨_,rfl,kR⟩
end
section
variable {P:Program}{w:World}{K:PySem.W.Frag}{mg:Str->Option Value}{base:Heap}{C CW:Addr}
theorem off_congr {g:Kri7.Graph}{bar bar':Nat->Bool} (h:∀ j,j<g.n->bar j=bar' j):g.all.filter (fun j=>!(bar j))=g.all.filter fun j=>!(bar' j):=List.filter_congr fun j hj=>by rw [h j (Ways.mem_all.mp hj)]
theorem end_has {g:Kri7.Graph}{t:Nat} (ht:t<g.n):((List.range g.st.length).filter fun j=>(g.of j).isEmpty).contains t=true↔g.of t=[]:=by
  rw [Ways.pick_has (fun j=>(g.of j).isEmpty) t ht,List.isEmpty_iff]
theorem ok_must (T:Top K mg) (D:DefAt K mg "must" s_must) (G_numbers_at:OkF P w K mg base 2 "numbers_at" ["ways","quantity","place"] (spAt CW)) (G_ways_without:OkF P w K mg base 3 "ways_without" ["ways","barred"] (spOff CW))
    (G_moments_beyond:OkF P w K mg base 2 "moments_beyond" ["ways"] (spBeyond CW)) (G_ends:OkF P w K mg base 1 "ends" ["ways"] (spEnds CW)) (G_shortest_way:OkF P w K mg base 2 "shortest_way" ["ways","goals"] (spShort CW)) :
    OkF P w K mg base 4 "must" ["ways","quantity","place"] (spQP CW fun i p g l=>[optI (g.surely l (g.isAt i p))]):=by
  refine D.ok sc_must bi_must (fun vs H Q E h=>?_) (fun f cdv A outer s H vs Q E hr h=>?_)
  · obtain ⟨p,i,pl,ms,g,l,rfl,_⟩:=h
    rfl
  · obtain ⟨p,i,pl,ms,g,l,rfl,hw,G,hi,k⟩:=h
    refine⟨_,(pss_cons (ps_set (i:=3) sc_must.nd rfl (Or.inl rfl) (pe_fn G_ways_without (hr.mono (by decide)) rfl (pa_cons (pv 0) (pa_cons (pe_fn G_numbers_at (hr.mono (by decide)) rfl (pa_cons (pv 0) (pa_cons (pv 1) (pa_cons (pv 2) pa_nil)))) pa_nil))))
      (pss_cons (ps_set (i:=4) sc_must.nd rfl (Or.inl rfl) (pe_fn G_moments_beyond (hr.mono (by decide)) rfl (pa_cons (pv 3) pa_nil)))
      (pss_cons (ps_if (PW.pt (pw_or (pt_cmpR op_isN (pv 4) pe_non (nomark _)) (pw_or1 (pt_cmpR op_notN (pe_fn G_shortest_way (hr.mono (by decide)) rfl (pa_cons (pv 3) (pa_cons (pe_fn G_ends (hr.mono (by decide)) rfl (pa_cons (pv 0) pa_nil)) pa_nil))) pe_non (nomark _))))) (pss_one (ps_ret (pe_lst (pa_cons (pe_gint T.CANNOT_BE rfl) pa_nil)))) pss_nil)
      (pss_one (ps_ret (pe_lst (pa_cons (pv 4) pa_nil))))))),?_⟩
    have k:GivesW H Q [optI (g.surely l (g.isAt i pl))]:=k
    rw [<- Ways.surely_congr G.wf G.lt (at_has g i pl)] at k
    refine⟨_,rfl,_,rfl,_,rfl,_,rfl,p,i,pl,ms,g,l,rfl,hw,G,hi,fun H1 q hq s1 l1=>?_⟩
    refine⟨p,q,atP g i pl,ms,g,l,rfl,hw.same s1,G,l1,fun H2 o ho s2 w2=>?_⟩
    have s12:=s1.trans s2
    have Go:=G.off (atP g i pl).contains
    refine⟨_,rfl,o,ms,_,_,rfl,w2,Go,fun hx H3 s3=>?_,fun m hb H3 s3=>?_⟩
    · rw [Ways.must_ever G.wf G.lt hx] at k
      refine⟨_,rfl,rfl,_,rfl,ite_in (fun z=>iteT ?_) (fun z=>absurd rfl z)⟩
      exact k.one (s12.trans s3)
    · have s13:=s12.trans s3
      refine⟨_,rfl,rfl,_,rfl,ite_in (fun z=>by cases z) (fun z=>?_)⟩
      refine⟨_,rfl,_,rfl,p,ms,g,l,rfl,hw.same s13,G,fun H4 e he s4 l4=>?_⟩
      have s14:=s13.trans s4
      refine⟨o,e,_,ms,_,_,rfl,w2.same (s3.trans s4),Go,l4,fun hn H5 s5=>?_,fun kk s' hL hs hlen hkn hlt H5 r hr5 s5 l5=>?_⟩
      · have hs:g.surely l (atP g i pl).contains=some m:=Ways.must_some G.wf G.lt hb fun j t ht z=>by
          have htn:t<g.n:=Ways.way_lt Go.wf Go.lt ht
          have:=hn j t ht
          rw [(end_has htn).mpr z] at this
          cases this
        rw [hs] at k
        refine⟨rfl,_,rfl,ite_nn (fun z=>absurd rfl z) (fun z=>?_)⟩
        refine⟨_,rfl,?_⟩
        exact k.one (s14.trans s5)
      · obtain ⟨⟨t,ht,hte⟩,_⟩:=hL
        have htn:t<g.n:=Ways.way_lt Go.wf Go.lt ht
        rw [Ways.must_end G.wf G.lt ht ((end_has htn).mp hte)] at k
        refine⟨rfl,_,rfl,ite_nn (fun z=>?_) (fun z=>by cases z)⟩
        exact k.one (s14.trans s5)
def avoidI (g:Kri7.Graph) (l:List Nat) (f:Nat->Bool):Int:=if (l.any fun s=>(g.goOn g.n (g.all.filter fun j=>!(f j))).contains s)=true then 1 else 0
theorem ok_avoid (T:Top K mg) (D:DefAt K mg "avoid" s_avoid) (G_numbers_at:OkF P w K mg base 2 "numbers_at" ["ways","quantity","place"] (spAt CW)) (G_ways_without:OkF P w K mg base 3 "ways_without" ["ways","barred"] (spOff CW))
    (G_moments_beyond:OkF P w K mg base 2 "moments_beyond" ["ways"] (spBeyond CW)):OkF P w K mg base 4 "avoid" ["ways","quantity","place"] (spQP CW fun i p g l=>[avoidI g l (g.isAt i p)]):=by
  refine D.ok sc_avoid bi_avoid (fun vs H Q E h=>?_) (fun f cdv A outer s H vs Q E hr h=>?_)
  · obtain ⟨p,i,pl,ms,g,l,rfl,_⟩:=h
    rfl
  · obtain ⟨p,i,pl,ms,g,l,rfl,hw,G,hi,k⟩:=h
    refine⟨_,(pss_cons (ps_set (i:=3) sc_avoid.nd rfl (Or.inl rfl) (pe_fn G_ways_without (hr.mono (by decide)) rfl (pa_cons (pv 0) (pa_cons (pe_fn G_numbers_at (hr.mono (by decide)) rfl (pa_cons (pv 0) (pa_cons (pv 1) (pa_cons (pv 2) pa_nil)))) pa_nil))))
      (pss_one (ps_ret (pe_lst (pa_cons (pe_ifExp (pt_cmpR op_isN (pe_fn G_moments_beyond (hr.mono (by decide)) rfl (pa_cons (pv 3) pa_nil)) pe_non (nomark _)) pe_int pe_int) pa_nil))))),?_⟩
    have k:GivesW H Q [avoidI g l (g.isAt i pl)]:=k
    have ea:avoidI g l (g.isAt i pl)=avoidI g l (atP g i pl).contains:=by
      unfold avoidI
      rw [off_congr (at_has g i pl)]
    rw [ea] at k
    refine⟨_,rfl,_,rfl,_,rfl,_,rfl,p,i,pl,ms,g,l,rfl,hw,G,hi,fun H1 q hq s1 l1=>?_⟩
    refine⟨p,q,atP g i pl,ms,g,l,rfl,hw.same s1,G,l1,fun H2 o ho s2 w2=>?_⟩
    have s12:=s1.trans s2
    refine⟨_,rfl,o,ms,_,_,rfl,w2,G.off (atP g i pl).contains,fun hx H3 s3=>?_,fun m hb H3 s3=>?_⟩
    · unfold avoidI at k
      rw [if_pos (Ways.avoid_yes G.wf G.lt hx)] at k
      refine⟨rfl,_,rfl,ite_in (fun z=>?_) (fun z=>absurd rfl z)⟩
      exact k.one (s12.trans s3)
    · unfold avoidI at k
      rw [if_neg (by rw [Ways.avoid_no G.wf G.lt hb];exact Bool.false_ne_true)] at k
      refine⟨rfl,_,rfl,ite_in (fun z=>by cases z) (fun z=>?_)⟩
      exact k.one (s12.trans s3)
theorem ok_both (T:Top K mg) (D:DefAt K mg "both" s_both) (G_numbers_at:OkF P w K mg base 2 "numbers_at" ["ways","quantity","place"] (spAt CW)) (G_moments_to:OkF P w K mg base 3 "moments_to" ["ways","goals"] (spMom CW)) :
    OkF P w K mg base 4 "both" ["ways","quantity","place","other","where"] (spQPP CW fun i p u q g l=>[optI (g.soonest l fun s=>g.isAt i p s&&g.isAt u q s)]):=by
  refine D.ok sc_both bi_both (fun vs H Q E h=>?_) (fun f cdv A outer s H vs Q E hr h=>?_)
  · obtain ⟨p,i,pl,u,v,ms,g,l,rfl,_⟩:=h
    rfl
  · obtain ⟨p,i,pl,u,v,ms,g,l,rfl,hw,G,hi,hu,k⟩:=h
    refine⟨_,(pss_cons (ps_set (i:=5) sc_both.nd rfl (Or.inr rfl) (pe_fn G_numbers_at (hr.mono (by decide)) rfl (pa_cons (pv 0) (pa_cons (pv 3) (pa_cons (pv 4) pa_nil)))))
      (pss_one (ps_ret (pe_fn G_moments_to (hr.mono (by decide)) rfl (pa_cons (pv 0) (pa_cons (pe_lc rfl sc_both.nd (pi_list (pe_fn G_numbers_at (hr.mono (by decide)) rfl (pa_cons (pv 0) (pa_cons (pv 1) (pa_cons (pv 2) pa_nil))))) (blkOk_by (own:=[("number",6)]) (by show blkC ["ways","quantity","place","other","where","there","number"] (defScope s_both) _ _=true;decide +kernel)) (fun _ _ _ _ _=>(pg_name (i:=6) sc_both.nd rfl (Or.inl rfl))) (fun _ _ _ _ _=>(pts_one (pt_cmpR (inK_seq (K:=K) rfl) (pv 6) (pv 5) (by with_unfolding_all rfl)))) (fun _ _ _ _ _=>(pv 6))) pa_nil)))))),?_⟩
    have k:GivesW H Q [optI (g.soonest l fun s=>g.isAt i pl s&&g.isAt u v s)]:=k
    refine⟨_,rfl,_,rfl,_,rfl,p,u,v,ms,g,l,rfl,hw,G,hu,fun H1 q hq s1 l1=>?_⟩
    refine⟨_,rfl,_,rfl,_,rfl,_,rfl,p,i,pl,ms,g,l,rfl,hw.same s1,G,hi,fun H2 r hr2 s2 l2=>?_⟩
    have s12:=s1.trans s2
    have hlen:(atP g i pl).length<=1000000:=by
      refine Nat.le_trans (List.length_filter_le _ _) ?_
      rw [List.length_range]
      have:=G.le
      omega
    refine⟨r,rfl,⟨_,SqL.of l2⟩,fun Dl hDl=>(filter_nats (K:=K) (i:=6) (a:=r) l2 hDl hlen (by show 6<7;decide) (fun t=>(atP g u v).contains t) ?_ ?_).2⟩
    · intro m H3 R s3 hm kR
      refine⟨_,rfl,_,rfl,q,_,rfl,.inl (SqL.of ((s2.trans s3) _ _ l1)),rfl,flat_nats _,_,rfl,?_⟩
      rw [if_neg Bool.false_ne_true,inV_nats]
      exact kR H3 (Same.refl _)
    · intro H3 s3 l3
      have s13:=s12.trans s3
      refine⟨p,Dl,_,ms,g,l,rfl,hw.same s13,G,l3,?_⟩
      have e:g.soonest l ((atP g i pl).filter fun t=>(atP g u v).contains t).contains=g.soonest l fun s=>g.isAt i pl s&&g.isAt u v s:=Ways.soonest_congr G.wf G.nd G.lt fun j hj=>by
        rw [Bool.eq_iff_iff,List.contains_iff_mem,List.mem_filter,Bool.and_eq_true,<- at_has g i pl j hj,<- at_has g u v j hj,List.contains_iff_mem,List.contains_iff_mem]
      rw [e]
      exact k.mono s13
theorem ok_only (T:Top K mg) (D:DefAt K mg "only" s_only) (G_numbers_at:OkF P w K mg base 2 "numbers_at" ["ways","quantity","place"] (spAt CW)) (G_ways_without:OkF P w K mg base 3 "ways_without" ["ways","barred"] (spOff CW)) (G_moments_to:OkF P w K mg base 3 "moments_to" ["ways","goals"] (spMom CW)) :
    OkF P w K mg base 4 "only" ["ways","quantity","place","other","where"] (spQPP CW fun i p u q g l=>[optI (g.without l (g.isAt u q) (g.isAt i p))]):=by
  refine D.ok sc_only bi_only (fun vs H Q E h=>?_) (fun f cdv A outer s H vs Q E hr h=>?_)
  · obtain ⟨p,i,pl,u,v,ms,g,l,rfl,_⟩:=h
    rfl
  · obtain ⟨p,i,pl,u,v,ms,g,l,rfl,hw,G,hi,hu,k⟩:=h
    refine⟨_,(pss_one (ps_ret (pe_fn G_moments_to (hr.mono (by decide)) rfl (pa_cons (pe_fn G_ways_without (hr.mono (by decide)) rfl (pa_cons (pv 0) (pa_cons (pe_fn G_numbers_at (hr.mono (by decide)) rfl (pa_cons (pv 0) (pa_cons (pv 3) (pa_cons (pv 4) pa_nil)))) pa_nil))) (pa_cons (pe_fn G_numbers_at (hr.mono (by decide)) rfl (pa_cons (pv 0) (pa_cons (pv 1) (pa_cons (pv 2) pa_nil)))) pa_nil))))),?_⟩
    have k:GivesW H Q [optI (g.without l (g.isAt u v) (g.isAt i pl))]:=k
    refine⟨_,rfl,_,rfl,_,rfl,_,rfl,p,u,v,ms,g,l,rfl,hw,G,hu,fun H1 q hq s1 l1=>?_⟩
    refine⟨p,q,atP g u v,ms,g,l,rfl,hw.same s1,G,l1,fun H2 o ho s2 w2=>?_⟩
    have s12:=s1.trans s2
    have Go:=G.off (atP g u v).contains
    refine⟨_,rfl,_,rfl,_,rfl,p,i,pl,ms,g,l,rfl,hw.same s12,G,hi,fun H3 r hr3 s3 l3=>?_⟩
    refine⟨o,r,atP g i pl,ms,_,_,rfl,w2.same s3,Go,l3,?_⟩
    have e:(Ways.offG g (atP g u v).contains).soonest (l.filter fun t=>!((atP g u v).contains t)) (atP g i pl).contains=g.without l (g.isAt u v) (g.isAt i pl):=by
      rw [<- Ways.without_congr G.wf G.nd G.lt (at_has g i pl) (at_has g u v)]
      have sp:=Ways.soonest_spec (f:=(atP g i pl).contains) Go.wf Go.nd Go.lt
      cases e:(Ways.offG g (atP g u v).contains).soonest (l.filter fun t=>!((atP g u v).contains t)) (atP g i pl).contains with
      | none=>rw [e] at sp;exact (Ways.without_none G.wf G.nd G.lt sp).symm
      | some kk=>rw [e] at sp;exact (Ways.without_some G.wf G.nd G.lt sp).symm
    rw [e]
    exact k.mono (s12.trans s3)
def spSteady:L2.Sp:=fun vs H Q _=>∃ (a:Addr) (s:Kri6.State),vs=[.ref a]/\H a=some (shS s)/\s.length<=1000/\Q (.bl (Kri6.steady s)) H
theorem steady_at (s:Kri6.State):Kri6.steady s=(List.range s.length).all fun i=>(Kri6.at_ s i).2==1:=by
  unfold Kri6.steady
  rw [Bool.eq_iff_iff,List.all_eq_true,List.all_eq_true]
  constructor
  · intro h i hi
    have hi:=List.mem_range.mp hi
    have e:=at_get hi
    rw [List.getElem?_eq_getElem hi] at e
    rw [<- Option.some.inj e]
    exact h _ (List.getElem_mem hi)
  · intro h x hx
    obtain ⟨i,hi,e⟩:=List.getElem_of_mem hx
    have e2:=at_get hi
    rw [List.getElem?_eq_getElem hi] at e2
    have:=h i (List.mem_range.mpr hi)
    rw [<- Option.some.inj e2,e] at this
    exact this
theorem ok_is_steady (T:Top K mg) (D:DefAt K mg "is_steady" s_is_steady) (G_direction_of:OkF P w K mg base 1 "direction_of" ["state","quantity"] spDir):OkF P w K mg base 2 "is_steady" ["state"] spSteady:=by
  refine D.ok sc_is_steady bi_is_steady (fun vs H Q E h=>?_) (fun f cdv A outer s H vs Q E hr h=>?_)
  · obtain ⟨a,st,rfl,_⟩:=h
    rfl
  · obtain ⟨a,st,rfl,ha,hl,k⟩:=h
    refine⟨_,(pss_cons (ps_for PassesOwn.never rfl (pi_range1 rfl T.range (pa_cons (pe_op op_fdiv (pe_callB call_len_seq (by rfl) T.len PySem.boot_len (pa_cons (pv 0) pa_nil)) pe_int) pa_nil)) (pg_name (i:=1) sc_is_steady.nd rfl (Or.inl rfl))
        (pss_one (ps_if (pt_cmpR op_ne (pe_fn G_direction_of (hr.mono (by decide)) rfl (pa_cons (pv 0) (pa_cons (pv 1) pa_nil))) (pe_gint T.STEADY rfl) (nomark _)) (pss_one (ps_ret pe_bl)) pss_nil)))
      (pss_one (ps_ret pe_bl))),?_⟩
    rw [steady_at] at k
    have hlen:((Kri6.flat st).map V.int).length=2*st.length:=by rw [List.length_map,flat_length]
    refine⟨_,rfl,a,_,rfl,.inl (SqL.of ha),_,_,rfl,rfl,⟨by decide,by decide⟩,_,rfl,?_,?_,?_⟩
    · rw [hlen];omega
    · rw [hlen];omega
    have en:((((Kri6.flat st).map V.int).length:Nat) / 2:Int).toNat=st.length:=by rw [hlen];omega
    refine for_range (fun j σ H'=>∃ v1:Option V,σ=[some (.ref a),v1]/\H'=H/\(List.range j).all (fun i=>(Kri6.at_ st i).2==1)=true) ⟨none,rfl,rfl,rfl⟩ ?_ ?_
    · rintro j σ H1 hj ⟨v1,rfl,rfl,q1⟩
      have hj:j<st.length:=by
        have:j<((((Kri6.flat st).map V.int).length:Nat) / 2:Int).toNat:=hj
        rw [en] at this
        exact this
      refine⟨_,rfl,_,rfl,a,st,j,by rw [Int.zero_add];rfl,ha,hj,rfl,_,rfl,ite_ni (fun c=>?_) (fun c=>?_)⟩
      · have e:((List.range st.length).all fun i=>(Kri6.at_ st i).2==1)=false:=by
          rw [Bool.eq_false_iff]
          intro z
          have:=List.all_eq_true.mp z j (List.mem_range.mpr hj)
          rw [beq_iff_eq] at this
          exact c (by rw [this];rfl)
        rw [e] at k
        exact k
      · refine⟨_,rfl,rfl,?_⟩
        rw [List.range_succ,List.all_append,q1,List.all_cons,List.all_nil,Bool.and_true,Bool.true_and,beq_iff_eq]
        omega
    · rintro σ H1 ⟨v1,rfl,rfl,q1⟩
      have q1:(List.range ((((Kri6.flat st).map V.int).length:Nat) / 2:Int).toNat).all (fun i=>(Kri6.at_ st i).2==1)=true:=q1
      rw [en] at q1
      rw [q1] at k
      exact k
theorem ok_rest (T:Top K mg) (U:WC K CW) (D:DefAt K mg "rest" s_rest) (G_is_steady:OkF P w K mg base 2 "is_steady" ["state"] spSteady) (G_moments_to:OkF P w K mg base 3 "moments_to" ["ways","goals"] (spMom CW)) :
    OkF P w K mg base 4 "rest" ["ways"] (spQ0 CW fun g l=>[optI (g.soonest l fun s=>Kri6.steady (g.nth s))]):=by
  refine D.ok sc_rest bi_rest (fun vs H Q E h=>?_) (fun f cdv A outer s H vs Q E hr h=>?_)
  · obtain ⟨p,ms,g,l,rfl,_⟩:=h
    rfl
  · obtain ⟨p,ms,g,l,rfl,hw,G,k⟩:=h
    obtain ⟨dx,aS,aF,aL,h1,h2,h3,h4⟩:=hw.ex
    obtain ⟨as,a1,a2,a3,a4⟩:=h2.sq (K:=K)
    refine⟨_,(pss_one (ps_ret (pe_fn G_moments_to (hr.mono (by decide)) rfl (pa_cons (pv 0) (pa_cons (pe_lc rfl sc_rest.nd (pi_range1 rfl T.range (pa_cons (pe_callB call_len_seq (by rfl) T.len PySem.boot_len (pa_cons (pe_fld (pv 0) (by rfl)) pa_nil)) pa_nil)) (blkOk_by (own:=[("number",1)]) (by show blkC ["ways","number"] (defScope s_rest) _ _=true;decide +kernel)) (fun _ _ _ _ _=>(pg_name (i:=1) sc_rest.nd rfl (Or.inl rfl))) (fun _ _ _ _ _=>(pts_one (pt_val (pe_fn G_is_steady (hr.mono (by decide)) rfl (pa_cons (pe_ix (ixK_list (K:=K) rfl) (pe_fldK (K:=K) rfl (pv 0)) (pv 1) (fun _ _=>rfl)) pa_nil))))) (fun _ _ _ _ _=>(pv 1))) pa_nil))))),?_⟩
    have k:GivesW H Q [optI (g.soonest l fun s=>Kri6.steady (g.nth s))]:=k
    have en:(((as.map V.ref).length:Nat):Int).toNat=g.st.length:=by rw [List.length_map,a3];omega
    have hle:=G.le
    refine⟨_,rfl,_,rfl,p,CW,dx,_,_,rfl,h1,U.cl,U.nS,wf_s,aS,_,rfl,.inl a1,_,rfl,by omega,by rw [List.length_map,a3];omega,fun Dl hDl=>?_⟩
    rw [en]
    refine filter_rng (i:=1) hDl (by omega) (by show 1<2;decide) (fun j=>Kri6.steady (g.nth j)) ?_ ?_
    · intro j H3 R s3 hj kR
      obtain ⟨d,hd,hds⟩:=paired_get a4 (st_at hj)
      refine⟨_,rfl,p,CW,dx,_,_,rfl,s3 _ _ h1,U.cl,U.nS,wf_s,_,rfl,aS,_,_,_,rfl,rfl,s3.seq a1,at_of (j:=j) (by omega) (by rw [List.getElem?_map,hd];rfl),d,g.nth j,rfl,s3 _ _ hds,?_,_,rfl,kR H3 (Same.refl _)⟩
      rw [show (g.nth j).length=ms.length from (G.st _ (st_in hj)).1]
      have:=G.mo.1
      omega
    · intro H3 s3 l3
      refine⟨p,Dl,_,ms,g,l,rfl,hw.same s3,G,l3,?_⟩
      rw [Ways.soonest_congr G.wf G.nd G.lt (Ways.pick_has fun j=>Kri6.steady (g.nth j))]
      exact k.mono s3
theorem ok_stuck (T:Top K mg) (D:DefAt K mg "stuck" s_stuck) (G_ends:OkF P w K mg base 1 "ends" ["ways"] (spEnds CW)) (G_moments_to:OkF P w K mg base 3 "moments_to" ["ways","goals"] (spMom CW)) :
    OkF P w K mg base 4 "stuck" ["ways"] (spQ0 CW fun g l=>[optI (g.soonest l fun s=>(g.of s).isEmpty)]):=by
  refine D.ok sc_stuck bi_stuck (fun vs H Q E h=>?_) (fun f cdv A outer s H vs Q E hr h=>?_)
  · obtain ⟨p,ms,g,l,rfl,_⟩:=h
    rfl
  · obtain ⟨p,ms,g,l,rfl,hw,G,k⟩:=h
    refine⟨_,(pss_one (ps_ret (pe_fn G_moments_to (hr.mono (by decide)) rfl (pa_cons (pv 0) (pa_cons (pe_fn G_ends (hr.mono (by decide)) rfl (pa_cons (pv 0) pa_nil)) pa_nil))))),?_⟩
    have k:GivesW H Q [optI (g.soonest l fun s=>(g.of s).isEmpty)]:=k
    refine⟨_,rfl,_,rfl,p,ms,g,l,rfl,hw,G,fun H1 q hq s1 l1=>?_⟩
    refine⟨p,q,_,ms,g,l,rfl,hw.same s1,G,l1,?_⟩
    rw [Ways.soonest_congr G.wf G.nd G.lt (Ways.pick_has fun j=>(g.of j).isEmpty)]
    exact k.mono s1
theorem ok_round_way (T:Top K mg) (D:DefAt K mg "round_way" s_round_way) (G_shortest_round:OkF P w K mg base 3 "shortest_round" ["ways"] (spRound CW)) :
    OkF P w K mg base 4 "round_way" ["ways"] (spQ0 CW fun g l=>[optI (Kri7.least ((g.ever l).filterMap fun s=>g.round s))]):=by
  refine D.ok sc_round_way bi_round_way (fun vs H Q E h=>?_) (fun f cdv A outer s H vs Q E hr h=>?_)
  · obtain ⟨p,ms,g,l,rfl,_⟩:=h
    rfl
  · obtain ⟨p,ms,g,l,rfl,hw,G,k⟩:=h
    refine⟨_,(pss_cons (ps_set (i:=1) sc_round_way.nd rfl (Or.inl rfl) (pe_fn G_shortest_round (hr.mono (by decide)) rfl (pa_cons (pv 0) pa_nil)))
      (pss_cons (ps_if (pt_cmpR op_isN (pv 1) pe_non (nomark _)) (pss_one (ps_ret (pe_lst (pa_cons (pe_gint T.CANNOT_BE rfl) pa_nil)))) pss_nil)
      (pss_one (ps_ret (pe_lst (pa_cons (pv 1) pa_nil)))))),?_⟩
    have k:GivesW H Q [optI (Kri7.least ((g.ever l).filterMap fun s=>g.round s))]:=k
    refine⟨_,rfl,p,ms,g,l,rfl,hw,G,fun H1 s1=>?_⟩
    cases e:Kri7.least ((g.ever l).filterMap fun s=>g.round s) with
    | none=>
      rw [e] at k
      refine⟨_,rfl,rfl,_,rfl,ite_in (fun z=>?_) (fun z=>absurd rfl z)⟩
      exact k.one s1
    | some m=>
      rw [e] at k
      refine⟨_,rfl,rfl,_,rfl,ite_in (fun z=>by cases z) (fun z=>?_)⟩
      refine⟨_,rfl,?_⟩
      exact k.one s1
end
section
variable {P:Program}{w:World}{K:PySem.W.Frag}{mg:Str->Option Value}{base:Heap}{C CW:Addr}
theorem Gives.ways {p:Addr}{H:Hp}{Q:VK}{ns:List Int}{R:Hp->Prop} (k:Gives p H Q ns R) (hR:∀ H',Same H H'->R H'):GivesW H Q ns:=fun H' q hq s l=>k H' q (Keep.of s) hq (hR H' s) l
theorem ok_tell_places (T:Top K mg) (U:PC K C) (D:DefAt K mg "tell_places" s_tell_places) (G_has_quantity:OkF P w K mg base 1 "has_quantity" ["plant","quantity"] (spHasQ C)) (G_list_places:OkF P w K mg base 2 "list_places" ["states","quantity"] spPlc) :
    OkF P w K mg base 3 "tell_places" ["plant","quantity"] (spCall1 C .places):=by
  refine D.ok sc_tell_places bi_tell_places (fun vs H Q E h=>?_) (fun fa cdv A outer s H vs Q E hr h=>?_)
  · obtain ⟨p,x,h,rfl,_⟩:=h
    rfl
  · obtain ⟨p,i,⟨⟨ms,rs⟩,now⟩,rfl,hp,k⟩:=h
    have hp:Pl C H p ms rs now:=hp
    obtain ⟨dx,am,ar,af,ac,h1,h2,h3,h4,h5⟩:=hp.ex
    refine⟨_,(pss_cons (ps_if (pt_not (pt_val (pe_fn G_has_quantity (hr.mono (by decide)) rfl (pa_cons (pv 0) (pa_cons (pv 1) pa_nil))))) (pss_one (ps_ret (pe_lst (pa_cons (pe_gint T.NO_SUCH rfl) pa_nil)))) pss_nil)
      (pss_cons (ps_set (i:=2) sc_tell_places.nd rfl (Or.inl rfl) (pe_fn G_list_places (hr.mono (by decide)) rfl (pa_cons (pe_fld (pv 0) (by rfl)) (pa_cons (pv 1) pa_nil))))
      (pss_one (ps_ret (pe_op op_cat (pe_lst (pa_cons (pe_callB call_len_seq (by rfl) T.len PySem.boot_len (pa_cons (pv 2) pa_nil)) pa_nil)) (pv 2)))))),?_⟩
    have e:=act_places ms rs now i
    unfold refuse2 at e
    refine⟨_,rfl,_,rfl,p,i,ms,rs,now,rfl,hp,_,rfl,ite_nb (fun c=>?_) (fun c=>?_)⟩
    · have c':decide (ms.length<=i)=true:=by
        have:=of_decide_eq_false c
        exact decide_eq_true (by omega)
      rw [if_pos c'] at e
      exact gives_one (k.say e) (Keep.refl p H) h1 fun H' s'=>hp.same s'
    · have hi:i<ms.length:=of_decide_eq_true c
      have c':¬ decide (ms.length<=i)=true:=by
        intro z
        have:=of_decide_eq_true z
        omega
      rw [if_neg c'] at e
      have k2:GivesW H Q (listI (plc ms i now)):=(k.tell e).ways fun H' s'=>hp.same s'
      have hm3:ms.getD i 0<=3:=hp.mo.2 _ (List.mem_of_getElem? (getD_get hi))
      have hpl:(plc ms i now).length<=1000:=by
        refine Nat.le_trans (List.length_filter_le _ _) ?_
        rw [List.length_range]
        omega
      refine⟨_,rfl,p,C,dx,_,_,rfl,h1,U.cl,U.nC,pf_c,_,rfl,ac,i,ms,now,rfl,hp.mo,h5,fun s hs=>(fit_mem.mp (hp.nw s hs)).1,hp.nl,hi,fun H1 q hq s1 l1=>?_⟩
      exact⟨_,rfl,q,_,rfl,.inl (SqL.of l1),(counted k2 s1 l1 hpl).1,fun r hr=>⟨_,rfl,(counted k2 s1 l1 hpl).2 r hr⟩⟩
theorem ok_tell_state (T:Top K mg) (U:PC K C) (D:DefAt K mg "tell_state" s_tell_state):OkF P w K mg base 1 "tell_state" ["plant"] (spCall0 C .state):=by
  refine D.ok sc_tell_state bi_tell_state (fun vs H Q E h=>?_) (fun fa cdv A outer s H vs Q E hr h=>?_)
  · obtain ⟨p,h,rfl,_⟩:=h
    rfl
  · obtain ⟨p,⟨⟨ms,rs⟩,now⟩,rfl,hp,k⟩:=h
    have hp:Pl C H p ms rs now:=hp
    obtain ⟨dx,am,ar,af,ac,h1,h2,h3,h4,h5⟩:=hp.ex
    obtain ⟨rr,r1,r2,r3,r4⟩:=h3.sq (K:=K)
    obtain ⟨as,a1,a2,a3,a4⟩:=h4.sq (K:=K)
    obtain ⟨cs,c1,c2,c3,c4⟩:=h5.sq (K:=K)
    refine⟨_,(pss_one (ps_ret (pe_op op_cat (pe_lst (pa_cons (pe_callB call_len_seq (by rfl) T.len PySem.boot_len (pa_cons (pe_fld (pv 0) (by rfl)) pa_nil)) (pa_cons (pe_callB call_len_seq (by rfl) T.len PySem.boot_len (pa_cons (pe_fld (pv 0) (by rfl)) pa_nil)) (pa_cons (pe_callB call_len_seq (by rfl) T.len PySem.boot_len (pa_cons (pe_fld (pv 0) (by rfl)) pa_nil)) (pa_cons (pe_callB call_len_seq (by rfl) T.len PySem.boot_len (pa_cons (pe_fld (pv 0) (by rfl)) pa_nil)) pa_nil))))) (pe_fld (pv 0) (by rfl))))),?_⟩
    refine⟨_,rfl,p,C,dx,_,_,rfl,h1,U.cl,U.nM,pf_m,am,_,rfl,.inl (SqL.of h2),?_⟩
    refine⟨_,rfl,p,C,dx,_,_,rfl,h1,U.cl,U.nR,pf_r,ar,_,rfl,.inl r1,?_⟩
    refine⟨_,rfl,p,C,dx,_,_,rfl,h1,U.cl,U.nF,pf_f,af,_,rfl,.inl a1,?_⟩
    refine⟨_,rfl,p,C,dx,_,_,rfl,h1,U.cl,U.nC,pf_c,ac,_,rfl,.inl c1,?_⟩
    refine⟨(by show 4<=sizeLine;decide),fun q hq=>?_⟩
    rw [List.length_map,List.length_map,List.length_map,List.length_map,r3,a3,c3]
    have s1:=Same.new (o:=.lst [V.int (ms.length:Nat),V.int (rs.length:Nat),V.int ((fitOf ms rs).length:Nat),V.int (now.length:Nat)]) hq
    refine⟨_,rfl,p,C,dx,_,_,rfl,s1 _ _ h1,U.cl,U.nM,pf_m,q,am,_,_,rfl,rfl,upd_same,s1 _ _ h2,line_le ?_,fun l hl=>?_⟩
    · have:=hp.mo.1
      rw [List.length_map]
      show 4+_<=_
      omega
    · have s2:=Same.upd (o:=.lst ([V.int (ms.length:Nat),V.int (rs.length:Nat),V.int ((fitOf ms rs).length:Nat),V.int (now.length:Nat)]++ms.map fun (n:Nat)=>V.int n)) s1 hl
      refine k.tell (act_state ms rs now) _ l (Keep.of s2) (s1.free hl) (hp.same s2) ?_
      rw [LI,upd_same]
      unfold Kri7.ints
      rw [List.map_cons,List.map_cons,List.map_cons,List.map_cons,List.map_cons,List.map_cons,List.map_cons,List.map_map]
      rfl
end
def sgK:List (Key × V):=[(.inr "ahead",.str "k"),(.inr "later",.str "ik"),(.inr "ever",.str "i"),(.inr "reach",.str ""),(.inr "may",.str "ip"),(.inr "path",.str "ip"),(.inr "must",.str "ip"),(.inr "avoid",.str "ip"),
  (.inr "both",.str "ipip"),(.inr "only",.str "ipip"),(.inr "rest",.str ""),(.inr "stuck",.str ""),(.inr "round_way",.str "")]
inductive Asks:Str->List Nat->Kri7.Call->Str->List Nat->List Nat->List Nat->Prop
  | ahead (a:Nat):Asks "ahead" [a] (.ahead a) "k" [] [] [a]
  | later (a b:Nat):Asks "later" [a,b] (.later a b) "ik" [a] [] [b]
  | ever (a:Nat):Asks "ever" [a] (.ever a) "i" [a] [] []
  | reach:Asks "reach" [] .reach "" [] [] []
  | may (a b:Nat):Asks "may" [a,b] (.may a b) "ip" [a] [b] []
  | path (a b:Nat):Asks "path" [a,b] (.path a b) "ip" [a] [b] []
  | must (a b:Nat):Asks "must" [a,b] (.must a b) "ip" [a] [b] []
  | avoid (a b:Nat):Asks "avoid" [a,b] (.avoid a b) "ip" [a] [b] []
  | both (a b c d:Nat):Asks "both" [a,b,c,d] (.both a b c d) "ipip" [a,c] [b,d] []
  | only (a b c d:Nat):Asks "only" [a,b,c,d] (.only a b c d) "ipip" [a,c] [b,d] []
  | rest:Asks "rest" [] .rest "" [] [] []
  | stuck:Asks "stuck" [] .stuck "" [] [] []
  | round:Asks "round_way" [] .round "" [] [] []
def pick (sg:Str) (ns:List Nat) (c:Nat):List Nat:=((sg.cps.toList.zip ns).filter fun x=>x.1==c).map (·.2)
section
variable {x sg:Str}{ns qs ps ks:List Nat}{k:Kri7.Call}
theorem Asks.sign (h:Asks x ns k sg qs ps ks):valV sgK (.inr x)=some (.str sg):=by
  cases h <;> rfl
theorem Asks.ascii (h:Asks x ns k sg qs ps ks):sg.cps.all (·<128)=true:=by
  cases h <;> decide +kernel
theorem Asks.len (h:Asks x ns k sg qs ps ks):ns.length<=4:=by
  cases h <;> simp
theorem Asks.pq (h:Asks x ns k sg qs ps ks):pick sg ns 105=qs:=by
  cases h <;> rfl
theorem Asks.pp (h:Asks x ns k sg qs ps ks):pick sg ns 112=ps:=by
  cases h <;> rfl
theorem Asks.pk (h:Asks x ns k sg qs ps ks):pick sg ns 107=ks:=by
  cases h <;> rfl
end
def refusal (ms:List Nat) (n:Nat) (qs ps ks:List Nat):Option Int:=
  if qs.any (fun q=>decide (ms.length<=q))=true then some (-2) else if decide (120<n)=true then some (-28) else
  if (qs.zip ps).any (fun x=>decide (2*ms.getD x.1 0<x.2))=true then some (-22) else if ks.any (fun k=>decide (40<k))=true then some (-22) else none
section
variable {ms:List Nat}{rs:List Kri6.Rule}{now:List Kri6.State}{x sg:Str}{ns qs ps ks:List Nat}{k:Kri7.Call}
theorem Asks.stays (h:Asks x ns k sg qs ps ks):(Kri7.act (some ⟨⟨ms,rs⟩,now⟩) k).1=some ⟨⟨ms,rs⟩,now⟩:=by
  cases h <;> rfl
theorem Asks.refused (h:Asks x ns k sg qs ps ks) {r:Int} (e:refusal ms (fitOf ms rs).length qs ps ks=some r):Kri7.act (some ⟨⟨ms,rs⟩,now⟩) k=(some ⟨⟨ms,rs⟩,now⟩,Kri7.say r):=by
  unfold refusal at e
  cases h with
  | ahead a=>
    rw [act_ahead]
    unfold refuse28 refuse22 big
    simp only [List.any_nil,List.any_cons,Bool.or_false,List.zip_nil_left,Bool.false_eq_true,if_false] at e
    split at e
    · rename_i c;rw [if_pos c];cases e;rfl
    · rename_i c
      rw [if_neg c]
      split at e
      · rename_i c2;rw [if_pos c2];cases e;rfl
      · cases e
  | later a b=>
    rw [act_later]
    unfold refuse2 refuse28 refuse22 big
    simp only [List.any_nil,List.any_cons,Bool.or_false,List.zip_nil_right,Bool.false_eq_true,if_false] at e
    split at e
    · rename_i c;rw [if_pos c];cases e;rfl
    · rename_i c
      rw [if_neg c]
      split at e
      · rename_i c2;rw [if_pos c2];cases e;rfl
      · rename_i c2
        rw [if_neg c2]
        split at e
        · rename_i c3;rw [if_pos c3];cases e;rfl
        · cases e
  | ever a=>
    rw [act_ever]
    unfold refuse2 refuse28 big
    simp only [List.any_nil,List.any_cons,Bool.or_false,List.zip_nil_right,Bool.false_eq_true,if_false] at e
    split at e
    · rename_i c;rw [if_pos c];cases e;rfl
    · rename_i c
      rw [if_neg c]
      split at e
      · rename_i c2;rw [if_pos c2];cases e;rfl
      · cases e
  | reach=>
    rw [act_reach]
    unfold refuse28 big
    simp only [List.any_nil,List.zip_nil_right,Bool.false_eq_true,if_false] at e
    split at e
    · rename_i c;rw [if_pos c];cases e;rfl
    · cases e
  | rest=>
    rw [act_rest]
    unfold refuse28 big
    simp only [List.any_nil,List.zip_nil_right,Bool.false_eq_true,if_false] at e
    split at e
    · rename_i c;rw [if_pos c];cases e;rfl
    · cases e
  | stuck=>
    rw [act_stuck]
    unfold refuse28 big
    simp only [List.any_nil,List.zip_nil_right,Bool.false_eq_true,if_false] at e
    split at e
    · rename_i c;rw [if_pos c];cases e;rfl
    · cases e
  | round=>
    rw [act_round]
    unfold refuse28 big
    simp only [List.any_nil,List.zip_nil_right,Bool.false_eq_true,if_false] at e
    split at e
    · rename_i c;rw [if_pos c];cases e;rfl
    · cases e
  | may a b=>
    rw [act_may]
    unfold refuse2 refuse28 refuse22 big noPl
    simp only [List.any_nil,List.any_cons,Bool.or_false,List.zip_cons_cons,List.zip_nil_right,Bool.false_eq_true,if_false] at e
    split at e
    · rename_i c;rw [if_pos c];cases e;rfl
    · rename_i c
      rw [if_neg c]
      split at e
      · rename_i c2;rw [if_pos c2];cases e;rfl
      · rename_i c2
        rw [if_neg c2]
        split at e
        · rename_i c3;rw [if_pos c3];cases e;rfl
        · cases e
  | path a b=>
    rw [act_path]
    unfold refuse2 refuse28 refuse22 big noPl
    simp only [List.any_nil,List.any_cons,Bool.or_false,List.zip_cons_cons,List.zip_nil_right,Bool.false_eq_true,if_false] at e
    split at e
    · rename_i c;rw [if_pos c];cases e;rfl
    · rename_i c
      rw [if_neg c]
      split at e
      · rename_i c2;rw [if_pos c2];cases e;rfl
      · rename_i c2
        rw [if_neg c2]
        split at e
        · rename_i c3;rw [if_pos c3];cases e;rfl
        · cases e
  | must a b=>
    rw [act_must]
    unfold refuse2 refuse28 refuse22 big noPl
    simp only [List.any_nil,List.any_cons,Bool.or_false,List.zip_cons_cons,List.zip_nil_right,Bool.false_eq_true,if_false] at e
    split at e
    · rename_i c;rw [if_pos c];cases e;rfl
    · rename_i c
      rw [if_neg c]
      split at e
      · rename_i c2;rw [if_pos c2];cases e;rfl
      · rename_i c2
        rw [if_neg c2]
        split at e
        · rename_i c3;rw [if_pos c3];cases e;rfl
        · cases e
  | avoid a b=>
    rw [act_avoid]
    unfold refuse2 refuse28 refuse22 big noPl
    simp only [List.any_nil,List.any_cons,Bool.or_false,List.zip_cons_cons,List.zip_nil_right,Bool.false_eq_true,if_false] at e
    split at e
    · rename_i c;rw [if_pos c];cases e;rfl
    · rename_i c
      rw [if_neg c]
      split at e
      · rename_i c2;rw [if_pos c2];cases e;rfl
      · rename_i c2
        rw [if_neg c2]
        split at e
        · rename_i c3;rw [if_pos c3];cases e;rfl
        · cases e
  | both a b c d=>
    rw [act_both]
    unfold refuse28 refuse22 big noPl
    simp only [List.any_nil,List.any_cons,Bool.or_false,List.zip_cons_cons,List.zip_nil_right,Bool.false_eq_true,if_false] at e
    split at e
    · rename_i c;rw [if_pos c];cases e;rfl
    · rename_i c
      rw [if_neg c]
      split at e
      · rename_i c2;rw [if_pos c2];cases e;rfl
      · rename_i c2
        rw [if_neg c2]
        split at e
        · rename_i c3;rw [if_pos c3];cases e;rfl
        · cases e
  | only a b c d=>
    rw [act_only]
    unfold refuse28 refuse22 big noPl
    simp only [List.any_nil,List.any_cons,Bool.or_false,List.zip_cons_cons,List.zip_nil_right,Bool.false_eq_true,if_false] at e
    split at e
    · rename_i c;rw [if_pos c];cases e;rfl
    · rename_i c
      rw [if_neg c]
      split at e
      · rename_i c2;rw [if_pos c2];cases e;rfl
      · rename_i c2
        rw [if_neg c2]
        split at e
        · rename_i c3;rw [if_pos c3];cases e;rfl
        · cases e
theorem not_refused (e:refusal ms (fitOf ms rs).length qs ps ks=none):(∀ q∈qs,q<ms.length)/\(fitOf ms rs).length<=120/\(∀ x∈qs.zip ps,¬ 2*ms.getD x.1 0<x.2)/\∀ k∈ks,k<=40:=by
  unfold refusal at e
  split at e
  · cases e
  · rename_i c1
    split at e
    · cases e
    · rename_i c2
      split at e
      · cases e
      · rename_i c3
        split at e
        · cases e
        · rename_i c4
          refine⟨fun q hq=>?_,?_,fun y hy z=>c3 (List.any_eq_true.mpr ⟨y,hy,decide_eq_true z⟩),fun q hq=>?_⟩
          · refine Nat.lt_of_not_le fun z=>c1 (List.any_eq_true.mpr ⟨q,hq,decide_eq_true z⟩)
          · refine Nat.le_of_not_lt fun z=>c2 (decide_eq_true z)
          · refine Nat.le_of_not_lt fun z=>c4 (List.any_eq_true.mpr ⟨q,hq,decide_eq_true z⟩)
def dueW (g:Kri7.Graph) (l:List Nat) (ms:List Nat):Kri7.Call->List Int
  | .ahead k=>[((g.after k l).length:Int)]
  | .later i k=>listI (g.places i (2*ms.getD i 0+1) (g.after k l))
  | .ever i=>listI (g.places i (2*ms.getD i 0+1) (g.ever l))
  | .reach=>[((g.ever l).length:Int)]
  | .may i p=>[optI (g.soonest l (g.isAt i p))]
  | .path i p=>pathI g l (g.isAt i p)
  | .must i p=>[optI (g.surely l (g.isAt i p))]
  | .avoid i p=>[avoidI g l (g.isAt i p)]
  | .both i p u q=>[optI (g.soonest l fun s=>g.isAt i p s&&g.isAt u q s)]
  | .only i p u q=>[optI (g.without l (g.isAt u q) (g.isAt i p))]
  | .rest=>[optI (g.soonest l fun s=>Kri6.steady (g.nth s))]
  | .stuck=>[optI (g.soonest l fun s=>(g.of s).isEmpty)]
  | .round=>[optI (Kri7.least ((g.ever l).filterMap fun s=>g.round s))]
  | _=>[]
theorem opt_told (o:Option Nat):Kri7Neutral.told (Kri7.opt o)=[optI o]:=by
  cases o <;> rfl
theorem Asks.due (h:Asks x ns k sg qs ps ks) (e:refusal ms (fitOf ms rs).length qs ps ks=none):Kri7Neutral.told (Kri7.act (some ⟨⟨ms,rs⟩,now⟩) k).2=dueW (gr ms rs now) (ixs ms rs now) ms k:=by
  obtain ⟨h1,h2,h3,h4⟩:=not_refused e
  have r28:∀ y,refuse28 ms rs y=y:=fun y=>by
    unfold refuse28 big
    rw [if_neg (by rw [decide_eq_true_iff];omega)]
  have r2:∀ i y,i∈qs->refuse2 ms i y=y:=fun i y hi=>by
    unfold refuse2
    rw [if_neg (by rw [decide_eq_true_iff];have:=h1 i hi;omega)]
  have r40:∀ k y,k∈ks->refuse22 (decide (40<k)) y=y:=fun k y hk=>by
    unfold refuse22
    rw [if_neg (by rw [decide_eq_true_iff];have:=h4 k hk;omega)]
  have r22:∀ i p y,(i,p)∈qs.zip ps->refuse22 (noPl ms i p) y=y:=fun i p y hip=>by
    unfold refuse22 noPl
    rw [if_neg (by rw [decide_eq_true_iff];exact h3 (i,p) hip)]
  cases h with
  | ahead a=>rw [act_ahead];show Kri7Neutral.told (refuse28 ms rs _)=_;rw [r28,r40 a _ (by simp)];rfl
  | later a b=>rw [act_later];show Kri7Neutral.told (refuse2 ms a _)=_;rw [r2 a _ (by simp),r28,r40 b _ (by simp)];rfl
  | ever a=>rw [act_ever];show Kri7Neutral.told (refuse2 ms a _)=_;rw [r2 a _ (by simp),r28];rfl
  | reach=>rw [act_reach];show Kri7Neutral.told (refuse28 ms rs _)=_;rw [r28];rfl
  | may a b=>rw [act_may];show Kri7Neutral.told (refuse2 ms a _)=_;rw [r2 a _ (by simp),r28,r22 a b _ (by simp),opt_told,<- isAt_eq ms rs now];rfl
  | path a b=>
    rw [act_path]
    show Kri7Neutral.told (refuse2 ms a _)=pathI _ _ _
    rw [r2 a _ (by simp),r28,r22 a b _ (by simp),<- isAt_eq ms rs now]
    unfold pathI
    cases (gr ms rs now).soonest (ixs ms rs now) ((gr ms rs now).isAt a b) with
    | none=>rfl
    | some kk=>
      cases e2:(ixs ms rs now).find? fun s=>(gr ms rs now).soonest [s] ((gr ms rs now).isAt a b)==some kk with
      | none=>simp only [e2];rfl
      | some s=>simp only [e2];rfl
  | must a b=>rw [act_must];show Kri7Neutral.told (refuse2 ms a _)=_;rw [r2 a _ (by simp),r28,r22 a b _ (by simp),opt_told,<- isAt_eq ms rs now];rfl
  | avoid a b=>
    rw [act_avoid]
    show Kri7Neutral.told (refuse2 ms a _)=[avoidI _ _ _]
    rw [r2 a _ (by simp),r28,r22 a b _ (by simp)]
    unfold avoidI
    rw [isAt_eq ms rs now]
    rfl
  | both a b c d=>
    rw [act_both]
    show Kri7Neutral.told (if _ then _ else _)=[optI _]
    have q1:=h1 a (by simp)
    have q2:=h1 c (by simp)
    have q3:¬ 2*ms.getD a 0<b:=h3 (a,b) (by simp)
    have q4:¬ 2*ms.getD c 0<d:=h3 (c,d) (by simp)
    rw [if_neg (by rw [Bool.or_eq_true,decide_eq_true_iff,decide_eq_true_iff];omega),r28]
    unfold refuse22 noPl
    rw [if_neg (by rw [Bool.or_eq_true,decide_eq_true_iff,decide_eq_true_iff];omega),opt_told,isAt_eq ms rs now,isAt_eq ms rs now]
  | only a b c d=>
    rw [act_only]
    show Kri7Neutral.told (if _ then _ else _)=[optI _]
    have q1:=h1 a (by simp)
    have q2:=h1 c (by simp)
    have q3:¬ 2*ms.getD a 0<b:=h3 (a,b) (by simp)
    have q4:¬ 2*ms.getD c 0<d:=h3 (c,d) (by simp)
    rw [if_neg (by rw [Bool.or_eq_true,decide_eq_true_iff,decide_eq_true_iff];omega),r28]
    unfold refuse22 noPl
    rw [if_neg (by rw [Bool.or_eq_true,decide_eq_true_iff,decide_eq_true_iff];omega),opt_told,isAt_eq ms rs now,isAt_eq ms rs now]
  | rest=>
    rw [act_rest]
    show Kri7Neutral.told (refuse28 ms rs _)=[optI _]
    rw [r28,opt_told]
    have e:(fun j=>Kri6.steady (stt ms rs j))=fun j=>Kri6.steady ((gr ms rs now).nth j):=funext fun j=>by rw [gr_nth]
    rw [e]
  | stuck=>rw [act_stuck];show Kri7Neutral.told (refuse28 ms rs _)=_;rw [r28,opt_told];rfl
  | round=>rw [act_round];show Kri7Neutral.told (refuse28 ms rs _)=_;rw [r28,opt_told];rfl
end
theorem gr_is (ms:List Nat) (rs:List Kri6.Rule) (now:List Kri6.State):(⟨fitOf ms rs,(fitOf ms rs).map (flw ms (fitOf ms rs))⟩:Kri7.Graph)=gr ms rs now:=by
  have e1:=gr_st ms rs now
  have e2:(gr ms rs now).out=(fitOf ms rs).map (flw ms (fitOf ms rs)):=by
    refine List.ext_getElem? fun j=>?_
    have hl:(gr ms rs now).out.length=(fitOf ms rs).length:=by
      show ((Kri6.Net.states ⟨ms,rs⟩).map _).length=_
      rw [List.length_map,states_eq]
    by_cases hj:j<(fitOf ms rs).length
    · rw [of_at (by rw [hl];exact hj),List.getElem?_map,st_at hj,gr_of ms rs now hj]
      rfl
    · rw [List.getElem?_eq_none (by omega),List.getElem?_eq_none (by rw [List.length_map];omega)]
  have e3:gr ms rs now=⟨(gr ms rs now).st,(gr ms rs now).out⟩:=rfl
  rw [e3,e1,e2]
theorem gr_ok {ms:List Nat}{rs:List Kri6.Rule}{now:List Kri6.State} (hm:MOk ms) (hle:(fitOf ms rs).length<=120):GOk ms (gr ms rs now) (ixs ms rs now) where
  mo:=hm
  st:=fun s hs=>by rw [gr_st] at hs;exact (fit_mem.mp hs).1
  le:=by rw [gr_st];exact hle
  ol:=by
    rw [gr_st]
    show ((Kri6.Net.states ⟨ms,rs⟩).map _).length=_
    rw [List.length_map,states_eq]
  wf:=gr_wf ms rs now
  sr:=fun s=>by
    by_cases h:s<(fitOf ms rs).length
    · rw [gr_of ms rs now h]
      exact List.pairwise_lt_range.sublist List.filter_sublist
    · rw [gr_out ms rs now (by omega)]
      exact .nil
  nd:=ixs_nodup now
  lt:=ixs_lt now
theorem pg_tupK {X:Cx}{K:PySem.W.Frag} (hK:X.K=K) {es:List Expr}{k:Nat}{t:TGs}{n:Nat}{pos:Pos} (hc:X.calm=true) (h:PGs X es t)
    (hn:(assignEach es X.env).length=n:=by rfl) (hst:(assignEach es X.env).findIdx? (·.1)=none:=by rfl):PG X (.Tuple es k pos) (gTup K n t):=by
  subst hK
  exact pg_tup hc h hn hst
theorem lc_zs {K:PySem.W.Frag}{x:Str}{b:Addr}{ys:List V}{g:TG}{tt:TT}{te:TE}{vs:List Nat}{σ:L2.St}{H1:Hp}{D:Addr}{Qd:Hp->Prop} (Pv:Nat->Hp->Prop) (h0:Pv 0 (L2.upd H1 D (.lst []))) (hl:∀ i H,Pv i H->SqL K H b ys)
    (hs:∀ (i c:Nat) (y:V) (T:Addr) (H:Hp),x.cps[i]?=some c->ys[i]?=some y->Pv i H->H T=none->g (.ref T) (wipe σ vs) (L2.upd H T (.tup [.str ⟨#[c]⟩,y])) fun σ2 H2=>wipe σ2 vs=wipe σ vs/\tt σ2 H2 fun b H3=>
      if b=true then te σ2 H3 fun y H4=>∃ acc,H4 D=some (.lst acc)/\acc.length<sizeLine/\Pv (i+1) (L2.upd H4 D (.lst (acc++[y]))) else Pv (i+1) H3)
    (hd:∀ (i:Nat) (H:Hp),(x.cps.size<=i \/ ys.length<=i)->i<=x.cps.size->i<=ys.length->Pv i H->Qd H) :
    ∃ W:Nat->Nat->Hp->Prop,(∃ m,W 0 m (L2.upd H1 D (.lst [])))/\∀ i m H,W i m H ->
      ((SX.Itzs K x b).stop i H/\Qd H) \/ ((SX.Itzs K x b).go i H/\∃ Nx:Hp->Prop,(∀ H',Nx H'->∃ m',m'<m/\W (i+1) m' H')/\∀ v H',(SX.Itzs K x b).yld i H v H'->g v (wipe σ vs) H' fun σ2 H2=>wipe σ2 vs=wipe σ vs/\tt σ2 H2 fun b H3=>
        if b=true then te σ2 H3 fun y H4=>∃ acc,H4 D=some (.lst acc)/\acc.length<sizeLine/\Nx (L2.upd H4 D (.lst (acc++[y]))) else Nx H3):=by
  refine⟨fun i m H=>m=ys.length - i/\i<=x.cps.size/\i<=ys.length/\Pv i H,⟨ys.length,by simp,Nat.zero_le _,Nat.zero_le _,h0⟩,?_⟩
  rintro i m H ⟨rfl,hi,hj,p⟩
  have q:=hl i H p
  by_cases hlt:i<x.cps.size/\i<ys.length
  · obtain ⟨l1,l2⟩:=hlt
    refine .inr ⟨⟨x.cps[i],ys,ys[i],by simp [l1],q,by simp [l2]⟩,Pv (i+1),fun H' p'=>⟨ys.length - (i+1),by omega,rfl,l1,l2,p'⟩,?_⟩
    rintro v H' ⟨T,c,y,rfl,hT,rfl,e1,e2⟩
    exact hs i c y T H e1 (e2 ys q) p hT
  · have e:x.cps.size<=i \/ ys.length<=i:=by omega
    exact .inl ⟨⟨ys,q,e⟩,hd i H e hi hj p⟩
theorem zip_take_end {α β:Type}{l:List α}{m:List β}{i:Nat} (h:l.length<=i \/ m.length<=i):(l.zip m).take i=l.zip m:=by
  refine List.take_of_length_le ?_
  rw [List.length_zip]
  omega
theorem zip_at {α β:Type}{l:List α}{m:List β}{i:Nat}{a:α}{b:β} (h1:l[i]?=some a) (h2:m[i]?=some b):(l.zip m)[i]?=some (a,b):=by
  rw [List.getElem?_zip_eq_some]
  exact⟨h1,h2⟩
section
variable {P:Program}{w:World}{K:PySem.W.Frag}{mg:Str->Option Value}{base:Heap}{C CW aG:Addr}
def spSign:L2.Sp:=fun vs H Q _=>∃ (x sg:Str) (b:Addr) (ns:List Nat) (c:Nat),vs=[.str x,.ref b,.str ⟨#[c]⟩]/\LN H b ns/\ns.length<=1000/\valV sgK (.inr x)=some (.str sg)/\sg.cps.all (·<128)=true /\
  ∀ (H':Hp) (q:Addr),H q=none->Same H H'->LN H' q (pick sg ns c)->Q (.ref q) H'
theorem ok_numbers_by_sign (T:Top K mg) (g_SIGNS:mg "SIGNS"=some (.ref aG)) (hG:SX.DTop P w K aG sgK) (D:DefAt K mg "numbers_by_sign" s_numbers_by_sign):OkF P w K mg base 1 "numbers_by_sign" ["name","given","wanted"] spSign:=by
  refine D.ok sc_numbers_by_sign bi_numbers_by_sign (fun vs H Q E h=>?_) (fun f cdv A outer s H vs Q E hr h=>?_)
  · obtain ⟨x,sg,b,ns,c,rfl,_⟩:=h
    rfl
  · obtain ⟨x,sg,b,ns,c,rfl,hb,hlen,hsg,hasc,k⟩:=h
    refine⟨_,(pss_one (ps_ret (pe_lc rfl sc_numbers_by_sign.nd (SX.pi_zs rfl T.zip (pa_cons (SX.pe_dtop (pe_glob (v:=.ref _) rfl g_SIGNS rfl) (pv 0) (fun _ _=>rfl)) (pa_cons (pv 1) pa_nil))) (blkOk_by (own:=[("sign",3),("number",4)]) (by show blkC ["name","given","wanted","sign","number"] (defScope s_numbers_by_sign) _ _=true;decide +kernel)) (fun _ _ _ _ _=>(pg_tupK (K:=K) (n:=2) rfl rfl (pgs_cons (pg_name (i:=3) sc_numbers_by_sign.nd rfl (Or.inl rfl)) (pgs_cons (pg_name (i:=4) sc_numbers_by_sign.nd rfl (Or.inl rfl)) pgs_nil)))) (fun _ _ _ _ _=>(pts_one (pt_cmpR op_eq (pv 3) (pv 2) (nomark _)))) (fun _ _ _ _ _=>(pv 4))))),?_⟩
    refine⟨_,rfl,aG,sgK,.inr x,_,rfl,hG,rfl,hsg,_,rfl,sg,b,_,rfl,hasc,SqL.of hb,fun Dl hDl=>?_⟩
    refine lc_zs (K:=K) (ys:=ns.map fun (n:Nat)=>V.int n) (fun j H'=>Same H H'/\LN H' Dl ((((sg.cps.toList.zip ns).take j).filter fun x=>x.1==c).map (·.2))) ⟨Same.new hDl,upd_same⟩ (fun j H' h=>SqL.of (h.1 _ _ hb)) ?_ ?_
    · rintro j cc y T' H1 hc hy ⟨s1,l1⟩ hT'
      obtain ⟨n,hn,rfl⟩:=nats_at hy
      have hz:(sg.cps.toList.zip ns)[j]?=some (cc,n):=zip_at (by rw [Array.getElem?_toList];exact hc) hn
      have s2:=Same.new (o:=.tup [.str ⟨#[cc]⟩,.int (n:Int)]) hT'
      refine⟨T',_,rfl,SqT.of upd_same,rfl,_,_,rfl,_,_,rfl,rfl,rfl,?_⟩
      refine⟨_,rfl,_,rfl,rfl,_,rfl,ite_ss (fun e=>?_) (fun e=>?_)⟩
      · have ec:cc=c:=by
          have:=congrArg (fun z:Str=>z.cps[0]?) e
          simpa using this
        refine⟨_,rfl,_,s2 _ _ l1,line_lt ?_,Same.put (s1.trans s2) hDl,?_⟩
        · rw [List.length_map,List.length_map]
          have q1:(((sg.cps.toList.zip ns).take j).filter fun x=>x.1==c).length<=((sg.cps.toList.zip ns).take j).length:=List.length_filter_le _ _
          rw [List.length_take,List.length_zip] at q1
          omega
        · rw [take_snoc hz,List.filter_append,List.map_append]
          have e2:[(cc,n)].filter (fun x=>x.1==c)=[(cc,n)]:=by simp [ec]
          rw [e2]
          exact LN.app
      · refine⟨s1.trans s2,?_⟩
        rw [take_snoc hz,List.filter_append,List.map_append]
        have e2:[(cc,n)].filter (fun x=>x.1==c)=[]:=by
          have:¬ cc=c:=fun z=>e (by rw [z])
          simp [this]
        rw [e2,List.map_nil,List.append_nil]
        exact s2 _ _ l1
    · rintro j H1 he _ _ ⟨s1,l1⟩
      rw [List.length_map] at he
      rw [zip_take_end (by rw [Array.length_toList];exact he)] at l1
      exact k H1 Dl hDl s1 l1
def refV:Option Int->V
  | none=>.non
  | some r=>.int r
def spRef (C:Addr):L2.Sp:=fun vs H Q _=>∃ (p b:Addr) (x sg:Str) (ns:List Nat) (ms:List Nat) (rs:List Kri6.Rule) (now:List Kri6.State),vs=[.ref p,.str x,.ref b]/\Pl C H p ms rs now/\LN H b ns/\ns.length<=1000/\valV sgK (.inr x)=some (.str sg)/\sg.cps.all (·<128)=true /\
  ∀ H',Same H H'->Q (refV (refusal ms (fitOf ms rs).length (pick sg ns 105) (pick sg ns 112) (pick sg ns 107))) H'
theorem any_take {α:Type}{l:List α}{f:α->Bool}{i:Nat}{a:α} (h:l[i]?=some a) (h1:(l.take i).any f=false):(l.take (i+1)).any f=f a:=by
  rw [take_snoc h,List.any_append,h1]
  simp
theorem ok_find_refusal (T:Top K mg) (U:PC K C) (D:DefAt K mg "find_refusal" s_find_refusal) (G_numbers_by_sign:OkF P w K mg base 1 "numbers_by_sign" ["name","given","wanted"] spSign) (G_has_quantity:OkF P w K mg base 1 "has_quantity" ["plant","quantity"] (spHasQ C))
    (G_too_many_fit:OkF P w K mg base 1 "too_many_fit" ["plant"] (spBig C)) (G_has_place:OkF P w K mg base 2 "has_place" ["plant","quantity","place"] (spHasP C)):OkF P w K mg base 3 "find_refusal" ["plant","name","given"] (spRef C):=by
  refine D.ok sc_find_refusal bi_find_refusal (fun vs H Q E h=>?_) (fun f cdv A outer s H vs Q E hr h=>?_)
  · obtain ⟨p,b,x,sg,ns,ms,rs,now,rfl,_⟩:=h
    rfl
  · obtain ⟨p,b,x,sg,ns,ms,rs,now,rfl,hp,hb,hlen,hsg,hasc,k⟩:=h
    refine⟨_,(pss_cons (ps_set (i:=3) sc_find_refusal.nd rfl (Or.inl rfl) (pe_fn G_numbers_by_sign (hr.mono (by decide)) rfl (pa_cons (pv 1) (pa_cons (pv 2) (pa_cons pe_str pa_nil)))))
      (pss_cons (ps_for PassesOwn.never rfl (pi_list (pv 3)) (pg_name (i:=4) sc_find_refusal.nd rfl (Or.inl rfl))
        (pss_one (ps_if (pt_not (pt_val (pe_fn G_has_quantity (hr.mono (by decide)) rfl (pa_cons (pv 0) (pa_cons (pv 4) pa_nil))))) (pss_one (ps_ret (pe_gint T.NO_SUCH rfl))) pss_nil)))
      (pss_cons (ps_if (pt_val (pe_fn G_too_many_fit (hr.mono (by decide)) rfl (pa_cons (pv 0) pa_nil))) (pss_one (ps_ret (pe_gint T.TOO_MANY rfl))) pss_nil)
      (pss_cons (ps_for PassesOwn.never rfl (pi_zip rfl T.zip (pa_cons (pv 3) (pa_cons (pe_fn G_numbers_by_sign (hr.mono (by decide)) rfl (pa_cons (pv 1) (pa_cons (pv 2) (pa_cons pe_str pa_nil)))) pa_nil))) (pg_tup rfl (pgs_cons (pg_name (i:=4) sc_find_refusal.nd rfl (Or.inl rfl)) (pgs_cons (pg_name (i:=5) sc_find_refusal.nd rfl (Or.inl rfl)) pgs_nil)))
        (pss_one (ps_if (pt_not (pt_val (pe_fn G_has_place (hr.mono (by decide)) rfl (pa_cons (pv 0) (pa_cons (pv 4) (pa_cons (pv 5) pa_nil)))))) (pss_one (ps_ret (pe_gint T.NOT_RIGHT rfl))) pss_nil)))
      (pss_cons (ps_for PassesOwn.never rfl (pi_list (pe_fn G_numbers_by_sign (hr.mono (by decide)) rfl (pa_cons (pv 1) (pa_cons (pv 2) (pa_cons pe_str pa_nil))))) (pg_name (i:=6) sc_find_refusal.nd rfl (Or.inl rfl))
        (pss_one (ps_if (pt_cmpR op_gt (pv 6) (pe_gint T.MOST_MOMENTS rfl) (nomark _)) (pss_one (ps_ret (pe_gint T.NOT_RIGHT rfl))) pss_nil)))
      (pss_one (ps_ret pe_non))))))),?_⟩
    refine⟨_,rfl,_,rfl,x,sg,b,ns,105,rfl,hb,hlen,hsg,hasc,fun H1 q hq s1 l1=>?_⟩
    generalize pick sg ns 105=qs at l1 k
    refine⟨_,rfl,q,rfl,⟨_,SqL.of l1⟩,?_⟩
    refine for_list (K:=K) (a:=q) (xs:=qs.map fun (n:Nat)=>V.int n) (fun i σ H'=>∃ v4:Option V,σ=[some (.ref p),some (.str x),some (.ref b),some (.ref q),v4,none,none]/\H'=H1/\(qs.take i).any (fun q=>decide (ms.length<=q))=false) ⟨none,rfl,rfl,rfl⟩ (fun i σ H' _ ⟨_,_,e,_⟩=>by rw [e];exact SqL.of l1) ?_ ?_
    · rintro i y σ H' hi ⟨v4,rfl,rfl,hn⟩
      obtain ⟨n,hni,rfl⟩:=nats_at hi
      refine⟨_,rfl,_,rfl,p,n,ms,rs,now,rfl,hp.same s1,_,rfl,ite_nb (fun c=>?_) (fun c=>?_)⟩
      · have e:refusal ms (fitOf ms rs).length qs (pick sg ns 112) (pick sg ns 107)=some (-2):=by
          unfold refusal
          rw [if_pos]
          have:=of_decide_eq_false c
          exact List.any_eq_true.mpr ⟨n,List.mem_of_getElem? hni,decide_eq_true (by omega)⟩
        have k:=k _ s1
        rw [e] at k
        exact k
      · refine⟨_,rfl,rfl,?_⟩
        rw [any_take hni hn]
        have:=of_decide_eq_true c
        exact decide_eq_false (by omega)
    · rintro σ H' ⟨v4,rfl,rfl,hn⟩
      rw [List.length_map,List.take_length] at hn
      have hq1:∀ n∈qs,n<ms.length:=fun n hm=>Nat.lt_of_not_le fun z=>by
        have:=List.any_eq_false.mp hn n hm
        exact this (decide_eq_true z)
      refine⟨_,rfl,p,ms,rs,now,rfl,hp.same s1,_,rfl,ite_b (fun c=>?_) (fun c=>?_)⟩
      · have e:refusal ms (fitOf ms rs).length qs (pick sg ns 112) (pick sg ns 107)=some (-28):=by
          unfold refusal
          rw [if_neg (by rw [hn];exact Bool.false_ne_true),if_pos c]
        have k:=k _ s1
        rw [e] at k
        exact k
      · refine⟨_,rfl,_,rfl,_,rfl,x,sg,b,ns,112,rfl,s1 _ _ hb,hlen,hsg,hasc,fun H2 r hr2 s2 l2=>?_⟩
        generalize pick sg ns 112=ps at l2 k
        have s12:=s1.trans s2
        refine⟨q,r,_,_,rfl,SqL.of (s2 _ _ l1),SqL.of l2,?_⟩
        refine SX.for_zip (K:=K) (a:=q) (b:=r) (xs:=qs.map fun (n:Nat)=>V.int n) (ys:=ps.map fun (n:Nat)=>V.int n) (fun i σ H'=>∃ v4 v5:Option V,σ=[some (.ref p),some (.str x),some (.ref b),some (.ref q),v4,v5,none]/\Same H2 H'/\((qs.zip ps).take i).any (fun x=>decide (2*ms.getD x.1 0<x.2))=false)
          ⟨_,_,rfl,Same.refl H2,rfl⟩ (fun i σ H' ⟨_,_,_,s3,_⟩=>⟨SqL.of (s3 _ _ (s2 _ _ l1)),SqL.of (s3 _ _ l2)⟩) ?_ ?_
        · rintro i y z T' σ H' hi hj ⟨v4,v5,rfl,s3,hz⟩ hT'
          obtain ⟨n,hni,rfl⟩:=nats_at hi
          obtain ⟨m,hmj,rfl⟩:=nats_at hj
          have s4:=Same.new (o:=.tup [.int (n:Int),.int (m:Int)]) hT'
          have hat:(qs.zip ps)[i]?=some (n,m):=zip_at hni hmj
          refine⟨T',_,rfl,SqT.of upd_same,rfl,_,_,rfl,_,_,rfl,rfl,?_⟩
          refine⟨_,rfl,_,rfl,_,rfl,p,n,m,ms,rs,now,rfl,hp.same (s12.trans (s3.trans s4)),hq1 n (List.mem_of_getElem? hni),_,rfl,ite_nb (fun c2=>?_) (fun c2=>?_)⟩
          · have e:refusal ms (fitOf ms rs).length qs ps (pick sg ns 107)=some (-22):=by
              unfold refusal
              rw [if_neg (by rw [hn];exact Bool.false_ne_true),if_neg (by rw [c];exact Bool.false_ne_true),if_pos]
              exact List.any_eq_true.mpr ⟨(n,m),List.mem_of_getElem? hat,by simpa using c2⟩
            have k:=k _ (s12.trans (s3.trans s4))
            rw [e] at k
            exact k
          · refine⟨_,_,rfl,s3.trans s4,?_⟩
            rw [any_take hat hz]
            simpa using c2
        · rintro i σ H' he _ _ ⟨v4,v5,rfl,s3,hz⟩
          rw [List.length_map,List.length_map] at he
          rw [zip_take_end he] at hz
          have s13:=s12.trans s3
          refine⟨_,rfl,_,rfl,x,sg,b,ns,107,rfl,s13 _ _ hb,hlen,hsg,hasc,fun H3 t ht s4 l4=>?_⟩
          generalize pick sg ns 107=ks at l4 k
          have s14:=s13.trans s4
          refine⟨t,rfl,⟨_,SqL.of l4⟩,?_⟩
          refine for_list (K:=K) (a:=t) (xs:=ks.map fun (n:Nat)=>V.int n) (fun i σ H'=>∃ v4 v5 v6:Option V,σ=[some (.ref p),some (.str x),some (.ref b),some (.ref q),v4,v5,v6]/\H'=H3/\(ks.take i).any (fun k=>decide (40<k))=false) ⟨_,_,none,rfl,rfl,rfl⟩ (fun i σ H' _ ⟨_,_,_,_,e,_⟩=>by rw [e];exact SqL.of l4) ?_ ?_
          · rintro i y σ H' hi ⟨v4,v5,v6,rfl,rfl,hk⟩
            obtain ⟨n,hni,rfl⟩:=nats_at hi
            refine⟨_,rfl,_,_,rfl,rfl,_,rfl,ite_dec (fun c2=>?_) (fun c2=>?_)⟩
            · have e:refusal ms (fitOf ms rs).length qs ps ks=some (-22):=by
                unfold refusal
                rw [if_neg (by rw [hn];exact Bool.false_ne_true),if_neg (by rw [c];exact Bool.false_ne_true),if_neg (by rw [hz];exact Bool.false_ne_true),if_pos]
                exact List.any_eq_true.mpr ⟨n,List.mem_of_getElem? hni,decide_eq_true (by omega)⟩
              have k:=k _ s14
              rw [e] at k
              exact k
            · refine⟨_,_,_,rfl,rfl,?_⟩
              rw [any_take hni hk]
              exact decide_eq_false (by omega)
          · rintro σ H' ⟨v4,v5,v6,rfl,rfl,hk⟩
            rw [List.length_map,List.take_length] at hk
            have e:refusal ms (fitOf ms rs).length qs ps ks=none:=by
              unfold refusal
              rw [if_neg (by rw [hn];exact Bool.false_ne_true),if_neg (by rw [c];exact Bool.false_ne_true),if_neg (by rw [hz];exact Bool.false_ne_true),if_neg (by rw [hk];exact Bool.false_ne_true)]
            have k:=k _ s14
            rw [e] at k
            exact k
end
theorem sN {i j:Str}{A B:Prop} (h:decide (i=j)=false) (b:B):if decide (V.str i=V.str j)=true then A else B:=ite_ss (fun z=>absurd z (of_decide_eq_false h)) fun _=>b
theorem sM {i j:Str}{A B:Prop} (h:i≠j) (b:B):if decide (V.str i=V.str j)=true then A else B:=ite_ss (fun z=>absurd z h) fun _=>b
theorem sY {i:Str}{A B:Prop} (a:A):if decide (V.str i=V.str i)=true then A else B:=ite_ss (fun _=>a) fun z=>absurd rfl z
section
variable {P:Program}{w:World}{K:PySem.W.Frag}{mg:Str->Option Value}{base:Heap}{C CW aG:Addr}
def spAW (CW:Addr) (Y:Str->Prop):L2.Sp:=fun vs H Q _=>∃ (p b:Addr) (x sg:Str) (ns qs ps ks:List Nat) (k:Kri7.Call) (ms:List Nat) (g:Kri7.Graph) (l:List Nat),vs=[.ref p,.str x,.ref b]/\Asks x ns k sg qs ps ks/\Y x/\WO CW H p g l/\GOk ms g l/\LN H b ns /\
  (∀ q∈qs,q<ms.length)/\(∀ k∈ks,k<=40)/\GivesW H Q (dueW g l ms k)
def plN (x:Str):Prop:=x∈(["may","path","must","avoid","both","only"]:List Str)
theorem ok_answer_of_places (T:Top K mg) (D:DefAt K mg "answer_of_places" s_answer_of_places)
    (G_may:OkF P w K mg base 4 "may" ["ways","quantity","place"] (spQP CW fun i p g l=>[optI (g.soonest l (g.isAt i p))]))
    (G_path:OkF P w K mg base 3 "path" ["ways","quantity","place"] (spQP CW fun i p g l=>pathI g l (g.isAt i p)))
    (G_must:OkF P w K mg base 4 "must" ["ways","quantity","place"] (spQP CW fun i p g l=>[optI (g.surely l (g.isAt i p))]))
    (G_avoid:OkF P w K mg base 4 "avoid" ["ways","quantity","place"] (spQP CW fun i p g l=>[avoidI g l (g.isAt i p)]))
    (G_both:OkF P w K mg base 4 "both" ["ways","quantity","place","other","where"] (spQPP CW fun i p u q g l=>[optI (g.soonest l fun s=>g.isAt i p s&&g.isAt u q s)]))
    (G_only:OkF P w K mg base 4 "only" ["ways","quantity","place","other","where"] (spQPP CW fun i p u q g l=>[optI (g.without l (g.isAt u q) (g.isAt i p))])) :
    OkF P w K mg base 5 "answer_of_places" ["ways","name","given"] (spAW CW plN):=by
  refine D.ok sc_answer_of_places bi_answer_of_places (fun vs H Q E h=>?_) (fun f cdv A outer s H vs Q E hr h=>?_)
  · obtain ⟨p,b,x,sg,ns,qs,ps,ks,k,ms,g,l,rfl,_⟩:=h
    rfl
  · obtain ⟨p,b,x,sg,ns,qs,ps,ks,k,ms,g,l,rfl,ha,hx,hw,G,hb,h1,h2,kk⟩:=h
    refine⟨_,(pss_cons (ps_if (pt_cmpR op_eq (pv 1) pe_str (nomark _)) (pss_one (ps_ret (pe_fn G_may (hr.mono (by decide)) rfl (pa_cons (pv 0) (pa_cons (pe_ix ix_list (pv 2) pe_int (fun _ _=>rfl)) (pa_cons (pe_ix ix_list (pv 2) pe_int (fun _ _=>rfl)) pa_nil)))))) pss_nil)
      (pss_cons (ps_if (pt_cmpR op_eq (pv 1) pe_str (nomark _)) (pss_one (ps_ret (pe_fn G_path (hr.mono (by decide)) rfl (pa_cons (pv 0) (pa_cons (pe_ix ix_list (pv 2) pe_int (fun _ _=>rfl)) (pa_cons (pe_ix ix_list (pv 2) pe_int (fun _ _=>rfl)) pa_nil)))))) pss_nil)
      (pss_cons (ps_if (pt_cmpR op_eq (pv 1) pe_str (nomark _)) (pss_one (ps_ret (pe_fn G_must (hr.mono (by decide)) rfl (pa_cons (pv 0) (pa_cons (pe_ix ix_list (pv 2) pe_int (fun _ _=>rfl)) (pa_cons (pe_ix ix_list (pv 2) pe_int (fun _ _=>rfl)) pa_nil)))))) pss_nil)
      (pss_cons (ps_if (pt_cmpR op_eq (pv 1) pe_str (nomark _)) (pss_one (ps_ret (pe_fn G_avoid (hr.mono (by decide)) rfl (pa_cons (pv 0) (pa_cons (pe_ix ix_list (pv 2) pe_int (fun _ _=>rfl)) (pa_cons (pe_ix ix_list (pv 2) pe_int (fun _ _=>rfl)) pa_nil)))))) pss_nil)
      (pss_cons (ps_if (pt_cmpR op_eq (pv 1) pe_str (nomark _)) (pss_one (ps_ret (pe_fn G_both (hr.mono (by decide)) rfl (pa_cons (pv 0) (pa_cons (pe_ix ix_list (pv 2) pe_int (fun _ _=>rfl)) (pa_cons (pe_ix ix_list (pv 2) pe_int (fun _ _=>rfl)) (pa_cons (pe_ix ix_list (pv 2) pe_int (fun _ _=>rfl)) (pa_cons (pe_ix ix_list (pv 2) pe_int (fun _ _=>rfl)) pa_nil)))))))) pss_nil)
      (pss_one (ps_ret (pe_fn G_only (hr.mono (by decide)) rfl (pa_cons (pv 0) (pa_cons (pe_ix ix_list (pv 2) pe_int (fun _ _=>rfl)) (pa_cons (pe_ix ix_list (pv 2) pe_int (fun _ _=>rfl)) (pa_cons (pe_ix ix_list (pv 2) pe_int (fun _ _=>rfl)) (pa_cons (pe_ix ix_list (pv 2) pe_int (fun _ _=>rfl)) pa_nil))))))))))))),?_⟩
    cases ha with
    | may a c=>
      refine⟨_,rfl,rfl,_,rfl,sY ?_⟩
      exact⟨_,rfl,_,rfl,b,_,_,_,rfl,rfl,SqL.of hb,atI_nat (j:=0) rfl,_,rfl,b,_,_,_,rfl,rfl,SqL.of hb,atI_nat (j:=1) rfl,p,a,c,ms,g,l,rfl,hw,G,h1 a (by simp),kk⟩
    | path a c=>
      refine⟨_,rfl,rfl,_,rfl,sN (by decide +kernel) ?_⟩
      refine⟨_,rfl,rfl,_,rfl,sY ?_⟩
      exact⟨_,rfl,_,rfl,b,_,_,_,rfl,rfl,SqL.of hb,atI_nat (j:=0) rfl,_,rfl,b,_,_,_,rfl,rfl,SqL.of hb,atI_nat (j:=1) rfl,p,a,c,ms,g,l,rfl,hw,G,h1 a (by simp),kk⟩
    | must a c=>
      refine⟨_,rfl,rfl,_,rfl,sN (by decide +kernel) ?_⟩
      refine⟨_,rfl,rfl,_,rfl,sN (by decide +kernel) ?_⟩
      refine⟨_,rfl,rfl,_,rfl,sY ?_⟩
      exact⟨_,rfl,_,rfl,b,_,_,_,rfl,rfl,SqL.of hb,atI_nat (j:=0) rfl,_,rfl,b,_,_,_,rfl,rfl,SqL.of hb,atI_nat (j:=1) rfl,p,a,c,ms,g,l,rfl,hw,G,h1 a (by simp),kk⟩
    | avoid a c=>
      refine⟨_,rfl,rfl,_,rfl,sN (by decide +kernel) ?_⟩
      refine⟨_,rfl,rfl,_,rfl,sN (by decide +kernel) ?_⟩
      refine⟨_,rfl,rfl,_,rfl,sN (by decide +kernel) ?_⟩
      refine⟨_,rfl,rfl,_,rfl,sY ?_⟩
      exact⟨_,rfl,_,rfl,b,_,_,_,rfl,rfl,SqL.of hb,atI_nat (j:=0) rfl,_,rfl,b,_,_,_,rfl,rfl,SqL.of hb,atI_nat (j:=1) rfl,p,a,c,ms,g,l,rfl,hw,G,h1 a (by simp),kk⟩
    | both a c d e=>
      refine⟨_,rfl,rfl,_,rfl,sN (by decide +kernel) ?_⟩
      refine⟨_,rfl,rfl,_,rfl,sN (by decide +kernel) ?_⟩
      refine⟨_,rfl,rfl,_,rfl,sN (by decide +kernel) ?_⟩
      refine⟨_,rfl,rfl,_,rfl,sN (by decide +kernel) ?_⟩
      refine⟨_,rfl,rfl,_,rfl,sY ?_⟩
      exact⟨_,rfl,_,rfl,b,_,_,_,rfl,rfl,SqL.of hb,atI_nat (j:=0) rfl,_,rfl,b,_,_,_,rfl,rfl,SqL.of hb,atI_nat (j:=1) rfl,_,rfl,b,_,_,_,rfl,rfl,SqL.of hb,atI_nat (j:=2) rfl,_,rfl,b,_,_,_,rfl,rfl,SqL.of hb,atI_nat (j:=3) rfl,p,a,c,d,e,ms,g,l,rfl,hw,G,h1 a (by simp),h1 d (by simp),kk⟩
    | only a c d e=>
      refine⟨_,rfl,rfl,_,rfl,sN (by decide +kernel) ?_⟩
      refine⟨_,rfl,rfl,_,rfl,sN (by decide +kernel) ?_⟩
      refine⟨_,rfl,rfl,_,rfl,sN (by decide +kernel) ?_⟩
      refine⟨_,rfl,rfl,_,rfl,sN (by decide +kernel) ?_⟩
      refine⟨_,rfl,rfl,_,rfl,sN (by decide +kernel) ?_⟩
      exact⟨_,rfl,_,rfl,b,_,_,_,rfl,rfl,SqL.of hb,atI_nat (j:=0) rfl,_,rfl,b,_,_,_,rfl,rfl,SqL.of hb,atI_nat (j:=1) rfl,_,rfl,b,_,_,_,rfl,rfl,SqL.of hb,atI_nat (j:=2) rfl,_,rfl,b,_,_,_,rfl,rfl,SqL.of hb,atI_nat (j:=3) rfl,p,a,c,d,e,ms,g,l,rfl,hw,G,h1 a (by simp),h1 d (by simp),kk⟩
    | ahead a=>exact absurd hx (by unfold plN;decide +kernel)
    | later a c=>exact absurd hx (by unfold plN;decide +kernel)
    | ever a=>exact absurd hx (by unfold plN;decide +kernel)
    | reach=>exact absurd hx (by unfold plN;decide +kernel)
    | rest=>exact absurd hx (by unfold plN;decide +kernel)
    | stuck=>exact absurd hx (by unfold plN;decide +kernel)
    | round=>exact absurd hx (by unfold plN;decide +kernel)
theorem ok_answer_of_ways (T:Top K mg) (D:DefAt K mg "answer_of_ways" s_answer_of_ways) (G_ahead:OkF P w K mg base 3 "ahead" ["ways","moments"] (spAhead CW)) (G_later:OkF P w K mg base 4 "later" ["ways","quantity","moments"] (spLaterW CW)) (G_ever:OkF P w K mg base 4 "ever" ["ways","quantity"] (spEver CW))
    (G_reach:OkF P w K mg base 2 "reach" ["ways"] (spQ0 CW fun g l=>[((g.ever l).length:Int)])) (G_rest:OkF P w K mg base 4 "rest" ["ways"] (spQ0 CW fun g l=>[optI (g.soonest l fun s=>Kri6.steady (g.nth s))]))
    (G_stuck:OkF P w K mg base 4 "stuck" ["ways"] (spQ0 CW fun g l=>[optI (g.soonest l fun s=>(g.of s).isEmpty)])) (G_round_way:OkF P w K mg base 4 "round_way" ["ways"] (spQ0 CW fun g l=>[optI (Kri7.least ((g.ever l).filterMap fun s=>g.round s))]))
    (G_answer_of_places:OkF P w K mg base 5 "answer_of_places" ["ways","name","given"] (spAW CW plN)):OkF P w K mg base 6 "answer_of_ways" ["ways","name","given"] (spAW CW fun _=>True):=by
  refine D.ok sc_answer_of_ways bi_answer_of_ways (fun vs H Q E h=>?_) (fun f cdv A outer s H vs Q E hr h=>?_)
  · obtain ⟨p,b,x,sg,ns,qs,ps,ks,k,ms,g,l,rfl,_⟩:=h
    rfl
  · obtain ⟨p,b,x,sg,ns,qs,ps,ks,k,ms,g,l,rfl,ha,hx,hw,G,hb,h1,h2,kk⟩:=h
    refine⟨_,(pss_cons (ps_if (pt_cmpR op_eq (pv 1) pe_str (nomark _)) (pss_one (ps_ret (pe_fn G_ahead (hr.mono (by decide)) rfl (pa_cons (pv 0) (pa_cons (pe_ix ix_list (pv 2) pe_int (fun _ _=>rfl)) pa_nil))))) pss_nil)
      (pss_cons (ps_if (pt_cmpR op_eq (pv 1) pe_str (nomark _)) (pss_one (ps_ret (pe_fn G_later (hr.mono (by decide)) rfl (pa_cons (pv 0) (pa_cons (pe_ix ix_list (pv 2) pe_int (fun _ _=>rfl)) (pa_cons (pe_ix ix_list (pv 2) pe_int (fun _ _=>rfl)) pa_nil)))))) pss_nil)
      (pss_cons (ps_if (pt_cmpR op_eq (pv 1) pe_str (nomark _)) (pss_one (ps_ret (pe_fn G_ever (hr.mono (by decide)) rfl (pa_cons (pv 0) (pa_cons (pe_ix ix_list (pv 2) pe_int (fun _ _=>rfl)) pa_nil))))) pss_nil)
      (pss_cons (ps_if (pt_cmpR op_eq (pv 1) pe_str (nomark _)) (pss_one (ps_ret (pe_fn G_reach (hr.mono (by decide)) rfl (pa_cons (pv 0) pa_nil)))) pss_nil)
      (pss_cons (ps_if (pt_cmpR op_eq (pv 1) pe_str (nomark _)) (pss_one (ps_ret (pe_fn G_rest (hr.mono (by decide)) rfl (pa_cons (pv 0) pa_nil)))) pss_nil)
      (pss_cons (ps_if (pt_cmpR op_eq (pv 1) pe_str (nomark _)) (pss_one (ps_ret (pe_fn G_stuck (hr.mono (by decide)) rfl (pa_cons (pv 0) pa_nil)))) pss_nil)
      (pss_cons (ps_if (pt_cmpR op_eq (pv 1) pe_str (nomark _)) (pss_one (ps_ret (pe_fn G_round_way (hr.mono (by decide)) rfl (pa_cons (pv 0) pa_nil)))) pss_nil)
      (pss_one (ps_ret (pe_fn G_answer_of_places (hr.mono (by decide)) rfl (pa_cons (pv 0) (pa_cons (pv 1) (pa_cons (pv 2) pa_nil))))))))))))),?_⟩
    by_cases hpl:plN x
    · have hno:∀ y∈(["ahead","later","ever","reach","rest","stuck","round_way"]:List Str),¬ plN y:=by
        unfold plN
        decide +kernel
      have hne:∀ y∈(["ahead","later","ever","reach","rest","stuck","round_way"]:List Str),x≠y:=fun y hy e=>hno y hy (e ▸ hpl)
      refine⟨_,rfl,rfl,_,rfl,sM (hne _ (by decide +kernel)) ?_⟩
      refine⟨_,rfl,rfl,_,rfl,sM (hne _ (by decide +kernel)) ?_⟩
      refine⟨_,rfl,rfl,_,rfl,sM (hne _ (by decide +kernel)) ?_⟩
      refine⟨_,rfl,rfl,_,rfl,sM (hne _ (by decide +kernel)) ?_⟩
      refine⟨_,rfl,rfl,_,rfl,sM (hne _ (by decide +kernel)) ?_⟩
      refine⟨_,rfl,rfl,_,rfl,sM (hne _ (by decide +kernel)) ?_⟩
      refine⟨_,rfl,rfl,_,rfl,sM (hne _ (by decide +kernel)) ?_⟩
      exact⟨_,rfl,_,rfl,_,rfl,p,b,_,_,_,_,_,_,_,ms,g,l,rfl,ha,hpl,hw,G,hb,h1,h2,kk⟩
    cases ha with
    | ahead a=>
      refine⟨_,rfl,rfl,_,rfl,sY ?_⟩
      exact⟨_,rfl,_,rfl,b,_,_,_,rfl,rfl,SqL.of hb,atI_nat (j:=0) rfl,p,a,ms,g,l,rfl,hw,G,h2 a (by simp),kk⟩
    | later a c=>
      refine⟨_,rfl,rfl,_,rfl,sN (by decide +kernel) ?_⟩
      refine⟨_,rfl,rfl,_,rfl,sY ?_⟩
      exact⟨_,rfl,_,rfl,b,_,_,_,rfl,rfl,SqL.of hb,atI_nat (j:=0) rfl,_,rfl,b,_,_,_,rfl,rfl,SqL.of hb,atI_nat (j:=1) rfl,p,a,c,ms,g,l,rfl,hw,G,h1 a (by simp),h2 c (by simp),kk⟩
    | ever a=>
      refine⟨_,rfl,rfl,_,rfl,sN (by decide +kernel) ?_⟩
      refine⟨_,rfl,rfl,_,rfl,sN (by decide +kernel) ?_⟩
      refine⟨_,rfl,rfl,_,rfl,sY ?_⟩
      exact⟨_,rfl,_,rfl,b,_,_,_,rfl,rfl,SqL.of hb,atI_nat (j:=0) rfl,p,a,ms,g,l,rfl,hw,G,h1 a (by simp),kk⟩
    | reach=>
      refine⟨_,rfl,rfl,_,rfl,sN (by decide +kernel) ?_⟩
      refine⟨_,rfl,rfl,_,rfl,sN (by decide +kernel) ?_⟩
      refine⟨_,rfl,rfl,_,rfl,sN (by decide +kernel) ?_⟩
      refine⟨_,rfl,rfl,_,rfl,sY ?_⟩
      exact⟨_,rfl,p,ms,g,l,rfl,hw,G,kk⟩
    | rest=>
      refine⟨_,rfl,rfl,_,rfl,sN (by decide +kernel) ?_⟩
      refine⟨_,rfl,rfl,_,rfl,sN (by decide +kernel) ?_⟩
      refine⟨_,rfl,rfl,_,rfl,sN (by decide +kernel) ?_⟩
      refine⟨_,rfl,rfl,_,rfl,sN (by decide +kernel) ?_⟩
      refine⟨_,rfl,rfl,_,rfl,sY ?_⟩
      exact⟨_,rfl,p,ms,g,l,rfl,hw,G,kk⟩
    | stuck=>
      refine⟨_,rfl,rfl,_,rfl,sN (by decide +kernel) ?_⟩
      refine⟨_,rfl,rfl,_,rfl,sN (by decide +kernel) ?_⟩
      refine⟨_,rfl,rfl,_,rfl,sN (by decide +kernel) ?_⟩
      refine⟨_,rfl,rfl,_,rfl,sN (by decide +kernel) ?_⟩
      refine⟨_,rfl,rfl,_,rfl,sN (by decide +kernel) ?_⟩
      refine⟨_,rfl,rfl,_,rfl,sY ?_⟩
      exact⟨_,rfl,p,ms,g,l,rfl,hw,G,kk⟩
    | round=>
      refine⟨_,rfl,rfl,_,rfl,sN (by decide +kernel) ?_⟩
      refine⟨_,rfl,rfl,_,rfl,sN (by decide +kernel) ?_⟩
      refine⟨_,rfl,rfl,_,rfl,sN (by decide +kernel) ?_⟩
      refine⟨_,rfl,rfl,_,rfl,sN (by decide +kernel) ?_⟩
      refine⟨_,rfl,rfl,_,rfl,sN (by decide +kernel) ?_⟩
      refine⟨_,rfl,rfl,_,rfl,sN (by decide +kernel) ?_⟩
      refine⟨_,rfl,rfl,_,rfl,sY ?_⟩
      exact⟨_,rfl,p,ms,g,l,rfl,hw,G,kk⟩
    | may a c=>exact absurd (by unfold plN;decide +kernel) hpl
    | path a c=>exact absurd (by unfold plN;decide +kernel) hpl
    | must a c=>exact absurd (by unfold plN;decide +kernel) hpl
    | avoid a c=>exact absurd (by unfold plN;decide +kernel) hpl
    | both a c d e=>exact absurd (by unfold plN;decide +kernel) hpl
    | only a c d e=>exact absurd (by unfold plN;decide +kernel) hpl
def spAskC (C:Addr):L2.Sp:=fun vs H Q _=>∃ (p b:Addr) (x sg:Str) (ns qs ps ks:List Nat) (k:Kri7.Call) (h:Kri7.House),vs=[.ref p,.str x,.ref b]/\Asks x ns k sg qs ps ks/\PlH C H p h/\LN H b ns/\Takes C p H Q h k
theorem ok_ask (T:Top K mg) (U:PC K C) (D:DefAt K mg "ask" s_ask) (G_find_refusal:OkF P w K mg base 3 "find_refusal" ["plant","name","given"] (spRef C)) (G_ways_from_now:OkF P w K mg base 6 "ways_from_now" ["plant"] (spNowW C CW))
    (G_answer_of_ways:OkF P w K mg base 6 "answer_of_ways" ["ways","name","given"] (spAW CW fun _=>True)):OkF P w K mg base 7 "ask" ["plant","name","given"] (spAskC C):=by
  refine D.ok sc_ask bi_ask (fun vs H Q E h=>?_) (fun f cdv A outer s H vs Q E hr h=>?_)
  · obtain ⟨p,b,x,sg,ns,qs,ps,ks,k,h,rfl,_⟩:=h
    rfl
  · obtain ⟨p,b,x,sg,ns,qs,ps,ks,k,⟨⟨ms,rs⟩,now⟩,rfl,ha,hp,hb,kk⟩:=h
    have hp:Pl C H p ms rs now:=hp
    obtain ⟨dx,am,ar,af,ac,h1,h2,h3,h4,h5⟩:=hp.ex
    have hlen:=ha.len
    refine⟨_,(pss_cons (ps_set (i:=3) sc_ask.nd rfl (Or.inl rfl) (pe_fn G_find_refusal (hr.mono (by decide)) rfl (pa_cons (pv 0) (pa_cons (pv 1) (pa_cons (pv 2) pa_nil)))))
      (pss_cons (ps_if (pt_cmpR op_notN (pv 3) pe_non (nomark _)) (pss_one (ps_ret (pe_lst (pa_cons (pv 3) pa_nil)))) pss_nil)
      (pss_one (ps_ret (pe_fn G_answer_of_ways (hr.mono (by decide)) rfl (pa_cons (pe_fn G_ways_from_now (hr.mono (by decide)) rfl (pa_cons (pv 0) pa_nil)) (pa_cons (pv 1) (pa_cons (pv 2) pa_nil)))))))),?_⟩
    refine⟨_,rfl,_,rfl,_,rfl,p,b,x,sg,ns,ms,rs,now,rfl,hp,hb,by omega,ha.sign,ha.ascii,fun H1 s1=>?_⟩
    rw [ha.pq,ha.pp,ha.pk]
    cases e:refusal ms (fitOf ms rs).length qs ps ks with
    | some r=>
      refine⟨_,rfl,rfl,_,rfl,ite_nn (fun _=>?_) (fun z=>by cases z)⟩
      refine⟨_,rfl,?_⟩
      exact gives_one (kk.say (ha.refused e)) (Keep.of s1) (s1 _ _ h1) fun H' s'=>hp.same (s1.trans s')
    | none=>
      refine⟨_,rfl,rfl,_,rfl,ite_nn (fun z=>absurd rfl z) (fun _=>?_)⟩
      obtain ⟨q1,q2,q3,q4⟩:=not_refused e
      refine⟨_,rfl,p,ms,rs,now,rfl,hp.same s1,q2,fun H2 q hq s2 w2=>?_⟩
      rw [gr_is ms rs now] at w2
      have s12:=s1.trans s2
      have hd:=ha.due (now:=now) e
      have kk2:GivesW H Q (dueW (gr ms rs now) (ixs ms rs now) ms k):=by
        rw [<- hd]
        unfold Takes at kk
        exact kk.ways fun H' s'=>⟨_,ha.stays,hp.same s'⟩
      exact⟨_,rfl,_,rfl,q,b,x,sg,ns,qs,ps,ks,k,ms,_,_,rfl,ha,trivial,w2,gr_ok hp.mo q2,s12 _ _ hb,q1,q4,kk2.mono s12⟩
end
def kindsV:List V:=[.str "more",.str "less",.str "sum_of",.str "rate",.str "still",.str "meet"]
theorem Form.other {c:List (List Int)}{x:Str}{ns:List Nat}{k:Kri7.Call} (f:Form c x ns k) (h:k≠.begin_):x≠"begin":=by
  cases f <;> first | exact absurd rfl h | decide +kernel
theorem form_begin {c:List (List Int)}{x:Str}{ns:List Nat} (f:Form c x ns .begin_):x="begin":=by
  cases f
  rfl
section
variable {P:Program}{w:World}{K:PySem.W.Frag}{mg:Str->Option Value}{base:Heap}{C aK:Addr}
theorem Takes.mono {p:Addr}{H H1:Hp}{Q:VK}{h:Kri7.House}{c:Kri7.Call}{o:HO} (k:Takes C p H Q h c) (s:Same H H1) (hp:H1 p=some o):Takes C p H1 Q h c:=Gives.mono k (Keep.of s) hp
theorem ok_answer_call (T:Top K mg) (U:PC K C) (g_KINDS:mg "KINDS"=some (.ref aK)) (hKd:∀ H,SqT K H aK kindsV) (D:DefAt K mg "answer_call" s_answer_call) (G_begin:OkF P w K mg base 5 "begin" ["plant"] (spBegin C))
    (G_add_quantity:OkF P w K mg base 5 "add_quantity" ["plant","count"] (spCall1 C .quantity)) (G_add_rule:OkF P w K mg base 5 "add_rule" ["plant","rule"] (spAddRule C)) (G_drop_rule:OkF P w K mg base 5 "drop_rule" ["plant","number"] (spCall1 C .drop))
    (G_all_states:OkF P w K mg base 2 "all_states" ["plant"] (spCall0 C .all)) (G_from_state:OkF P w K mg base 3 "from_state" ["plant","numbers"] (spFrom C)) (G_seen:OkF P w K mg base 3 "seen" ["plant","quantity","place"] (spCall2 C .seen))
    (G_goes:OkF P w K mg base 2 "goes" ["plant","quantity","direction"] (spCall2 C .goes)) (G_tick:OkF P w K mg base 6 "tick" ["plant"] (spCall0 C .tick)) (G_count_current:OkF P w K mg base 1 "count_current" ["plant"] (spCall0 C .now))
    (G_tell_one:OkF P w K mg base 1 "tell_one" ["plant","number"] (spCall1 C .one)) (G_tell_places:OkF P w K mg base 3 "tell_places" ["plant","quantity"] (spCall1 C .places)) (G_tell_state:OkF P w K mg base 1 "tell_state" ["plant"] (spCall0 C .state))
    (G_ask:OkF P w K mg base 7 "ask" ["plant","name","given"] (spAskC C)):OkF P w K mg base 8 "answer_call" ["plant","name","given"] (spOne C):=by
  refine D.ok sc_answer_call bi_answer_call (fun vs H Q E h=>?_) (fun fa cdv A outer s H vs Q E hr h=>?_)
  · obtain ⟨p,gA,a,c,rfl,_⟩:=h
    rfl
  · obtain ⟨p,gA,a,c,hv,hg,ha,⟨x,ns,k,F⟩,hask,kk⟩:=h
    rw [F.cv] at hv hg
    have hv:vs=[.ref p,.str x,.ref gA]:=hv
    have hg:LN H gA ns:=hg
    subst hv
    refine⟨_,(pss_cons (ps_if (pt_cmpR op_eq (pv 1) pe_str (nomark _)) (pss_one (ps_ret (pe_fn G_begin (hr.mono (by decide)) rfl (pa_cons (pv 0) pa_nil)))) pss_nil)
      (pss_cons (ps_if (pt_not (pt_val (pe_fld (pv 0) (by rfl)))) (pss_one (ps_ret (pe_lst (pa_cons (pe_gint T.NOT_BEGUN rfl) pa_nil)))) pss_nil)
      (pss_cons (ps_if (pt_cmpR op_eq (pv 1) pe_str (nomark _)) (pss_one (ps_ret (pe_fn G_add_quantity (hr.mono (by decide)) rfl (pa_cons (pv 0) (pa_cons (pe_ix ix_list (pv 2) pe_int (fun _ _=>rfl)) pa_nil))))) pss_nil)
      (pss_cons (ps_if (pt_cmpR op_in_seq (pv 1) (pe_glob (v:=.ref _) rfl g_KINDS rfl) (by with_unfolding_all rfl)) (pss_one (ps_ret (pe_fn G_add_rule (hr.mono (by decide)) rfl (pa_cons (pv 0) (pa_cons (pe_callTy call_tuple_of (by rfl) T.tuple PyProof.Rows.boot_tuple (pa_cons (pe_op op_cat (pe_lst (pa_cons (pv 1) pa_nil)) (pv 2)) pa_nil)) pa_nil))))) pss_nil)
      (pss_cons (ps_if (pt_cmpR op_eq (pv 1) pe_str (nomark _)) (pss_one (ps_ret (pe_fn G_drop_rule (hr.mono (by decide)) rfl (pa_cons (pv 0) (pa_cons (pe_ix ix_list (pv 2) pe_int (fun _ _=>rfl)) pa_nil))))) pss_nil)
      (pss_cons (ps_if (pt_cmpR op_eq (pv 1) pe_str (nomark _)) (pss_one (ps_ret (pe_fn G_all_states (hr.mono (by decide)) rfl (pa_cons (pv 0) pa_nil)))) pss_nil)
      (pss_cons (ps_if (pt_cmpR op_eq (pv 1) pe_str (nomark _)) (pss_one (ps_ret (pe_fn G_from_state (hr.mono (by decide)) rfl (pa_cons (pv 0) (pa_cons (pv 2) pa_nil))))) pss_nil)
      (pss_cons (ps_if (pt_cmpR op_eq (pv 1) pe_str (nomark _)) (pss_one (ps_ret (pe_fn G_seen (hr.mono (by decide)) rfl (pa_cons (pv 0) (pa_cons (pe_ix ix_list (pv 2) pe_int (fun _ _=>rfl)) (pa_cons (pe_ix ix_list (pv 2) pe_int (fun _ _=>rfl)) pa_nil)))))) pss_nil)
      (pss_cons (ps_if (pt_cmpR op_eq (pv 1) pe_str (nomark _)) (pss_one (ps_ret (pe_fn G_goes (hr.mono (by decide)) rfl (pa_cons (pv 0) (pa_cons (pe_ix ix_list (pv 2) pe_int (fun _ _=>rfl)) (pa_cons (pe_ix ix_list (pv 2) pe_int (fun _ _=>rfl)) pa_nil)))))) pss_nil)
      (pss_cons (ps_if (pt_cmpR op_eq (pv 1) pe_str (nomark _)) (pss_one (ps_ret (pe_fn G_tick (hr.mono (by decide)) rfl (pa_cons (pv 0) pa_nil)))) pss_nil)
      (pss_cons (ps_if (pt_cmpR op_eq (pv 1) pe_str (nomark _)) (pss_one (ps_ret (pe_fn G_count_current (hr.mono (by decide)) rfl (pa_cons (pv 0) pa_nil)))) pss_nil)
      (pss_cons (ps_if (pt_cmpR op_eq (pv 1) pe_str (nomark _)) (pss_one (ps_ret (pe_fn G_tell_one (hr.mono (by decide)) rfl (pa_cons (pv 0) (pa_cons (pe_ix ix_list (pv 2) pe_int (fun _ _=>rfl)) pa_nil))))) pss_nil)
      (pss_cons (ps_if (pt_cmpR op_eq (pv 1) pe_str (nomark _)) (pss_one (ps_ret (pe_fn G_tell_places (hr.mono (by decide)) rfl (pa_cons (pv 0) (pa_cons (pe_ix ix_list (pv 2) pe_int (fun _ _=>rfl)) pa_nil))))) pss_nil)
      (pss_cons (ps_if (pt_cmpR op_eq (pv 1) pe_str (nomark _)) (pss_one (ps_ret (pe_fn G_tell_state (hr.mono (by decide)) rfl (pa_cons (pv 0) pa_nil)))) pss_nil)
      (pss_one (ps_ret (pe_fn G_ask (hr.mono (by decide)) rfl (pa_cons (pv 0) (pa_cons (pv 1) (pa_cons (pv 2) pa_nil)))))))))))))))))))),?_⟩
    by_cases hb:k=.begin_
    · subst hb
      have hx:=form_begin F
      subst hx
      refine⟨_,rfl,rfl,_,rfl,sY ?_⟩
      obtain ⟨dx,b,m,r,f,cc,hp⟩:∃ (dx:Addr) (b m r f c:V),H p=some (.ins C dx (pf b m r f c)):=by
        cases a with
        | none=>obtain ⟨dx,m,r,f,c,hp⟩:=ha;exact⟨dx,_,m,r,f,c,hp⟩
        | some h=>obtain ⟨dx,am,ar,af,ac,h1,_⟩:=Pl.ex ha;exact⟨dx,_,_,_,_,_,h1⟩
      exact⟨_,rfl,p,dx,b,m,r,f,cc,rfl,hp,begin_of F kk⟩
    · cases a with
      | none=>
        obtain ⟨dx,m,r,f,cc,hp⟩:=id ha
        refine⟨_,rfl,rfl,_,rfl,ite_ss (fun z=>absurd z (F.other hb)) (fun _=>?_)⟩
        refine⟨_,rfl,p,C,dx,_,_,rfl,hp,U.cl,U.nB,pf_b,_,rfl,ite_nb (fun _=>?_) (fun z=>by cases z)⟩
        exact gives_one (not_begun F hb kk) (Keep.refl p H) hp fun H' s'=>PlA.same ha s'
      | some h=>
        have tk:Takes C p H Q h k:=takes_of F kk
        have ha:PlH C H p h:=ha
        obtain ⟨dx,am,ar,af,ac,h1,h2,h3,h4,h5⟩:=Pl.ex ha
        refine⟨_,rfl,rfl,_,rfl,ite_ss (fun z=>absurd z (F.other hb)) (fun _=>?_)⟩
        refine⟨_,rfl,p,C,dx,_,_,rfl,h1,U.cl,U.nB,pf_b,_,rfl,ite_nb (fun z=>by cases z) (fun _=>?_)⟩
        have rule:∀ (y:Str) (l:List Nat) (r:Kri6.Rule),LN H gA l->l.length<=1000->shR r=.tup (V.str y::l.map fun (n:Nat)=>V.int n)->Takes C p H Q h (callOf r) ->
            [V.str y].length<=sizeLine/\∀ q,H q=none->∃ v,([some (.ref p),some (.str y),some (.ref gA)]:L2.St)[2]?=some (some v)/\∃ (u b:Addr) (xs ys:List V),V.ref q=.ref u/\v=.ref b/\(L2.upd H q (.lst [V.str y])) u=some (.lst xs)/\(L2.upd H q (.lst [V.str y])) b=some (.lst ys)/\xs.length+ys.length<=sizeLine /\
              ∀ e,(L2.upd H q (.lst [V.str y])) e=none->∀ t,(L2.upd (L2.upd H q (.lst [V.str y])) e (.lst (xs++ys))) t=none ->
                spAddRule C [.ref p,.ref t] (L2.upd (L2.upd (L2.upd H q (.lst [V.str y])) e (.lst (xs++ys))) t (.tup (xs++ys))) Q (fun _ _ _=>False):=by
          intro y l r hl hlen er tr
          refine⟨(by show 1<=sizeLine;decide),fun q hq=>⟨_,rfl,q,gA,_,_,rfl,rfl,upd_same,Same.new hq _ _ hl,line_le (by rw [List.length_map];show 1+_<=_;omega),fun e he t ht=>?_⟩⟩
          have s3:Same H (L2.upd (L2.upd (L2.upd H q (.lst [V.str y])) e (.lst ([V.str y]++l.map fun (n:Nat)=>V.int n))) t (.tup ([V.str y]++l.map fun (n:Nat)=>V.int n))):=Same.upd (Same.upd (Same.new hq) he) ht
          exact⟨p,t,r,h,rfl,by rw [upd_same,er];rfl,Pl.same ha s3,tr.mono s3 (s3 _ _ h1)⟩
        by_cases has:∃ sg qs ps ks,Asks x ns k sg qs ps ks
        · obtain ⟨sg,qs,ps,ks,as⟩:=has
          have hne:∀ y∈(["quantity","drop","all_states","from_state","seen","goes","tick","now","one","places","state"]:List Str),x≠y:=by cases as <;> decide +kernel
          have hk:inV (V.str x) kindsV=false:=by cases as <;> decide +kernel
          refine⟨_,rfl,rfl,_,rfl,sM (hne _ (by decide +kernel)) ?_⟩
          refine⟨_,rfl,aK,kindsV,rfl,.inr (hKd _),rfl,rfl,_,rfl,ite_b (fun z=>absurd z (by rw [if_neg Bool.false_ne_true,hk];exact Bool.false_ne_true)) (fun _=>?_)⟩
          refine⟨_,rfl,rfl,_,rfl,sM (hne _ (by decide +kernel)) ?_⟩
          refine⟨_,rfl,rfl,_,rfl,sM (hne _ (by decide +kernel)) ?_⟩
          refine⟨_,rfl,rfl,_,rfl,sM (hne _ (by decide +kernel)) ?_⟩
          refine⟨_,rfl,rfl,_,rfl,sM (hne _ (by decide +kernel)) ?_⟩
          refine⟨_,rfl,rfl,_,rfl,sM (hne _ (by decide +kernel)) ?_⟩
          refine⟨_,rfl,rfl,_,rfl,sM (hne _ (by decide +kernel)) ?_⟩
          refine⟨_,rfl,rfl,_,rfl,sM (hne _ (by decide +kernel)) ?_⟩
          refine⟨_,rfl,rfl,_,rfl,sM (hne _ (by decide +kernel)) ?_⟩
          refine⟨_,rfl,rfl,_,rfl,sM (hne _ (by decide +kernel)) ?_⟩
          refine⟨_,rfl,rfl,_,rfl,sM (hne _ (by decide +kernel)) ?_⟩
          exact⟨_,rfl,_,rfl,_,rfl,p,gA,_,_,_,_,_,_,_,h,rfl,as,ha,hg,tk⟩
        cases F with
        | f0=>exact absurd rfl hb
        | f1 a=>
          refine⟨_,rfl,rfl,_,rfl,sY ?_⟩
          exact⟨_,rfl,_,rfl,gA,_,_,_,rfl,rfl,SqL.of hg,atI_nat (j:=0) rfl,p,a,h,rfl,ha,tk⟩
        | f2 a b=>
          refine⟨_,rfl,rfl,_,rfl,sN (by decide +kernel) ?_⟩
          refine⟨_,rfl,aK,kindsV,rfl,.inr (hKd _),rfl,rfl,_,rfl,ite_b (fun _=>?_) (fun z=>absurd z (by decide +kernel))⟩
          obtain ⟨q0,q1⟩:=rule "more" [a,b] (.more a b) hg (by simp) rfl tk
          refine⟨_,rfl,_,rfl,q0,fun q hq=>?_⟩
          obtain ⟨v,e1,u,b',xs,ys,e2,e3,e4,e5,e6,e7⟩:=q1 q hq
          exact⟨v,e1,u,b',xs,ys,e2,e3,e4,e5,e6,fun e he=>⟨e,_,rfl,.inl ⟨SqL.of upd_same,fun t ht=>e7 e he t ht⟩⟩⟩
        | f3 a b=>
          refine⟨_,rfl,rfl,_,rfl,sN (by decide +kernel) ?_⟩
          refine⟨_,rfl,aK,kindsV,rfl,.inr (hKd _),rfl,rfl,_,rfl,ite_b (fun _=>?_) (fun z=>absurd z (by decide +kernel))⟩
          obtain ⟨q0,q1⟩:=rule "less" [a,b] (.less a b) hg (by simp) rfl tk
          refine⟨_,rfl,_,rfl,q0,fun q hq=>?_⟩
          obtain ⟨v,e1,u,b',xs,ys,e2,e3,e4,e5,e6,e7⟩:=q1 q hq
          exact⟨v,e1,u,b',xs,ys,e2,e3,e4,e5,e6,fun e he=>⟨e,_,rfl,.inl ⟨SqL.of upd_same,fun t ht=>e7 e he t ht⟩⟩⟩
        | f4 a b c=>
          refine⟨_,rfl,rfl,_,rfl,sN (by decide +kernel) ?_⟩
          refine⟨_,rfl,aK,kindsV,rfl,.inr (hKd _),rfl,rfl,_,rfl,ite_b (fun _=>?_) (fun z=>absurd z (by decide +kernel))⟩
          obtain ⟨q0,q1⟩:=rule "sum_of" [a,b,c] (.sum a b c) hg (by simp) rfl tk
          refine⟨_,rfl,_,rfl,q0,fun q hq=>?_⟩
          obtain ⟨v,e1,u,b',xs,ys,e2,e3,e4,e5,e6,e7⟩:=q1 q hq
          exact⟨v,e1,u,b',xs,ys,e2,e3,e4,e5,e6,fun e he=>⟨e,_,rfl,.inl ⟨SqL.of upd_same,fun t ht=>e7 e he t ht⟩⟩⟩
        | f5 a b c=>
          refine⟨_,rfl,rfl,_,rfl,sN (by decide +kernel) ?_⟩
          refine⟨_,rfl,aK,kindsV,rfl,.inr (hKd _),rfl,rfl,_,rfl,ite_b (fun _=>?_) (fun z=>absurd z (by decide +kernel))⟩
          obtain ⟨q0,q1⟩:=rule "rate" [a,b,c] (.rate a b c) hg (by simp) rfl tk
          refine⟨_,rfl,_,rfl,q0,fun q hq=>?_⟩
          obtain ⟨v,e1,u,b',xs,ys,e2,e3,e4,e5,e6,e7⟩:=q1 q hq
          exact⟨v,e1,u,b',xs,ys,e2,e3,e4,e5,e6,fun e he=>⟨e,_,rfl,.inl ⟨SqL.of upd_same,fun t ht=>e7 e he t ht⟩⟩⟩
        | f6 a=>
          refine⟨_,rfl,rfl,_,rfl,sN (by decide +kernel) ?_⟩
          refine⟨_,rfl,aK,kindsV,rfl,.inr (hKd _),rfl,rfl,_,rfl,ite_b (fun _=>?_) (fun z=>absurd z (by decide +kernel))⟩
          obtain ⟨q0,q1⟩:=rule "still" [a] (.still a) hg (by simp) rfl tk
          refine⟨_,rfl,_,rfl,q0,fun q hq=>?_⟩
          obtain ⟨v,e1,u,b',xs,ys,e2,e3,e4,e5,e6,e7⟩:=q1 q hq
          exact⟨v,e1,u,b',xs,ys,e2,e3,e4,e5,e6,fun e he=>⟨e,_,rfl,.inl ⟨SqL.of upd_same,fun t ht=>e7 e he t ht⟩⟩⟩
        | f7 a b c d=>
          refine⟨_,rfl,rfl,_,rfl,sN (by decide +kernel) ?_⟩
          refine⟨_,rfl,aK,kindsV,rfl,.inr (hKd _),rfl,rfl,_,rfl,ite_b (fun _=>?_) (fun z=>absurd z (by decide +kernel))⟩
          obtain ⟨q0,q1⟩:=rule "meet" [a,b,c,d] (.meet a b c d) hg (by simp) rfl tk
          refine⟨_,rfl,_,rfl,q0,fun q hq=>?_⟩
          obtain ⟨v,e1,u,b',xs,ys,e2,e3,e4,e5,e6,e7⟩:=q1 q hq
          exact⟨v,e1,u,b',xs,ys,e2,e3,e4,e5,e6,fun e he=>⟨e,_,rfl,.inl ⟨SqL.of upd_same,fun t ht=>e7 e he t ht⟩⟩⟩
        | f8 a=>
          refine⟨_,rfl,rfl,_,rfl,sN (by decide +kernel) ?_⟩
          refine⟨_,rfl,aK,kindsV,rfl,.inr (hKd _),rfl,rfl,_,rfl,ite_b (fun z=>absurd z (by decide +kernel)) (fun _=>?_)⟩
          refine⟨_,rfl,rfl,_,rfl,sY ?_⟩
          exact⟨_,rfl,_,rfl,gA,_,_,_,rfl,rfl,SqL.of hg,atI_nat (j:=0) rfl,p,a,h,rfl,ha,tk⟩
        | f9=>
          refine⟨_,rfl,rfl,_,rfl,sN (by decide +kernel) ?_⟩
          refine⟨_,rfl,aK,kindsV,rfl,.inr (hKd _),rfl,rfl,_,rfl,ite_b (fun z=>absurd z (by decide +kernel)) (fun _=>?_)⟩
          refine⟨_,rfl,rfl,_,rfl,sN (by decide +kernel) ?_⟩
          refine⟨_,rfl,rfl,_,rfl,sY ?_⟩
          exact⟨_,rfl,p,h,rfl,ha,tk⟩
        | f10 _=>
          refine⟨_,rfl,rfl,_,rfl,sN (by decide +kernel) ?_⟩
          refine⟨_,rfl,aK,kindsV,rfl,.inr (hKd _),rfl,rfl,_,rfl,ite_b (fun z=>absurd z (by decide +kernel)) (fun _=>?_)⟩
          refine⟨_,rfl,rfl,_,rfl,sN (by decide +kernel) ?_⟩
          refine⟨_,rfl,rfl,_,rfl,sN (by decide +kernel) ?_⟩
          refine⟨_,rfl,rfl,_,rfl,sY ?_⟩
          have hl:ns.length<=1000:=by
            have hask:((nints ns).all (fun (z:Int)=>Kri7Neutral.natural z 32)&&decide ((nints ns).length<256))=true:=hask
            have:=of_decide_eq_true (Bool.and_eq_true_iff.mp hask).2
            rw [nints_len] at this
            omega
          exact⟨_,rfl,_,rfl,p,gA,ns,h,rfl,hg,hl,ha,tk⟩
        | f11 a b=>
          refine⟨_,rfl,rfl,_,rfl,sN (by decide +kernel) ?_⟩
          refine⟨_,rfl,aK,kindsV,rfl,.inr (hKd _),rfl,rfl,_,rfl,ite_b (fun z=>absurd z (by decide +kernel)) (fun _=>?_)⟩
          refine⟨_,rfl,rfl,_,rfl,sN (by decide +kernel) ?_⟩
          refine⟨_,rfl,rfl,_,rfl,sN (by decide +kernel) ?_⟩
          refine⟨_,rfl,rfl,_,rfl,sN (by decide +kernel) ?_⟩
          refine⟨_,rfl,rfl,_,rfl,sY ?_⟩
          exact⟨_,rfl,_,rfl,gA,_,_,_,rfl,rfl,SqL.of hg,atI_nat (j:=0) rfl,_,rfl,gA,_,_,_,rfl,rfl,SqL.of hg,atI_nat (j:=1) rfl,p,a,b,h,rfl,ha,tk⟩
        | f12 a b=>
          refine⟨_,rfl,rfl,_,rfl,sN (by decide +kernel) ?_⟩
          refine⟨_,rfl,aK,kindsV,rfl,.inr (hKd _),rfl,rfl,_,rfl,ite_b (fun z=>absurd z (by decide +kernel)) (fun _=>?_)⟩
          refine⟨_,rfl,rfl,_,rfl,sN (by decide +kernel) ?_⟩
          refine⟨_,rfl,rfl,_,rfl,sN (by decide +kernel) ?_⟩
          refine⟨_,rfl,rfl,_,rfl,sN (by decide +kernel) ?_⟩
          refine⟨_,rfl,rfl,_,rfl,sN (by decide +kernel) ?_⟩
          refine⟨_,rfl,rfl,_,rfl,sY ?_⟩
          exact⟨_,rfl,_,rfl,gA,_,_,_,rfl,rfl,SqL.of hg,atI_nat (j:=0) rfl,_,rfl,gA,_,_,_,rfl,rfl,SqL.of hg,atI_nat (j:=1) rfl,p,a,b,h,rfl,ha,tk⟩
        | f13=>
          refine⟨_,rfl,rfl,_,rfl,sN (by decide +kernel) ?_⟩
          refine⟨_,rfl,aK,kindsV,rfl,.inr (hKd _),rfl,rfl,_,rfl,ite_b (fun z=>absurd z (by decide +kernel)) (fun _=>?_)⟩
          refine⟨_,rfl,rfl,_,rfl,sN (by decide +kernel) ?_⟩
          refine⟨_,rfl,rfl,_,rfl,sN (by decide +kernel) ?_⟩
          refine⟨_,rfl,rfl,_,rfl,sN (by decide +kernel) ?_⟩
          refine⟨_,rfl,rfl,_,rfl,sN (by decide +kernel) ?_⟩
          refine⟨_,rfl,rfl,_,rfl,sN (by decide +kernel) ?_⟩
          refine⟨_,rfl,rfl,_,rfl,sY ?_⟩
          exact⟨_,rfl,p,h,rfl,ha,tk⟩
        | f14=>
          refine⟨_,rfl,rfl,_,rfl,sN (by decide +kernel) ?_⟩
          refine⟨_,rfl,aK,kindsV,rfl,.inr (hKd _),rfl,rfl,_,rfl,ite_b (fun z=>absurd z (by decide +kernel)) (fun _=>?_)⟩
          refine⟨_,rfl,rfl,_,rfl,sN (by decide +kernel) ?_⟩
          refine⟨_,rfl,rfl,_,rfl,sN (by decide +kernel) ?_⟩
          refine⟨_,rfl,rfl,_,rfl,sN (by decide +kernel) ?_⟩
          refine⟨_,rfl,rfl,_,rfl,sN (by decide +kernel) ?_⟩
          refine⟨_,rfl,rfl,_,rfl,sN (by decide +kernel) ?_⟩
          refine⟨_,rfl,rfl,_,rfl,sN (by decide +kernel) ?_⟩
          refine⟨_,rfl,rfl,_,rfl,sY ?_⟩
          exact⟨_,rfl,p,h,rfl,ha,tk⟩
        | f15 a=>
          refine⟨_,rfl,rfl,_,rfl,sN (by decide +kernel) ?_⟩
          refine⟨_,rfl,aK,kindsV,rfl,.inr (hKd _),rfl,rfl,_,rfl,ite_b (fun z=>absurd z (by decide +kernel)) (fun _=>?_)⟩
          refine⟨_,rfl,rfl,_,rfl,sN (by decide +kernel) ?_⟩
          refine⟨_,rfl,rfl,_,rfl,sN (by decide +kernel) ?_⟩
          refine⟨_,rfl,rfl,_,rfl,sN (by decide +kernel) ?_⟩
          refine⟨_,rfl,rfl,_,rfl,sN (by decide +kernel) ?_⟩
          refine⟨_,rfl,rfl,_,rfl,sN (by decide +kernel) ?_⟩
          refine⟨_,rfl,rfl,_,rfl,sN (by decide +kernel) ?_⟩
          refine⟨_,rfl,rfl,_,rfl,sN (by decide +kernel) ?_⟩
          refine⟨_,rfl,rfl,_,rfl,sY ?_⟩
          exact⟨_,rfl,_,rfl,gA,_,_,_,rfl,rfl,SqL.of hg,atI_nat (j:=0) rfl,p,a,h,rfl,ha,tk⟩
        | f16 a=>
          refine⟨_,rfl,rfl,_,rfl,sN (by decide +kernel) ?_⟩
          refine⟨_,rfl,aK,kindsV,rfl,.inr (hKd _),rfl,rfl,_,rfl,ite_b (fun z=>absurd z (by decide +kernel)) (fun _=>?_)⟩
          refine⟨_,rfl,rfl,_,rfl,sN (by decide +kernel) ?_⟩
          refine⟨_,rfl,rfl,_,rfl,sN (by decide +kernel) ?_⟩
          refine⟨_,rfl,rfl,_,rfl,sN (by decide +kernel) ?_⟩
          refine⟨_,rfl,rfl,_,rfl,sN (by decide +kernel) ?_⟩
          refine⟨_,rfl,rfl,_,rfl,sN (by decide +kernel) ?_⟩
          refine⟨_,rfl,rfl,_,rfl,sN (by decide +kernel) ?_⟩
          refine⟨_,rfl,rfl,_,rfl,sN (by decide +kernel) ?_⟩
          refine⟨_,rfl,rfl,_,rfl,sN (by decide +kernel) ?_⟩
          refine⟨_,rfl,rfl,_,rfl,sY ?_⟩
          exact⟨_,rfl,_,rfl,gA,_,_,_,rfl,rfl,SqL.of hg,atI_nat (j:=0) rfl,p,a,h,rfl,ha,tk⟩
        | f30=>
          refine⟨_,rfl,rfl,_,rfl,sN (by decide +kernel) ?_⟩
          refine⟨_,rfl,aK,kindsV,rfl,.inr (hKd _),rfl,rfl,_,rfl,ite_b (fun z=>absurd z (by decide +kernel)) (fun _=>?_)⟩
          refine⟨_,rfl,rfl,_,rfl,sN (by decide +kernel) ?_⟩
          refine⟨_,rfl,rfl,_,rfl,sN (by decide +kernel) ?_⟩
          refine⟨_,rfl,rfl,_,rfl,sN (by decide +kernel) ?_⟩
          refine⟨_,rfl,rfl,_,rfl,sN (by decide +kernel) ?_⟩
          refine⟨_,rfl,rfl,_,rfl,sN (by decide +kernel) ?_⟩
          refine⟨_,rfl,rfl,_,rfl,sN (by decide +kernel) ?_⟩
          refine⟨_,rfl,rfl,_,rfl,sN (by decide +kernel) ?_⟩
          refine⟨_,rfl,rfl,_,rfl,sN (by decide +kernel) ?_⟩
          refine⟨_,rfl,rfl,_,rfl,sN (by decide +kernel) ?_⟩
          refine⟨_,rfl,rfl,_,rfl,sY ?_⟩
          exact⟨_,rfl,p,h,rfl,ha,tk⟩
        | f17 a=>exact absurd ⟨_,_,_,_,Asks.ahead a⟩ has
        | f18 a b=>exact absurd ⟨_,_,_,_,Asks.later a b⟩ has
        | f19 a=>exact absurd ⟨_,_,_,_,Asks.ever a⟩ has
        | f20=>exact absurd ⟨_,_,_,_,Asks.reach⟩ has
        | f21 a b=>exact absurd ⟨_,_,_,_,Asks.may a b⟩ has
        | f22 a b=>exact absurd ⟨_,_,_,_,Asks.path a b⟩ has
        | f23 a b=>exact absurd ⟨_,_,_,_,Asks.must a b⟩ has
        | f24 a b=>exact absurd ⟨_,_,_,_,Asks.avoid a b⟩ has
        | f25 a b c d=>exact absurd ⟨_,_,_,_,Asks.both a b c d⟩ has
        | f26 a b c d=>exact absurd ⟨_,_,_,_,Asks.only a b c d⟩ has
        | f27=>exact absurd ⟨_,_,_,_,Asks.rest⟩ has
        | f28=>exact absurd ⟨_,_,_,_,Asks.stuck⟩ has
        | f29=>exact absurd ⟨_,_,_,_,Asks.round⟩ has
end
structure Defs (K:PySem.W.Frag) (mg:Str->Option Value):Prop where
  count_places:DefAt K mg "count_places" s_count_places
  mark_place:DefAt K mg "mark_place" s_mark_place
  is_mark:DefAt K mg "is_mark" s_is_mark
  list_pairs:DefAt K mg "list_pairs" s_list_pairs
  later_places:DefAt K mg "later_places" s_later_places
  pair_follows:DefAt K mg "pair_follows" s_pair_follows
  rule_quantities:DefAt K mg "rule_quantities" s_rule_quantities
  rule_marks:DefAt K mg "rule_marks" s_rule_marks
  place_of:DefAt K mg "place_of" s_place_of
  direction_of:DefAt K mg "direction_of" s_direction_of
  side_of_mark:DefAt K mg "side_of_mark" s_side_of_mark
  less_holds:DefAt K mg "less_holds" s_less_holds
  sum_holds:DefAt K mg "sum_holds" s_sum_holds
  rule_holds:DefAt K mg "rule_holds" s_rule_holds
  add_pairs:DefAt K mg "add_pairs" s_add_pairs
  list_states:DefAt K mg "list_states" s_list_states
  fitting_states:DefAt K mg "fitting_states" s_fitting_states
  is_state:DefAt K mg "is_state" s_is_state
  state_follows:DefAt K mg "state_follows" s_state_follows
  follows_some:DefAt K mg "follows_some" s_follows_some
  list_followers:DefAt K mg "list_followers" s_list_followers
  list_places:DefAt K mg "list_places" s_list_places
  ways_from_now:DefAt K mg "ways_from_now" s_ways_from_now
  numbers_at:DefAt K mg "numbers_at" s_numbers_at
  ways_without:DefAt K mg "ways_without" s_ways_without
  all_after:DefAt K mg "all_after" s_all_after
  after_moments:DefAt K mg "after_moments" s_after_moments
  befores:DefAt K mg "befores" s_befores
  way_to:DefAt K mg "way_to" s_way_to
  shortest_way:DefAt K mg "shortest_way" s_shortest_way
  moments_beyond:DefAt K mg "moments_beyond" s_moments_beyond
  shortest_round:DefAt K mg "shortest_round" s_shortest_round
  ahead:DefAt K mg "ahead" s_ahead
  places_among:DefAt K mg "places_among" s_places_among
  later:DefAt K mg "later" s_later
  ever:DefAt K mg "ever" s_ever
  reach:DefAt K mg "reach" s_reach
  moments_to:DefAt K mg "moments_to" s_moments_to
  may:DefAt K mg "may" s_may
  path:DefAt K mg "path" s_path
  ends:DefAt K mg "ends" s_ends
  must:DefAt K mg "must" s_must
  avoid:DefAt K mg "avoid" s_avoid
  both:DefAt K mg "both" s_both
  only:DefAt K mg "only" s_only
  is_steady:DefAt K mg "is_steady" s_is_steady
  rest:DefAt K mg "rest" s_rest
  stuck:DefAt K mg "stuck" s_stuck
  round_way:DefAt K mg "round_way" s_round_way
  has_quantity:DefAt K mg "has_quantity" s_has_quantity
  has_mark:DefAt K mg "has_mark" s_has_mark
  has_place:DefAt K mg "has_place" s_has_place
  too_many_fit:DefAt K mg "too_many_fit" s_too_many_fit
  settle:DefAt K mg "settle" s_settle
  numbers_by_sign:DefAt K mg "numbers_by_sign" s_numbers_by_sign
  find_refusal:DefAt K mg "find_refusal" s_find_refusal
  answer_of_places:DefAt K mg "answer_of_places" s_answer_of_places
  answer_of_ways:DefAt K mg "answer_of_ways" s_answer_of_ways
  ask:DefAt K mg "ask" s_ask
  begin:DefAt K mg "begin" s_begin
  multiply_places:DefAt K mg "multiply_places" s_multiply_places
  add_quantity:DefAt K mg "add_quantity" s_add_quantity
  names_missing_quantity:DefAt K mg "names_missing_quantity" s_names_missing_quantity
  names_missing_mark:DefAt K mg "names_missing_mark" s_names_missing_mark
  names_one_twice:DefAt K mg "names_one_twice" s_names_one_twice
  add_rule:DefAt K mg "add_rule" s_add_rule
  drop_rule:DefAt K mg "drop_rule" s_drop_rule
  take_current:DefAt K mg "take_current" s_take_current
  all_states:DefAt K mg "all_states" s_all_states
  from_state:DefAt K mg "from_state" s_from_state
  seen:DefAt K mg "seen" s_seen
  goes:DefAt K mg "goes" s_goes
  tick:DefAt K mg "tick" s_tick
  split_calls:DefAt K mg "split_calls" s_split_calls
  count_current:DefAt K mg "count_current" s_count_current
  tell_one:DefAt K mg "tell_one" s_tell_one
  tell_places:DefAt K mg "tell_places" s_tell_places
  tell_state:DefAt K mg "tell_state" s_tell_state
  answer_call:DefAt K mg "answer_call" s_answer_call
theorem all_ok {P:Program}{w:World}{K:PySem.W.Frag}{mg:Str->Option Value}{base:Heap}{C CW aC aG aK fI fa:Addr}{fdI fda:FuncData} (T:Top K mg) (V:Defs K mg) (U:PC K C) (UW:WC K CW) (hC:mg "Plant"=some (.ref C)) (M_Plant:Mk K C fI) (FI:Fun K "__init__" "Plant.__init__" s_init fI fdI)
    (bI:Binds K fdI ["self"] []) (MW:∀ (P:Program) (w:World) (base:Heap),MkW P w K mg base CW) (TB:Tab K mg aC) (gS:mg "SIGNS"=some (.ref aG)) (hS:SX.DTop P w K aG sgK) (gK:mg "KINDS"=some (.ref aK)) (hK:∀ H,SqT K H aK kindsV)
    (F:Fun K "answers" "answers" s_answers fa fda):FnOk P w K mg base CX0 9 fa fda ["calls"] (spAns K):=by
  have G_count_places:=ok_count_places (P:=P) (w:=w) (base:=base) V.count_places
  have G_mark_place:=ok_mark_place (P:=P) (w:=w) (base:=base) V.mark_place
  have G_is_mark:=ok_is_mark (P:=P) (w:=w) (base:=base) V.is_mark
  have G_list_pairs:=ok_list_pairs (P:=P) (w:=w) (base:=base) T V.list_pairs G_count_places
  have G_later_places:=ok_later_places (P:=P) (w:=w) (base:=base) T V.later_places G_count_places G_is_mark
  have G_pair_follows:=ok_pair_follows (P:=P) (w:=w) (base:=base) T V.pair_follows G_later_places
  have G_rule_quantities:=ok_rule_quantities (P:=P) (w:=w) (base:=base) T V.rule_quantities
  have G_rule_marks:=ok_rule_marks (P:=P) (w:=w) (base:=base) T V.rule_marks
  have G_place_of:=ok_place_of (P:=P) (w:=w) (base:=base) V.place_of
  have G_direction_of:=ok_direction_of (P:=P) (w:=w) (base:=base) V.direction_of
  have G_side_of_mark:=ok_side_of_mark (P:=P) (w:=w) (base:=base) T V.side_of_mark G_place_of G_mark_place
  have G_less_holds:=ok_less_holds (P:=P) (w:=w) (base:=base) T V.less_holds
  have G_sum_holds:=ok_sum_holds (P:=P) (w:=w) (base:=base) T V.sum_holds
  have G_rule_holds:=ok_rule_holds (P:=P) (w:=w) (base:=base) T V.rule_holds G_direction_of G_side_of_mark G_less_holds G_sum_holds
  have G_add_pairs:=ok_add_pairs (P:=P) (w:=w) (base:=base) T V.add_pairs
  have G_list_states:=ok_list_states (P:=P) (w:=w) (base:=base) T V.list_states G_list_pairs G_add_pairs
  have G_fitting_states:=ok_fitting_states (P:=P) (w:=w) (base:=base) T V.fitting_states G_list_states G_rule_holds
  have G_is_state:=ok_is_state (P:=P) (w:=w) (base:=base) T V.is_state G_count_places
  have G_state_follows:=ok_state_follows (P:=P) (w:=w) (base:=base) T V.state_follows G_pair_follows
  have G_follows_some:=ok_follows_some (P:=P) (w:=w) (base:=base) T V.follows_some G_state_follows
  have G_list_followers:=ok_list_followers (P:=P) (w:=w) (base:=base) T V.list_followers G_state_follows
  have G_list_places:=ok_list_places (P:=P) (w:=w) (base:=base) T V.list_places G_place_of
  have G_ways_from_now:=ok_ways_from_now (P:=P) (w:=w) (base:=base) T U UW (MW P w base) V.ways_from_now G_list_followers
  have G_numbers_at:=ok_numbers_at (P:=P) (w:=w) (base:=base) T UW V.numbers_at G_place_of
  have G_ways_without:=ok_ways_without (P:=P) (w:=w) (base:=base) T UW (MW P w base) V.ways_without
  have G_all_after:=ok_all_after (P:=P) (w:=w) (base:=base) T UW V.all_after
  have G_after_moments:=ok_after_moments (P:=P) (w:=w) (base:=base) T UW V.after_moments G_all_after
  have G_befores:=ok_befores (P:=P) (w:=w) (base:=base) T UW V.befores
  have G_way_to:=ok_way_to (P:=P) (w:=w) (base:=base) T V.way_to
  have G_shortest_way:=ok_shortest_way (P:=P) (w:=w) (base:=base) T UW V.shortest_way G_befores G_way_to
  have G_moments_beyond:=ok_moments_beyond (P:=P) (w:=w) (base:=base) T UW V.moments_beyond G_all_after
  have G_shortest_round:=ok_shortest_round (P:=P) (w:=w) (base:=base) T UW (MW P w base) V.shortest_round G_befores G_shortest_way
  have G_ahead:=ok_ahead (P:=P) (w:=w) (base:=base) T UW V.ahead G_after_moments
  have G_places_among:=ok_places_among (P:=P) (w:=w) (base:=base) T UW V.places_among G_list_places
  have G_later:=ok_later (P:=P) (w:=w) (base:=base) T V.later G_after_moments G_places_among
  have G_ever:=ok_ever (P:=P) (w:=w) (base:=base) T V.ever G_befores G_places_among
  have G_reach:=ok_reach (P:=P) (w:=w) (base:=base) T V.reach G_befores
  have G_moments_to:=ok_moments_to (P:=P) (w:=w) (base:=base) T V.moments_to G_shortest_way
  have G_may:=ok_may (P:=P) (w:=w) (base:=base) T V.may G_numbers_at G_moments_to
  have G_path:=ok_path (P:=P) (w:=w) (base:=base) T UW V.path G_numbers_at G_shortest_way
  have G_ends:=ok_ends (P:=P) (w:=w) (base:=base) T UW V.ends
  have G_must:=ok_must (P:=P) (w:=w) (base:=base) T V.must G_numbers_at G_ways_without G_moments_beyond G_ends G_shortest_way
  have G_avoid:=ok_avoid (P:=P) (w:=w) (base:=base) T V.avoid G_numbers_at G_ways_without G_moments_beyond
  have G_both:=ok_both (P:=P) (w:=w) (base:=base) T V.both G_numbers_at G_moments_to
  have G_only:=ok_only (P:=P) (w:=w) (base:=base) T V.only G_numbers_at G_ways_without G_moments_to
  have G_is_steady:=ok_is_steady (P:=P) (w:=w) (base:=base) T V.is_steady G_direction_of
  have G_rest:=ok_rest (P:=P) (w:=w) (base:=base) T UW V.rest G_is_steady G_moments_to
  have G_stuck:=ok_stuck (P:=P) (w:=w) (base:=base) T V.stuck G_ends G_moments_to
  have G_round_way:=ok_round_way (P:=P) (w:=w) (base:=base) T V.round_way G_shortest_round
  have G_has_quantity:=ok_has_quantity (P:=P) (w:=w) (base:=base) T U V.has_quantity
  have G_has_mark:=ok_has_mark (P:=P) (w:=w) (base:=base) T U V.has_mark
  have G_has_place:=ok_has_place (P:=P) (w:=w) (base:=base) T U V.has_place G_count_places
  have G_too_many_fit:=ok_too_many_fit (P:=P) (w:=w) (base:=base) T U V.too_many_fit
  have G_settle:=ok_settle (P:=P) (w:=w) (base:=base) T U V.settle
  have G_numbers_by_sign:=ok_numbers_by_sign (P:=P) (w:=w) (base:=base) T gS hS V.numbers_by_sign
  have G_find_refusal:=ok_find_refusal (P:=P) (w:=w) (base:=base) T U V.find_refusal G_numbers_by_sign G_has_quantity G_too_many_fit G_has_place
  have G_answer_of_places:=ok_answer_of_places (P:=P) (w:=w) (base:=base) T V.answer_of_places G_may G_path G_must G_avoid G_both G_only
  have G_answer_of_ways:=ok_answer_of_ways (P:=P) (w:=w) (base:=base) T V.answer_of_ways G_ahead G_later G_ever G_reach G_rest G_stuck G_round_way G_answer_of_places
  have G_ask:=ok_ask (P:=P) (w:=w) (base:=base) T U V.ask G_find_refusal G_ways_from_now G_answer_of_ways
  have G_begin:=ok_begin (P:=P) (w:=w) (base:=base) T U V.begin G_settle G_fitting_states
  have G_multiply_places:=ok_multiply_places (P:=P) (w:=w) (base:=base) T V.multiply_places G_count_places
  have G_add_quantity:=ok_add_quantity (P:=P) (w:=w) (base:=base) T U V.add_quantity G_multiply_places G_settle G_fitting_states
  have G_names_missing_quantity:=ok_names_missing_quantity (P:=P) (w:=w) (base:=base) T U V.names_missing_quantity G_rule_quantities G_has_quantity
  have G_names_missing_mark:=ok_names_missing_mark (P:=P) (w:=w) (base:=base) T U V.names_missing_mark G_rule_marks G_has_mark
  have G_names_one_twice:=ok_names_one_twice (P:=P) (w:=w) (base:=base) T V.names_one_twice G_rule_quantities
  have G_add_rule:=ok_add_rule (P:=P) (w:=w) (base:=base) T U V.add_rule G_names_missing_quantity G_names_one_twice G_names_missing_mark G_settle G_fitting_states
  have G_drop_rule:=ok_drop_rule (P:=P) (w:=w) (base:=base) T U V.drop_rule G_settle G_fitting_states
  have G_take_current:=ok_take_current (P:=P) (w:=w) (base:=base) T U V.take_current
  have G_all_states:=ok_all_states (P:=P) (w:=w) (base:=base) T U V.all_states G_take_current
  have G_from_state:=ok_from_state (P:=P) (w:=w) (base:=base) T U V.from_state G_is_state G_take_current
  have G_seen:=ok_seen (P:=P) (w:=w) (base:=base) T U V.seen G_has_quantity G_has_place G_place_of G_take_current
  have G_goes:=ok_goes (P:=P) (w:=w) (base:=base) T U V.goes G_has_quantity G_direction_of G_take_current
  have G_tick:=ok_tick (P:=P) (w:=w) (base:=base) T U V.tick G_too_many_fit G_follows_some G_take_current (fun ms rs now hn=>step_nows ms rs now hn)
  have G_split_calls:=ok_split_calls (P:=P) (w:=w) (base:=base) T TB V.split_calls
  have G_count_current:=ok_count_current (P:=P) (w:=w) (base:=base) T U V.count_current
  have G_tell_one:=ok_tell_one (P:=P) (w:=w) (base:=base) T U V.tell_one
  have G_tell_places:=ok_tell_places (P:=P) (w:=w) (base:=base) T U V.tell_places G_has_quantity G_list_places
  have G_tell_state:=ok_tell_state (P:=P) (w:=w) (base:=base) T U V.tell_state
  have G_answer_call:=ok_answer_call (P:=P) (w:=w) (base:=base) T U gK hK V.answer_call G_begin G_add_quantity G_add_rule G_drop_rule G_all_states G_from_state G_seen G_goes G_tick G_count_current G_tell_one G_tell_places G_tell_state G_ask
  exact ok_answers (k:=6) T U hC F M_Plant FI bI G_split_calls G_answer_call
section
variable {K:PySem.W.Frag}{h:Heap}{mg:Str->Option Value}
theorem sg_mk {P:Program}{w:World}{a:Addr}{n:Nat}{h0 h1 h2 h3 h4 h5 h6 h7 h8 h9 h10 h11 h12:Int}{t0 u0 t1 u1 t2 u2 t3 u3 t4 u4 t5 u5 t6 u6 t7 u7 t8 u8 t9 u9 t10 u10 t11 u11 t12 u12:Tok} (X:K.In h) (G:h.Ns mainGlobals mg) (ha:PySem.W.nsIn K mainGlobals "SIGNS"=some (some (.ref a))) (l:K.lookup a=some ⟨.type "dict",none,.dict #[⟨h0,.str "ahead" t0,.str "k" u0⟩,⟨h1,.str "later" t1,.str "ik" u1⟩,⟨h2,.str "ever" t2,.str "i" u2⟩,⟨h3,.str "reach" t3,.str "" u3⟩,⟨h4,.str "may" t4,.str "ip" u4⟩,⟨h5,.str "path" t5,.str "ip" u5⟩,⟨h6,.str "must" t6,.str "ip" u6⟩,⟨h7,.str "avoid" t7,.str "ip" u7⟩,⟨h8,.str "both" t8,.str "ipip" u8⟩,⟨h9,.str "only" t9,.str "ipip" u9⟩,⟨h10,.str "rest" t10,.str "" u10⟩,⟨h11,.str "stuck" t11,.str "" u11⟩,⟨h12,.str "round_way" t12,.str "" u12⟩] n,#[]⟩)
    (e0:h0=(mixKind P w).hash (.inr "ahead")) (e1:h1=(mixKind P w).hash (.inr "later")) (e2:h2=(mixKind P w).hash (.inr "ever")) (e3:h3=(mixKind P w).hash (.inr "reach")) (e4:h4=(mixKind P w).hash (.inr "may")) (e5:h5=(mixKind P w).hash (.inr "path")) (e6:h6=(mixKind P w).hash (.inr "must")) (e7:h7=(mixKind P w).hash (.inr "avoid")) (e8:h8=(mixKind P w).hash (.inr "both")) (e9:h9=(mixKind P w).hash (.inr "only")) (e10:h10=(mixKind P w).hash (.inr "rest")) (e11:h11=(mixKind P w).hash (.inr "stuck")) (e12:h12=(mixKind P w).hash (.inr "round_way")):∃ a,mg "SIGNS"=some (.ref a)/\SX.DTop P w K a sgK:=by
  refine⟨a,PySem.W.mg_of X G ha,?_⟩
  intro h' KX
  refine⟨[(.inr "ahead",.str "k" u0),(.inr "later",.str "ik" u1),(.inr "ever",.str "i" u2),(.inr "reach",.str "" u3),(.inr "may",.str "ip" u4),(.inr "path",.str "ip" u5),(.inr "must",.str "ip" u6),(.inr "avoid",.str "ip" u7),(.inr "both",.str "ipip" u8),(.inr "only",.str "ipip" u9),(.inr "rest",.str "" u10),(.inr "stuck",.str "" u11),(.inr "round_way",.str "" u12)],?_,_,_,n,KX _ _ l,⟨rfl,rfl,rfl⟩,rfl,?_,?_,?_⟩
  · exact .cons ⟨rfl,⟨u0,rfl⟩⟩ (.cons ⟨rfl,⟨u1,rfl⟩⟩ (.cons ⟨rfl,⟨u2,rfl⟩⟩ (.cons ⟨rfl,⟨u3,rfl⟩⟩ (.cons ⟨rfl,⟨u4,rfl⟩⟩ (.cons ⟨rfl,⟨u5,rfl⟩⟩ (.cons ⟨rfl,⟨u6,rfl⟩⟩ (.cons ⟨rfl,⟨u7,rfl⟩⟩ (.cons ⟨rfl,⟨u8,rfl⟩⟩ (.cons ⟨rfl,⟨u9,rfl⟩⟩ (.cons ⟨rfl,⟨u10,rfl⟩⟩ (.cons ⟨rfl,⟨u11,rfl⟩⟩ (.cons ⟨rfl,⟨u12,rfl⟩⟩ .nil))))))))))))
  · intro e he
    have he:e∈([⟨h0,.str "ahead" t0,.str "k" u0⟩,⟨h1,.str "later" t1,.str "ik" u1⟩,⟨h2,.str "ever" t2,.str "i" u2⟩,⟨h3,.str "reach" t3,.str "" u3⟩,⟨h4,.str "may" t4,.str "ip" u4⟩,⟨h5,.str "path" t5,.str "ip" u5⟩,⟨h6,.str "must" t6,.str "ip" u6⟩,⟨h7,.str "avoid" t7,.str "ip" u7⟩,⟨h8,.str "both" t8,.str "ipip" u8⟩,⟨h9,.str "only" t9,.str "ipip" u9⟩,⟨h10,.str "rest" t10,.str "" u10⟩,⟨h11,.str "stuck" t11,.str "" u11⟩,⟨h12,.str "round_way" t12,.str "" u12⟩]:List DictEntry):=by simpa using he
    simp only [List.mem_cons,List.not_mem_nil,or_false] at he
    rcases he with rfl | rfl | rfl | rfl | rfl | rfl | rfl | rfl | rfl | rfl | rfl | rfl | rfl
    · exact⟨.inr "ahead",mixKind_str P w _ t0,e0⟩
    · exact⟨.inr "later",mixKind_str P w _ t1,e1⟩
    · exact⟨.inr "ever",mixKind_str P w _ t2,e2⟩
    · exact⟨.inr "reach",mixKind_str P w _ t3,e3⟩
    · exact⟨.inr "may",mixKind_str P w _ t4,e4⟩
    · exact⟨.inr "path",mixKind_str P w _ t5,e5⟩
    · exact⟨.inr "must",mixKind_str P w _ t6,e6⟩
    · exact⟨.inr "avoid",mixKind_str P w _ t7,e7⟩
    · exact⟨.inr "both",mixKind_str P w _ t8,e8⟩
    · exact⟨.inr "only",mixKind_str P w _ t9,e9⟩
    · exact⟨.inr "rest",mixKind_str P w _ t10,e10⟩
    · exact⟨.inr "stuck",mixKind_str P w _ t11,e11⟩
    · exact⟨.inr "round_way",mixKind_str P w _ t12,e12⟩
  · exact .cons (mixKind_str P w _ t0) rfl (.cons (mixKind_str P w _ t1) rfl (.cons (mixKind_str P w _ t2) rfl (.cons (mixKind_str P w _ t3) rfl (.cons (mixKind_str P w _ t4) rfl (.cons (mixKind_str P w _ t5) rfl (.cons (mixKind_str P w _ t6) rfl (.cons (mixKind_str P w _ t7) rfl (.cons (mixKind_str P w _ t8) rfl (.cons (mixKind_str P w _ t9) rfl (.cons (mixKind_str P w _ t10) rfl (.cons (mixKind_str P w _ t11) rfl (.cons (mixKind_str P w _ t12) rfl .nil))))))))))))
  · show ([.inr "ahead",.inr "later",.inr "ever",.inr "reach",.inr "may",.inr "path",.inr "must",.inr "avoid",.inr "both",.inr "only",.inr "rest",.inr "stuck",.inr "round_way"]:List Key).Nodup
    decide +kernel
theorem kd_mk {a:Addr}{od:Option Addr}{sl:Array (Option Value)}{n:Nat}{t0 t1 t2 t3 t4 t5:Tok} (X:K.In h) (G:h.Ns mainGlobals mg) (ha:PySem.W.nsIn K mainGlobals "KINDS"=some (some (.ref a))) (l:K.lookup a=some ⟨.type "tuple",od,.seq #[.str "more" t0,.str "less" t1,.str "sum_of" t2,.str "rate" t3,.str "still" t4,.str "meet" t5] n,sl⟩):∃ a,mg "KINDS"=some (.ref a)/\∀ H,SqT K H a kindsV:=
  ⟨a,PySem.W.mg_of X G ha,tup_mk l (by show 6<=sizeLine;decide) (.cons ⟨t0,rfl⟩ (.cons ⟨t1,rfl⟩ (.cons ⟨t2,rfl⟩ (.cons ⟨t3,rfl⟩ (.cons ⟨t4,rfl⟩ (.cons ⟨t5,rfl⟩ .nil))))))⟩
theorem plant_mk {C f1:Addr}{od1 an1:Option Addr}{sl1:Array (Option Value)}{oc1 kV1 dc1 pm1 cd1 ct1:Value} (X:K.In h) (G:h.Ns mainGlobals mg) (aC:PySem.W.nsIn K mainGlobals "Plant"=some (some (.ref C)))
    (a1:PySem.W.findIn K (.ref C) "__init__"=some (some (.ref f1))) (i1:PySem.W.isFn K (.ref f1)=true) (l1:K.lookup f1=some ⟨oc1,od1,.func (PySem.W.fnOf "__init__" "Plant.__init__" (defArgs s_init) (defBody s_init) (defScope s_init) .none kV1 dc1 pm1 an1 cd1 ct1),sl1⟩) (c1:PySem.W.codeIn K cd1 "Plant.__init__"=true) (k1:PySem.W.keepIn K (.ref f1)=true)
    (pg:PySem.W.plainGet K C Str.empty=true) (hd:PySem.W.hasDictIn K C=true) (po:PySem.W.plainOver K C=true) (sa:PySem.W.findIn K (.ref C) "__setattr__"=some (some (.builtin "object.__setattr__"))) (mk:PySem.W.makesIn K C=true) (kc:PySem.W.keepIn K (.ref C)=true)
    (nB:PySem.W.findIn K (.ref C) "begun"=some none) (nM:PySem.W.findIn K (.ref C) "marks"=some none) (nR:PySem.W.findIn K (.ref C) "rules"=some none) (nF:PySem.W.findIn K (.ref C) "fitting"=some none) (nC:PySem.W.findIn K (.ref C) "current"=some none) :
    ∃ (C fI:Addr) (fdI:FuncData),PC K C/\mg "Plant"=some (.ref C)/\Mk K C fI/\Fun K "__init__" "Plant.__init__" s_init fI fdI/\Binds K fdI ["self"] []:=by
  have F1:=fun_mk (st:=s_init) l1 c1 k1
  have b1:=F1.binds (ps:=["self"]) fun _ _ _ _ _ _ us hl=>match us,hl with | [_],_=>rfl
  exact⟨C,f1,_,⟨⟨pg,hd,po,sa⟩,nB,nM,nR,nF,nC⟩,PySem.W.mg_of X G aC,⟨mk,a1,i1,kc⟩,F1,b1⟩
theorem ways_mk {C f1:Addr}{od1 an1:Option Addr}{sl1:Array (Option Value)}{oc1 kV1 dc1 pm1 cd1 ct1:Value} (X:K.In h) (G:h.Ns mainGlobals mg) (aC:PySem.W.nsIn K mainGlobals "Ways"=some (some (.ref C)))
    (a1:PySem.W.findIn K (.ref C) "__init__"=some (some (.ref f1))) (i1:PySem.W.isFn K (.ref f1)=true) (l1:K.lookup f1=some ⟨oc1,od1,.func (PySem.W.fnOf "__init__" "Ways.__init__" (defArgs s_winit) (defBody s_winit) (defScope s_winit) .none kV1 dc1 pm1 an1 cd1 ct1),sl1⟩) (c1:PySem.W.codeIn K cd1 "Ways.__init__"=true) (k1:PySem.W.keepIn K (.ref f1)=true)
    (pg:PySem.W.plainGet K C Str.empty=true) (hd:PySem.W.hasDictIn K C=true) (po:PySem.W.plainOver K C=true) (sa:PySem.W.findIn K (.ref C) "__setattr__"=some (some (.builtin "object.__setattr__"))) (mk:PySem.W.makesIn K C=true) (kc:PySem.W.keepIn K (.ref C)=true)
    (nS:PySem.W.findIn K (.ref C) "states"=some none) (nF:PySem.W.findIn K (.ref C) "followers"=some none) (nT:PySem.W.findIn K (.ref C) "starts"=some none):∃ C:Addr,WC K C/\∀ (P:Program) (w:World) (base:Heap),MkW P w K mg base C:=by
  have F1:=fun_mk (st:=s_winit) l1 c1 k1
  have b1:=F1.binds (ps:=["self","states","followers","starts"]) fun _ _ _ _ _ _ us hl=>match us,hl with | [_,_,_,_],_=>rfl
  have U:WC K C:=⟨⟨pg,hd,po,sa⟩,nS,nF,nT⟩
  exact⟨C,U,fun P w base=>⟨f1,_,PySem.W.mg_of X G aC,⟨mk,a1,i1,kc⟩,b1,ok_winit U F1⟩⟩
theorem ans_mk {P:Program}{w:World}{fa f3:Addr}{od3 an3:Option Addr}{sl3:Array (Option Value)}{oc3 kV3 dc3 pm3 cd3 ct3:Value} (X:K.In h) (G:h.Ns mainGlobals mg) (hfa:mg "answers"=some (.ref fa))
    (a3:PySem.W.nsIn K mainGlobals "answers"=some (some (.ref f3))) (l3:K.lookup f3=some ⟨oc3,od3,.func (PySem.W.fnOf "answers" "answers" (defArgs s_answers) (defBody s_answers) (defScope s_answers) .none kV3 dc3 pm3 an3 cd3 ct3),sl3⟩) (c3:PySem.W.codeIn K cd3 "answers"=true) (k3:PySem.W.keepIn K (.ref f3)=true)
    (all:∀ (fda:FuncData) (base:Heap),Fun K "answers" "answers" s_answers fa fda->FnOk P w K mg base CX0 9 fa fda ["calls"] (spAns K)) :
    ∃ fd:FuncData,(∀ (s:Shared) (us:List Value),us.length=(["calls"]:List Str).length->BindsTo s fd ⟨us,[]⟩ ((["calls"]:List Str).zip us))/\∀ base:Heap,K.In base->base.Ns mainGlobals mg->FnOk P w K mg base CX0 9 fa fd ["calls"] (spAns K):=by
  have e:=hfa.symm.trans (PySem.W.mg_of X G a3)
  cases e
  exact⟨PySem.W.fnOf "answers" "answers" (defArgs s_answers) (defBody s_answers) (defScope s_answers) .none kV3 dc3 pm3 an3 cd3 ct3,fun s us hu=>match us,hu with | [_],_=>.of_eq rfl,fun base _ _=>all _ base (fun_mk (st:=s_answers) l3 c3 k3)⟩
end
end Sp
end
end
open PySem PySem.W PyProof.Rows
inductive PySem.W.Fast:Prop
|tw15727138318321187520|tw14202063718398632755|tw15518755762590899821|tw9809838389260869556|tw6726811805599889709|tw5209900154320981359|tw6064447345599890822|tw14779925994324605637|tw4692443439065633514|tw13798656673723204567|tw2175212977924763605|tw8215931394217068923|tw17677190136442166463|tw5231155475755152219|tw11640942158317992481|tw10192998321091763697|tw1249567749431085652|tw2145201540664720422|tw3512016235966245924|tw6774467802050500070|tw17373667454918732996|tw16923005577770660470|tw4615396744755409303|tw12512754708831813985|tw16585966654817857072|tw12697938383331115058|tw13756958192998926587|tw1803774733894051011|tw16097478367373276924|tw12109134323437073465|tw13045379149261063850|tw11436862401016814977|tw16481572334480549527|tw17949394087564475664|tw10768903225983064789|tw15570921325862086035|tw6110543926153639492|tw4125443585340148542|tw16674810191703069155|tw3383501445458135811|tw16329455528490471043|tw3723454093992020129|tw13654376261031087511|tw12274231647259892829|tw9611213780142544261|tw14726435374396814723|tw2082408932692940482|tw2356455651390471180|tw15292624087810465400|tw3749915635320637566|tw3692411669472819610|tw10951498788131420656|tw18233325937443083523|tw2251555646411768244|tw746261046895785822|tw3050036134314275805|tw9198224507320618932|tw9994560454273045231|tw13469025953990106110|tw7341822434394759257|tw17610780958970263940|tw764067285559248964|tw15568987855956354562|tw11957260691700366814|tw11440057445038217790|tw6122938376743763775|tw5659316311832254691|tw3274576035390495372|tw14867212219510495025|tw13024315251774733661|tw337091071471481129|tw9319358155206089744|tw9196186022352071789|tw15570937892389136439|tw1745440180390164756|tw11128481158558387308|tw12434160302422713881|tw12165072566223914561|tw7901142193857724922|tw17743845255591122820|tw6207623944091877815|tw5308591319945917001|tw4510893808831785125|tw11613239926137408504|tw7985791828624017484|tw8772731997752717788|tw4065577237711403761|tw7535869892116331890|tw7613467577100405591|tw9978066310556435501|tw671397425780351980|tw6413791862809137720|tw11358394649224211576|tw8780424594181237150|tw12882742316020556833|tw8466964802492825356|tw1175241679469587187|tw2299168924776153655|tw12524440609839175262|tw5658129524345468943|tw4834269141903204896|tw81390051130023717|tw8277320003340743043|tw6461289954205220364|tw489579632481188507|tw17912809313520285543|tw7701638627155613083|tw16194829580123784206|tw13748567574393066613|tw15999858460555088613|tw4347010133297564792|tw6320801758310137|tw3120768837366077622|tw3441573855612337934|tw14703170355288874781|tw14633570958283139537|tw322561299438615157|tw3426467908534621356
set_option Elab.async false
set_option maxRecDepth 100000 in
set_option maxHeartbeats 0 in
theorem PySem.Challenge.cw_signplant_s01_answers_holds : PySem.Challenge.rw_signplant_s01_answers.Holds := by
  w_on;k_headS;(case hw=>exact⟨[.list []],by decide +kernel,by decide +kernel⟩)
  k_fillS
  refine L2.walk_specK (r:=PySem.Challenge.rw_signplant_s01_answers) (k:=9) (CX:=L2.CX0) (ps:=["calls"]) (sp:=Sp.spAns) (by decide +kernel) rfl rfl ⟨rfl,by decide,by decide⟩ (fun w h Y=>PySem.W.kIn_of Y) ?F ?S (fun _ _ _ _ z=>z)
  case F=>
    intro w mg fa h Y KX G hmg
    have D_count_places:=Sp.def_mk (x:="count_places") (st:=Sp.s_count_places) KX G (by k_is) (by k_is) (by k_is) (by k_is)
    have D_mark_place:=Sp.def_mk (x:="mark_place") (st:=Sp.s_mark_place) KX G (by k_is) (by k_is) (by k_is) (by k_is)
    have D_is_mark:=Sp.def_mk (x:="is_mark") (st:=Sp.s_is_mark) KX G (by k_is) (by k_is) (by k_is) (by k_is)
    have D_list_pairs:=Sp.def_mk (x:="list_pairs") (st:=Sp.s_list_pairs) KX G (by k_is) (by k_is) (by k_is) (by k_is)
    have D_later_places:=Sp.def_mk (x:="later_places") (st:=Sp.s_later_places) KX G (by k_is) (by k_is) (by k_is) (by k_is)
    have D_pair_follows:=Sp.def_mk (x:="pair_follows") (st:=Sp.s_pair_follows) KX G (by k_is) (by k_is) (by k_is) (by k_is)
    have D_rule_quantities:=Sp.def_mk (x:="rule_quantities") (st:=Sp.s_rule_quantities) KX G (by k_is) (by k_is) (by k_is) (by k_is)
    have D_rule_marks:=Sp.def_mk (x:="rule_marks") (st:=Sp.s_rule_marks) KX G (by k_is) (by k_is) (by k_is) (by k_is)
    have D_place_of:=Sp.def_mk (x:="place_of") (st:=Sp.s_place_of) KX G (by k_is) (by k_is) (by k_is) (by k_is)
    have D_direction_of:=Sp.def_mk (x:="direction_of") (st:=Sp.s_direction_of) KX G (by k_is) (by k_is) (by k_is) (by k_is)
    have D_side_of_mark:=Sp.def_mk (x:="side_of_mark") (st:=Sp.s_side_of_mark) KX G (by k_is) (by k_is) (by k_is) (by k_is)
    have D_less_holds:=Sp.def_mk (x:="less_holds") (st:=Sp.s_less_holds) KX G (by k_is) (by k_is) (by k_is) (by k_is)
    have D_sum_holds:=Sp.def_mk (x:="sum_holds") (st:=Sp.s_sum_holds) KX G (by k_is) (by k_is) (by k_is) (by k_is)
    have D_rule_holds:=Sp.def_mk (x:="rule_holds") (st:=Sp.s_rule_holds) KX G (by k_is) (by k_is) (by k_is) (by k_is)
    have D_add_pairs:=Sp.def_mk (x:="add_pairs") (st:=Sp.s_add_pairs) KX G (by k_is) (by k_is) (by k_is) (by k_is)
    have D_list_states:=Sp.def_mk (x:="list_states") (st:=Sp.s_list_states) KX G (by k_is) (by k_is) (by k_is) (by k_is)
    have D_fitting_states:=Sp.def_mk (x:="fitting_states") (st:=Sp.s_fitting_states) KX G (by k_is) (by k_is) (by k_is) (by k_is)
    have D_is_state:=Sp.def_mk (x:="is_state") (st:=Sp.s_is_state) KX G (by k_is) (by k_is) (by k_is) (by k_is)
    have D_state_follows:=Sp.def_mk (x:="state_follows") (st:=Sp.s_state_follows) KX G (by k_is) (by k_is) (by k_is) (by k_is)
    have D_follows_some:=Sp.def_mk (x:="follows_some") (st:=Sp.s_follows_some) KX G (by k_is) (by k_is) (by k_is) (by k_is)
    have D_list_followers:=Sp.def_mk (x:="list_followers") (st:=Sp.s_list_followers) KX G (by k_is) (by k_is) (by k_is) (by k_is)
    have D_list_places:=Sp.def_mk (x:="list_places") (st:=Sp.s_list_places) KX G (by k_is) (by k_is) (by k_is) (by k_is)
    have D_ways_from_now:=Sp.def_mk (x:="ways_from_now") (st:=Sp.s_ways_from_now) KX G (by k_is) (by k_is) (by k_is) (by k_is)
    have D_numbers_at:=Sp.def_mk (x:="numbers_at") (st:=Sp.s_numbers_at) KX G (by k_is) (by k_is) (by k_is) (by k_is)
    have D_ways_without:=Sp.def_mk (x:="ways_without") (st:=Sp.s_ways_without) KX G (by k_is) (by k_is) (by k_is) (by k_is)
    have D_all_after:=Sp.def_mk (x:="all_after") (st:=Sp.s_all_after) KX G (by k_is) (by k_is) (by k_is) (by k_is)
    have D_after_moments:=Sp.def_mk (x:="after_moments") (st:=Sp.s_after_moments) KX G (by k_is) (by k_is) (by k_is) (by k_is)
    have D_befores:=Sp.def_mk (x:="befores") (st:=Sp.s_befores) KX G (by k_is) (by k_is) (by k_is) (by k_is)
    have D_way_to:=Sp.def_mk (x:="way_to") (st:=Sp.s_way_to) KX G (by k_is) (by k_is) (by k_is) (by k_is)
    have D_shortest_way:=Sp.def_mk (x:="shortest_way") (st:=Sp.s_shortest_way) KX G (by k_is) (by k_is) (by k_is) (by k_is)
    have D_moments_beyond:=Sp.def_mk (x:="moments_beyond") (st:=Sp.s_moments_beyond) KX G (by k_is) (by k_is) (by k_is) (by k_is)
    have D_shortest_round:=Sp.def_mk (x:="shortest_round") (st:=Sp.s_shortest_round) KX G (by k_is) (by k_is) (by k_is) (by k_is)
    have D_ahead:=Sp.def_mk (x:="ahead") (st:=Sp.s_ahead) KX G (by k_is) (by k_is) (by k_is) (by k_is)
    have D_places_among:=Sp.def_mk (x:="places_among") (st:=Sp.s_places_among) KX G (by k_is) (by k_is) (by k_is) (by k_is)
    have D_later:=Sp.def_mk (x:="later") (st:=Sp.s_later) KX G (by k_is) (by k_is) (by k_is) (by k_is)
    have D_ever:=Sp.def_mk (x:="ever") (st:=Sp.s_ever) KX G (by k_is) (by k_is) (by k_is) (by k_is)
    have D_reach:=Sp.def_mk (x:="reach") (st:=Sp.s_reach) KX G (by k_is) (by k_is) (by k_is) (by k_is)
    have D_moments_to:=Sp.def_mk (x:="moments_to") (st:=Sp.s_moments_to) KX G (by k_is) (by k_is) (by k_is) (by k_is)
    have D_may:=Sp.def_mk (x:="may") (st:=Sp.s_may) KX G (by k_is) (by k_is) (by k_is) (by k_is)
    have D_path:=Sp.def_mk (x:="path") (st:=Sp.s_path) KX G (by k_is) (by k_is) (by k_is) (by k_is)
    have D_ends:=Sp.def_mk (x:="ends") (st:=Sp.s_ends) KX G (by k_is) (by k_is) (by k_is) (by k_is)
    have D_must:=Sp.def_mk (x:="must") (st:=Sp.s_must) KX G (by k_is) (by k_is) (by k_is) (by k_is)
    have D_avoid:=Sp.def_mk (x:="avoid") (st:=Sp.s_avoid) KX G (by k_is) (by k_is) (by k_is) (by k_is)
    have D_both:=Sp.def_mk (x:="both") (st:=Sp.s_both) KX G (by k_is) (by k_is) (by k_is) (by k_is)
    have D_only:=Sp.def_mk (x:="only") (st:=Sp.s_only) KX G (by k_is) (by k_is) (by k_is) (by k_is)
    have D_is_steady:=Sp.def_mk (x:="is_steady") (st:=Sp.s_is_steady) KX G (by k_is) (by k_is) (by k_is) (by k_is)
    have D_rest:=Sp.def_mk (x:="rest") (st:=Sp.s_rest) KX G (by k_is) (by k_is) (by k_is) (by k_is)
    have D_stuck:=Sp.def_mk (x:="stuck") (st:=Sp.s_stuck) KX G (by k_is) (by k_is) (by k_is) (by k_is)
    have D_round_way:=Sp.def_mk (x:="round_way") (st:=Sp.s_round_way) KX G (by k_is) (by k_is) (by k_is) (by k_is)
    have D_has_quantity:=Sp.def_mk (x:="has_quantity") (st:=Sp.s_has_quantity) KX G (by k_is) (by k_is) (by k_is) (by k_is)
    have D_has_mark:=Sp.def_mk (x:="has_mark") (st:=Sp.s_has_mark) KX G (by k_is) (by k_is) (by k_is) (by k_is)
    have D_has_place:=Sp.def_mk (x:="has_place") (st:=Sp.s_has_place) KX G (by k_is) (by k_is) (by k_is) (by k_is)
    have D_too_many_fit:=Sp.def_mk (x:="too_many_fit") (st:=Sp.s_too_many_fit) KX G (by k_is) (by k_is) (by k_is) (by k_is)
    have D_settle:=Sp.def_mk (x:="settle") (st:=Sp.s_settle) KX G (by k_is) (by k_is) (by k_is) (by k_is)
    have D_numbers_by_sign:=Sp.def_mk (x:="numbers_by_sign") (st:=Sp.s_numbers_by_sign) KX G (by k_is) (by k_is) (by k_is) (by k_is)
    have D_find_refusal:=Sp.def_mk (x:="find_refusal") (st:=Sp.s_find_refusal) KX G (by k_is) (by k_is) (by k_is) (by k_is)
    have D_answer_of_places:=Sp.def_mk (x:="answer_of_places") (st:=Sp.s_answer_of_places) KX G (by k_is) (by k_is) (by k_is) (by k_is)
    have D_answer_of_ways:=Sp.def_mk (x:="answer_of_ways") (st:=Sp.s_answer_of_ways) KX G (by k_is) (by k_is) (by k_is) (by k_is)
    have D_ask:=Sp.def_mk (x:="ask") (st:=Sp.s_ask) KX G (by k_is) (by k_is) (by k_is) (by k_is)
    have D_begin:=Sp.def_mk (x:="begin") (st:=Sp.s_begin) KX G (by k_is) (by k_is) (by k_is) (by k_is)
    have D_multiply_places:=Sp.def_mk (x:="multiply_places") (st:=Sp.s_multiply_places) KX G (by k_is) (by k_is) (by k_is) (by k_is)
    have D_add_quantity:=Sp.def_mk (x:="add_quantity") (st:=Sp.s_add_quantity) KX G (by k_is) (by k_is) (by k_is) (by k_is)
    have D_names_missing_quantity:=Sp.def_mk (x:="names_missing_quantity") (st:=Sp.s_names_missing_quantity) KX G (by k_is) (by k_is) (by k_is) (by k_is)
    have D_names_missing_mark:=Sp.def_mk (x:="names_missing_mark") (st:=Sp.s_names_missing_mark) KX G (by k_is) (by k_is) (by k_is) (by k_is)
    have D_names_one_twice:=Sp.def_mk (x:="names_one_twice") (st:=Sp.s_names_one_twice) KX G (by k_is) (by k_is) (by k_is) (by k_is)
    have D_add_rule:=Sp.def_mk (x:="add_rule") (st:=Sp.s_add_rule) KX G (by k_is) (by k_is) (by k_is) (by k_is)
    have D_drop_rule:=Sp.def_mk (x:="drop_rule") (st:=Sp.s_drop_rule) KX G (by k_is) (by k_is) (by k_is) (by k_is)
    have D_take_current:=Sp.def_mk (x:="take_current") (st:=Sp.s_take_current) KX G (by k_is) (by k_is) (by k_is) (by k_is)
    have D_all_states:=Sp.def_mk (x:="all_states") (st:=Sp.s_all_states) KX G (by k_is) (by k_is) (by k_is) (by k_is)
    have D_from_state:=Sp.def_mk (x:="from_state") (st:=Sp.s_from_state) KX G (by k_is) (by k_is) (by k_is) (by k_is)
    have D_seen:=Sp.def_mk (x:="seen") (st:=Sp.s_seen) KX G (by k_is) (by k_is) (by k_is) (by k_is)
    have D_goes:=Sp.def_mk (x:="goes") (st:=Sp.s_goes) KX G (by k_is) (by k_is) (by k_is) (by k_is)
    have D_tick:=Sp.def_mk (x:="tick") (st:=Sp.s_tick) KX G (by k_is) (by k_is) (by k_is) (by k_is)
    have D_split_calls:=Sp.def_mk (x:="split_calls") (st:=Sp.s_split_calls) KX G (by k_is) (by k_is) (by k_is) (by k_is)
    have D_count_current:=Sp.def_mk (x:="count_current") (st:=Sp.s_count_current) KX G (by k_is) (by k_is) (by k_is) (by k_is)
    have D_tell_one:=Sp.def_mk (x:="tell_one") (st:=Sp.s_tell_one) KX G (by k_is) (by k_is) (by k_is) (by k_is)
    have D_tell_places:=Sp.def_mk (x:="tell_places") (st:=Sp.s_tell_places) KX G (by k_is) (by k_is) (by k_is) (by k_is)
    have D_tell_state:=Sp.def_mk (x:="tell_state") (st:=Sp.s_tell_state) KX G (by k_is) (by k_is) (by k_is) (by k_is)
    have D_answer_call:=Sp.def_mk (x:="answer_call") (st:=Sp.s_answer_call) KX G (by k_is) (by k_is) (by k_is) (by k_is)
    have T_len:mg "len"=none:=PySem.W.mg_none_of KX G (by k_is)
    have T_range:mg "range"=none:=PySem.W.mg_none_of KX G (by k_is)
    have T_list:mg "list"=none:=PySem.W.mg_none_of KX G (by k_is)
    have T_tuple:mg "tuple"=none:=PySem.W.mg_none_of KX G (by k_is)
    have T_set:mg "set"=none:=PySem.W.mg_none_of KX G (by k_is)
    have T_abs:mg "abs"=none:=PySem.W.mg_none_of KX G (by k_is)
    have T_zip:mg "zip"=none:=PySem.W.mg_none_of KX G (by k_is)
    have T_sorted:mg "sorted"=none:=PySem.W.mg_none_of KX G (by k_is)
    have T_FALLING:=Sp.int_mk (x:="FALLING") (i:=0) KX G (by k_is)
    have T_STEADY:=Sp.int_mk (x:="STEADY") (i:=1) KX G (by k_is)
    have T_RISING:=Sp.int_mk (x:="RISING") (i:=2) KX G (by k_is)
    have T_DIRECTIONS:=Sp.int_mk (x:="DIRECTIONS") (i:=3) KX G (by k_is)
    have T_NO_SUCH:=Sp.int_mk (x:="NO_SUCH") (i:=-2) KX G (by k_is)
    have T_NOT_BEGUN:=Sp.int_mk (x:="NOT_BEGUN") (i:=-11) KX G (by k_is)
    have T_NOT_RIGHT:=Sp.int_mk (x:="NOT_RIGHT") (i:=-22) KX G (by k_is)
    have T_TOO_MANY:=Sp.int_mk (x:="TOO_MANY") (i:=-28) KX G (by k_is)
    have T_CANNOT_BE:=Sp.int_mk (x:="CANNOT_BE") (i:=-33) KX G (by k_is)
    have T_MOST_MARKS:=Sp.int_mk (x:="MOST_MARKS") (i:=3) KX G (by k_is)
    have T_MOST_QUANTITIES:=Sp.int_mk (x:="MOST_QUANTITIES") (i:=4) KX G (by k_is)
    have T_MOST_PLACES:=Sp.int_mk (x:="MOST_PLACES") (i:=30) KX G (by k_is)
    have T_MOST_RULES:=Sp.int_mk (x:="MOST_RULES") (i:=8) KX G (by k_is)
    have T_MOST_FITTING:=Sp.int_mk (x:="MOST_FITTING") (i:=120) KX G (by k_is)
    have T_MOST_MOMENTS:=Sp.int_mk (x:="MOST_MOMENTS") (i:=40) KX G (by k_is)
    have T:=fun (K:PySem.W.Frag)=>(⟨T_len,T_range,T_list,T_tuple,T_set,T_abs,T_zip,T_sorted,T_FALLING,T_STEADY,T_RISING,T_DIRECTIONS,T_NO_SUCH,T_NOT_BEGUN,T_NOT_RIGHT,T_TOO_MANY,T_CANNOT_BE,T_MOST_MARKS,T_MOST_QUANTITIES,T_MOST_PLACES,T_MOST_RULES,T_MOST_FITTING,T_MOST_MOMENTS⟩:Sp.Top K mg)
    have V:Sp.Defs _ mg:=⟨D_count_places,D_mark_place,D_is_mark,D_list_pairs,D_later_places,D_pair_follows,D_rule_quantities,D_rule_marks,D_place_of,D_direction_of,D_side_of_mark,D_less_holds,D_sum_holds,D_rule_holds,D_add_pairs,D_list_states,D_fitting_states,D_is_state,D_state_follows,D_follows_some,D_list_followers,D_list_places,D_ways_from_now,D_numbers_at,D_ways_without,D_all_after,D_after_moments,D_befores,D_way_to,D_shortest_way,D_moments_beyond,D_shortest_round,D_ahead,D_places_among,D_later,D_ever,D_reach,D_moments_to,D_may,D_path,D_ends,D_must,D_avoid,D_both,D_only,D_is_steady,D_rest,D_stuck,D_round_way,D_has_quantity,D_has_mark,D_has_place,D_too_many_fit,D_settle,D_numbers_by_sign,D_find_refusal,D_answer_of_places,D_answer_of_ways,D_ask,D_begin,D_multiply_places,D_add_quantity,D_names_missing_quantity,D_names_missing_mark,D_names_one_twice,D_add_rule,D_drop_rule,D_take_current,D_all_states,D_from_state,D_seen,D_goes,D_tick,D_split_calls,D_count_current,D_tell_one,D_tell_places,D_tell_state,D_answer_call⟩
    have TB:=Sp.tab_mk KX G (by k_is) (by k_is)
      (Sp.row_int (i:=0) (by k_is) (by decide +kernel) (by decide +kernel))
      (Sp.row_int (i:=1) (by k_is) (by decide +kernel) (by decide +kernel))
      (Sp.row_int (i:=2) (by k_is) (by decide +kernel) (by decide +kernel))
      (Sp.row_int (i:=3) (by k_is) (by decide +kernel) (by decide +kernel))
      (Sp.row_int (i:=4) (by k_is) (by decide +kernel) (by decide +kernel))
      (Sp.row_int (i:=5) (by k_is) (by decide +kernel) (by decide +kernel))
      (Sp.row_int (i:=6) (by k_is) (by decide +kernel) (by decide +kernel))
      (Sp.row_int (i:=7) (by k_is) (by decide +kernel) (by decide +kernel))
      (Sp.row_int (i:=8) (by k_is) (by decide +kernel) (by decide +kernel))
      (Sp.row_int (i:=9) (by k_is) (by decide +kernel) (by decide +kernel))
      (Sp.row_non (i:=10) (by k_is) (by decide +kernel) (by decide +kernel))
      (Sp.row_int (i:=11) (by k_is) (by decide +kernel) (by decide +kernel))
      (Sp.row_int (i:=12) (by k_is) (by decide +kernel) (by decide +kernel))
      (Sp.row_int (i:=13) (by k_is) (by decide +kernel) (by decide +kernel))
      (Sp.row_int (i:=14) (by k_is) (by decide +kernel) (by decide +kernel))
      (Sp.row_int (i:=15) (by k_is) (by decide +kernel) (by decide +kernel))
      (Sp.row_int (i:=16) (by k_is) (by decide +kernel) (by decide +kernel))
      (Sp.row_int (i:=17) (by k_is) (by decide +kernel) (by decide +kernel))
      (Sp.row_int (i:=18) (by k_is) (by decide +kernel) (by decide +kernel))
      (Sp.row_int (i:=19) (by k_is) (by decide +kernel) (by decide +kernel))
      (Sp.row_int (i:=20) (by k_is) (by decide +kernel) (by decide +kernel))
      (Sp.row_int (i:=21) (by k_is) (by decide +kernel) (by decide +kernel))
      (Sp.row_int (i:=22) (by k_is) (by decide +kernel) (by decide +kernel))
      (Sp.row_int (i:=23) (by k_is) (by decide +kernel) (by decide +kernel))
      (Sp.row_int (i:=24) (by k_is) (by decide +kernel) (by decide +kernel))
      (Sp.row_int (i:=25) (by k_is) (by decide +kernel) (by decide +kernel))
      (Sp.row_int (i:=26) (by k_is) (by decide +kernel) (by decide +kernel))
      (Sp.row_int (i:=27) (by k_is) (by decide +kernel) (by decide +kernel))
      (Sp.row_int (i:=28) (by k_is) (by decide +kernel) (by decide +kernel))
      (Sp.row_int (i:=29) (by k_is) (by decide +kernel) (by decide +kernel))
      (Sp.row_int (i:=30) (by k_is) (by decide +kernel) (by decide +kernel))
    obtain ⟨C,fI,fdI,U,hC,M,FI,bI⟩:=Sp.plant_mk KX G (by k_is) (by k_is) (by k_is) (by k_is) (by k_is) (by k_is) (by k_is) (by k_is) (by k_is) (by k_is) (by k_is) (by k_is) (by k_is) (by k_is) (by k_is) (by k_is) (by k_is)
    obtain ⟨CW,UW,MW⟩:=Sp.ways_mk KX G (by k_is) (by k_is) (by k_is) (by k_is) (by k_is) (by k_is) (by k_is) (by k_is) (by k_is) (by k_is) (by k_is) (by k_is) (by k_is) (by k_is) (by k_is)
    obtain ⟨aK,gK,hK⟩:=Sp.kd_mk KX G (by k_is) (by k_is)
    obtain ⟨aG,gS,hS⟩:=Sp.sg_mk (P:=PySem.Challenge.rw_signplant_s01_answers.prog) (w:=w) KX G (by k_is) (by k_is) (by rfl) (by rfl) (by rfl) (by rfl) (by rfl) (by rfl) (by rfl) (by rfl) (by rfl) (by rfl) (by rfl) (by rfl) (by rfl)
    exact Sp.ans_mk KX G hmg (by k_is) (by k_is) (by k_is) (by k_is) fun fda base F=>Sp.all_ok (T _) V U UW hC M FI bI MW TB gS hS gK hK F
  case S=>
    intro K H xs a hO hwi hask hx
    cases hx with
    | cons h1 h2=>
      cases h2
      cases h1 with
      | lst hs ha=>
        have e:=L2.ints_dw a.1 _ ha
        subst e
        have q:((Codec.inLen 0 7800 a.1&&a.1.all (Codec.inInt 0 4294967295))&&true)=true:=hwi
        rw [Bool.and_eq_true,Bool.and_eq_true] at q
        refine⟨_,a.1,rfl,hs,(Codec.inNat_iff.mp q.1.1).2,?_,hask,fun H' p hp=>.lst (L2.SqL.of hp) (L2.dw_ints _)⟩
        intro x hx
        have:=List.all_eq_true.mp q.1.2 x hx
        exact (Codec.inInt_iff.mp this).1
