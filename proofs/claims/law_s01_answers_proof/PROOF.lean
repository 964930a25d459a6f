import PyProof.Rows.All
import Wide.All
import OpenK.AllK
import OpenK.KOwn
import Wide.FinOn
import PyProof.EqAt
import PyProof.EqKinds
import PyProof.TupleCall
import KE.BitLaws
import Open.SpecLaws
import KE.OsHead
import KE.OsGo
import PySem.Challenge.RW_hedgemerge_s01_answers
set_option Elab.async false
set_option linter.all false
set_option maxRecDepth 100000
set_option maxHeartbeats 4000000
section
namespace L2
open PySem PySem.Spec PyProof.Rows
abbrev Key:=Sum Int Str
def Jh:Key->Value->Bool
  | .inl k,v=>Value.isInt k v
  | .inr x,v=>Value.isStrOf x v
def keyH (w:World):Key->Int
  | .inl k=>hashInt k
  | .inr x=>hashStr w x
theorem yM:∀{k:Key} {v:Value},Jh k v=true->(∃i t,k=Sum.inl i/\v=Value.int i t)\/(∃x t,k=Sum.inr x/\v=Value.str x t)
  | .inl i,v,h=>by
    obtain⟨t,e⟩:=Value.isInt_shape (k:=i) (v:=v) h
    exact .inl ⟨i,t,rfl,e⟩
  | .inr x,v,h=>by
    obtain⟨t,e⟩:=Value.isStrOf_shape (x:=x) (v:=v) h
    exact .inr ⟨x,t,rfl,e⟩
theorem OP (i:Int) (t:Tok):Jh (.inl i) (.int i t)=true:=by simp [Jh,Value.isInt]
theorem OS (x:Str) (t:Tok):Jh (.inr x) (.str x t)=true:=by simp [Jh,Value.isStrOf]
theorem zcn (a b:Int):decide ((Sum.inl a:Key)=Sum.inl b)=(a == b):=by
  by_cases e:a=b
  · subst e;simp
  · have h:¬(Sum.inl a:Key)=Sum.inl b:=fun q=>e (Sum.inl.inj q)
    rw [decide_eq_false h]
    exact(beq_eq_false_iff_ne.mpr e).symm
theorem zc2 (a b:Str):decide ((Sum.inr a:Key)=Sum.inr b)=decide (a=b):=by
  by_cases e:a=b
  · subst e;simp
  · have h:¬(Sum.inr a:Key)=Sum.inr b:=fun q=>e (Sum.inr.inj q)
    rw [decide_eq_false h,decide_eq_false e]
theorem zby (a:Int) (b:Str):decide ((Sum.inl a:Key)=Sum.inr b)=false:=decide_eq_false (fun q=>nomatch q)
theorem zco (a:Str) (b:Int):decide ((Sum.inr a:Key)=Sum.inl b)=false:=decide_eq_false (fun q=>nomatch q)
def yW (prog:Program) (w:World):PySem.KeyKind prog w Key where
  is:=Jh
  hash:=keyH w
  inj:=fun v a b ha hb=>by
    rcases yM ha with ⟨i,t,rfl,rfl⟩ | ⟨x,t,rfl,rfl⟩
    · rcases yM hb with ⟨j,u,rfl,e⟩ | ⟨y,u,rfl,e⟩
      · injection e with e1 _;rw [e1]
      · exact nomatch e
    · rcases yM hb with ⟨j,u,rfl,e⟩ | ⟨y,u,rfl,e⟩
      · exact nomatch e
      · injection e with e1 _;rw [e1]
  byValue:=fun k v h=>by
    rcases yM h with ⟨i,t,rfl,rfl⟩ | ⟨x,t,rfl,rfl⟩ <;> rfl
  pyHash:=fun hv h=>by
    rcases yM hv with ⟨i,t,rfl,rfl⟩ | ⟨x,t,rfl,rfl⟩
    · exact wpAny_pyHash_int h
    · exact wpAny_pyHash_str h
  eqBool:=fun hu hv h=>by
    rcases yM hu with ⟨i,t,rfl,rfl⟩ | ⟨x,t,rfl,rfl⟩
    · rcases yM hv with ⟨j,u,rfl,rfl⟩ | ⟨y,u,rfl,rfl⟩
      · rw [zcn] at h;exact wpAny_eqBool_int h
      · rw [zby] at h;exact SeqAt.EqAt.int_str i t y u _ _ _ _ h
    · rcases yM hv with ⟨j,u,rfl,rfl⟩ | ⟨y,u,rfl,rfl⟩
      · rw [zco] at h;exact SeqAt.EqAt.str_int x t j u _ _ _ _ h
      · rw [zc2] at h;exact wpAny_eqBool_str h
  «strs»:=fun k x t v h=>by
    rcases yM h with ⟨i,u,rfl,e⟩ | ⟨y,u,rfl,e⟩
    · exact nomatch e
    · injection e with e1 _
      subst e1
      cases v <;> rfl
theorem UK (prog:Program) (w:World) (i:Int) (t:Tok):(yW prog w).is (.inl i) (.int i t)=true:=OP i t
theorem UF (prog:Program) (w:World) (x:Str) (t:Tok):(yW prog w).is (.inr x) (.str x t)=true:=OS x t
end L2
namespace L2
open PySem PySem.Spec PyProof.Rows
inductive V where
  | non | bl (b:Bool) | int (i:Int) | str (x:Str) | byt (b:Array UInt8) | flt (b:UInt64) | ref (a:Addr) | ty (n:String)
  deriving DecidableEq
def zQ:V->Value->Prop
  | .non,u=>u=Value.none
  | .bl b,u=>u=Value.bool b
  | .int i,u=>∃t,u=Value.int i t
  | .str x,u=>∃t,u=Value.str x t
  | .byt b,u=>∃t,u=Value.bytes b t
  | .flt b,u=>∃t,u=Value.float b t
  | .ref a,u=>u=Value.ref a
  | .ty n,u=>u=Value.type n
abbrev zH:List V->List Value->Prop:=Paired zQ
theorem zH.length {xs:List V} {us:List Value} (r:zH xs us):xs.length=us.length:=Paired.length r
theorem zH.get:∀{xs:List V} {us:List Value} {i:Nat} {x:V},zH xs us->xs[i]? = some x->∃u,us[i]? = some u/\zQ x u
  | _,_,_,_,.nil,e=>by simp at e
  | _,_,0,_,.cons r _,e=>by simp at e;subst e;exact⟨_,rfl,r⟩
  | _,_,i+1,x,.cons _ t,e=>by
    obtain⟨u,h1,h2⟩:=zH.get (i:=i) (x:=x) t (by simpa using e)
    exact⟨u,by simpa using h1,h2⟩
theorem zH.set {x:V} {u:Value} (r:zQ x u):∀{xs:List V} {us:List Value} (i:Nat),zH xs us->zH (xs.set i x) (us.set i u)
  | _,_,_,.nil=>.nil
  | _,_,0,.cons _ t=>.cons r t
  | _,_,i+1,.cons q t=>.cons q (zH.set r i t)
theorem zH.append:∀{xs ys:List V} {us ws:List Value},zH xs us->zH ys ws->zH (xs++ys) (us++ws)
  | _,_,_,_,.nil,s=>s
  | _,_,_,_,.cons r t,s=>.cons r (zH.append t s)
theorem zH.take:∀{xs:List V} {us:List Value} (n:Nat),zH xs us->zH (xs.take n) (us.take n)
  | _,_,0,_=>.nil
  | _,_,_+1,.nil=>.nil
  | _,_,n+1,.cons r t=>.cons r (zH.take n t)
theorem zH.drop:∀{xs:List V} {us:List Value} (n:Nat),zH xs us->zH (xs.drop n) (us.drop n)
  | _,_,0,r=>r
  | _,_,_+1,.nil=>.nil
  | _,_,n+1,.cons _ t=>zH.drop n t
def jz:Option V->Option Value->Prop
  | some v,some u=>zQ v u
  | none,none=>True
  | _,_=>False
def KV {κ:Type}:List (κ×V)->List (κ×Value)->Prop:=Paired fun(p:κ×V) (q:κ×Value)=>p.1=q.1/\zQ p.2 q.2
def kV:Key->V
  | .inl i=>.int i
  | .inr x=>.str x
inductive HO where
  | lst (xs:List V)
  | tup (xs:List V)
  | dK (kvs:List (Key×V)) | dT (kvs:List (List Key×V))
  | set (S:Int->Bool) (n:Nat)
  | ins (C dx:Addr) (fs:List (Str×V))
  | own (x:Addr)
  | xd (fs:List (Str×V))
  | met (f x:Addr)
  | rng (lo hi:Int)
  | frz (o:Obj) (u:HO)
  | tbl (ps:Array Value)
  | ext (φ:Heap->Prop)
abbrev Hp:=Addr->Option HO
def upd (H:Hp) (a:Addr) (o:HO):Hp:=fun b=>if b=a then some o else H b
theorem z7 {H:Hp} {a:Addr} {o:HO}:upd H a o a=some o:=by unfold upd;rw [if_pos rfl]
theorem z8 {H:Hp} {a b:Addr} {o:HO} (h:b≠a):upd H a o b=H b:=by unfold upd;rw [if_neg h]
theorem x6 {H:Hp} {a:Addr} {o u:HO}:upd (upd H a o) a u=upd H a u:=by
  funext b;unfold upd;split <;> rfl
theorem zd2 {H:Hp} {a b:Addr} {o u:HO} (h:H a=some o) (h':H b=some u) (d:o≠u):a≠b:=by
  intro e;subst e;rw [h] at h';exact d (Option.some.inj h')
theorem za {H:Hp} {a b:Addr} {o:HO} (h:H a=some o) (h':H b=none):a≠b:=by
  intro e;subst e;rw [h] at h';cases h'
section
variable (P:Program) (w:World)
def yF (H:Hp) (h:Heap) (a:Addr):HO->Prop
  | .lst xs=>xs.length<=sizeLine/\∃(its:List Value) (n:Nat),zH xs its/\h.get? a=some {cls:=.type "list",data:=.seq its.toArray n}
  | .tup xs=>xs.length<=sizeLine/\∃its:List Value,zH xs its/\IsTup h a its.toArray
  | .dK kvs=>kvs.length<=sizeLine/\(a == sysModules)=false/\∃vs,KV kvs vs/\h.DictOf (yW P w) a vs
  | .dT kvs=>kvs.length<=sizeLine/\(a == sysModules)=false/\∃xs:List (List Key×Addr×Value),
      Paired (fun(p:List Key×V) (q:List Key×Addr×Value)=>p.1=q.1/\H q.2.1=some (.tup (p.1.map kV))/\zQ p.2 q.2.2) kvs xs /\
      ∃o es ep,h.get? a=some o/\o.ExactDict/\o.data=.dict es ep/\es.toList=xs.map (entryOfKey (tupleKind (yW P w)))/\(xs.map (·.1)).Nodup
  | .set S n=>h.SetOf (intKind P w) a S n
  | .ins C dx fs=>H dx=some (.own a)/\fs.length<=1000/\dx≠a/\h.get? a=some (PySem.W.instObj C dx) /\
      ∃mA,h.Ns1 dx mA/\(∀f,jz (fs.lookup f) (mA f))/\PySem.Within mA (fs.map (·.1))
  | .own _=>∃o,h.get? a=some o
  | .xd fs=>∃mA,h.Ns1 a mA/\∀f,jz (fs.lookup f) (mA f)
  | .rng lo hi=>∃t u v,h.get? a=some {cls:=.type "range",data:=.fields #[.int lo t,.int hi u,.int 1 v]}
  | .frz o u=>h.get? a=some o/\yF H h a u
  | .tbl ps=>h.get? a=some {cls:=.none,data:=.fields ps}
  | .met f x=>h.get? a=some (PySem.W.methodObj (.ref f) (.ref x))
  | .ext φ=>φ h/\(∃o,h.get? a=some o)/\∀h1 h2:Heap,φ h1->(∀o,h1.get? a=some o->h2.get? a=some o)->φ h2
def HOk (H:Hp) (h:Heap):Prop:=∀a o,H a=some o->yF P w H h a o
end
section
variable {P:Program} {w:World} {H H':Hp} {h h':Heap} {a:Addr} {o:HO}
theorem yF.lt (x:yF P w H h a o):a<h.objs.size:=by
  cases o with
  | lst xs=>obtain⟨_,_,_,_,e⟩:=x;exact Heap.lt_size e
  | tup xs=>obtain⟨_,_,_,p⟩:=x;exact p.lt
  | dK kvs=>obtain⟨_,_,_,_,o,_,_,e,_⟩:=x;exact Heap.lt_size e
  | dT kvs=>obtain⟨_,_,_,_,o,_,_,e,_⟩:=x;exact Heap.lt_size e
  | set S n=>obtain⟨o,_,_,_,e,_⟩:=x;exact Heap.lt_size e
  | ins C dx fs=>obtain⟨_,_,_,e,_⟩:=x;exact Heap.lt_size e
  | own y=>obtain⟨_,e⟩:=x;exact Heap.lt_size e
  | xd fs=>obtain⟨_,⟨_,_,_,e,_⟩,_⟩:=x;exact Heap.lt_size e
  | rng lo hi=>obtain⟨_,_,_,e⟩:=x;exact Heap.lt_size e
  | frz ob u=>obtain⟨e,_⟩:=x;exact Heap.lt_size e
  | tbl ps=>exact Heap.lt_size (show h.get? a=some _ from x)
  | met f y=>exact Heap.lt_size (show h.get? a=some _ from x)
  | ext φ=>obtain⟨_,⟨_,e⟩,_⟩:=x;exact Heap.lt_size e
theorem Paired.mapP {α β:Type} {F G:α->β->Prop}:∀{l₁:List α} {l₂:List β},Paired F l₁ l₂->(∀a b,F a b->G a b)->Paired G l₁ l₂
  | _,_,.nil,_=>.nil
  | _,_,.cons r t,f=>.cons (f _ _ r) (Paired.mapP t f)
theorem yF.stay (x:yF P w H h a o) (k:∀b u,(b=a\/H b=some (.own a))->h.get? b=some u->h'.get? b=some u)
    (ho:∀b,H b=some (.own a)->H' b=some (.own a)) (ht:∀b xs,H b=some (.tup xs)->H' b=some (.tup xs)):yF P w H' h' a o:=by
  induction o with
  | lst xs=>obtain⟨z,its,n,r,e⟩:=x;exact⟨z,its,n,r,k _ _ (.inl rfl) e⟩
  | tup xs=>obtain⟨z,its,r,ob,e,c⟩:=x;exact⟨z,its,r,ob,k _ _ (.inl rfl) e,c⟩
  | dK kvs=>obtain⟨z,y,vs,r,ob,es,ep,e,c⟩:=x;exact⟨z,y,vs,r,ob,es,ep,k _ _ (.inl rfl) e,c⟩
  | dT kvs=>
    obtain⟨z,y,xs,r,ob,es,ep,e,c⟩:=x
    exact⟨z,y,xs,Paired.mapP r fun p q z=>⟨z.1,ht _ _ z.2.1,z.2.2⟩,ob,es,ep,k _ _ (.inl rfl) e,c⟩
  | set S n=>obtain⟨ob,es,ep,t,e,c⟩:=x;exact⟨ob,es,ep,t,k _ _ (.inl rfl) e,c⟩
  | ins C dx fs=>
    obtain⟨d,z,ne,e,mA,⟨od,es,ep,e2,c⟩,r⟩:=x
    exact⟨ho _ d,z,ne,k _ _ (.inl rfl) e,mA,⟨od,es,ep,k _ _ (.inr d) e2,c⟩,r⟩
  | own y=>obtain⟨ob,e⟩:=x;exact⟨ob,k _ _ (.inl rfl) e⟩
  | xd fs=>obtain⟨mA,⟨od,es,ep,e,c⟩,r⟩:=x;exact⟨mA,⟨od,es,ep,k _ _ (.inl rfl) e,c⟩,r⟩
  | rng lo hi=>obtain⟨t,u,v,e⟩:=x;exact⟨t,u,v,k _ _ (.inl rfl) e⟩
  | frz ob u ih=>obtain⟨e,q⟩:=x;exact⟨k _ _ (.inl rfl) e,ih q⟩
  | tbl ps=>
    have e:h.get? a=some {cls:=.none,data:=.fields ps}:=x
    show h'.get? a=some {cls:=.none,data:=.fields ps}
    exact k a _ (.inl rfl) e
  | met f y=>
    have e:h.get? a=some (PySem.W.methodObj (.ref f) (.ref y)):=x
    show h'.get? a=some (PySem.W.methodObj (.ref f) (.ref y))
    exact k a _ (.inl rfl) e
  | ext φ=>obtain⟨p,⟨o,e⟩,st⟩:=x;exact⟨st _ _ p fun o q=>k _ _ (.inl rfl) q,⟨o,k _ _ (.inl rfl) e⟩,st⟩
theorem HOk.lt (x:HOk P w H h) (e:H a=some o):a<h.objs.size:=(x a o e).lt
theorem HOk.fresh (x:HOk P w H h) (e:h.objs.size<=a):H a=none:=by
  cases q:H a with
  | none=>rfl
  | some u=>exact absurd (Nat.lt_of_lt_of_le (x.lt q) e) (Nat.lt_irrefl _)
theorem HOk.kept (x:HOk P w H h) (k:∀b u,h.get? b=some u->h'.get? b=some u):HOk P w H h':=fun a o e=>
  (x a o e).stay (fun b u _ q=>k b u q) (fun _ q=>q) fun _ _ q=>q
theorem HOk.laid (x:HOk P w H h) (k:∀b u,h.get? b=some u->h'.get? b=some u) (hp:h.objs.size<=a) (new:yF P w (upd H a o) h' a o):HOk P w (upd H a o) h':=fun b u e=>by
  have hn:=x.fresh hp
  by_cases hb:b=a
  · subst hb;rw [z7] at e;cases e;exact new
  · rw [z8 hb] at e
    exact(x b u e).stay (fun c v _ q=>k c v q) (fun c q=>by rw [z8 (za q hn)];exact q) fun c xs q=>by rw [z8 (za q hn)];exact q
end
def Rd (H:Hp) (a:Addr) (u:HO):Prop:=H a=some u\/∃o,H a=some (.frz o u)
theorem Rd.ok {P:Program} {w:World} {H:Hp} {h:Heap} {a:Addr} {u:HO} (r:Rd H a u) (x:HOk P w H h):yF P w H h a u:=by
  rcases r with r | ⟨o,r⟩
  · exact x a u r
  · obtain⟨_,q⟩:=x a _ r
    exact q
def Mut:Option HO->Prop
  | some (.lst _)=>True
  | some (.dK _)=>True
  | some (.dT _)=>True
  | some (.set _ _)=>True
  | some (.ins _ _ _)=>True
  | some (.ext _)=>True
  | _=>False
section
variable {P:Program} {w:World} {H:Hp} {h h':Heap} {x e:Addr} {o':HO}
theorem HOk.write (ok:HOk P w H h) (mu:Mut (H x)) (he:e=x\/H e=some (.own x)) (k:∀b u,b≠e->h.get? b=some u->h'.get? b=some u) (heo:∃u,h'.get? e=some u)
    (new:yF P w (upd H x o') h' x o'):HOk P w (upd H x o') h':=fun b u q=>by
  have nown:∀c y,H c=some (.own y)->c≠x:=fun c y r z=>by subst z;rw [r] at mu;exact mu
  have ntup:∀c xs,H c=some (.tup xs)->c≠x:=fun c xs r z=>by subst z;rw [r] at mu;exact mu
  by_cases hb:b=x
  · subst hb;rw [z7] at q;cases q;exact new
  · rw [z8 hb] at q
    by_cases hbe:b=e
    · have q':H b=some (.own x):=by
        rcases he with z | z
        · exact absurd (hbe.trans z) hb
        · rw [hbe];exact z
      rw [q] at q';cases q'
      obtain⟨v,hv⟩:=heo
      exact⟨v,by rw [hbe];exact hv⟩
    · refine(ok b u q).stay (fun c v hc r=>k c v ?_ r) (fun c r=>by rw [z8 (nown c b r)];exact r) fun c xs r=>by rw [z8 (ntup c xs r)];exact r
      rcases hc with rfl | hc
      · exact hbe
      · rintro rfl
        rcases he with z | z
        · exact nown c b hc z
        · rw [hc] at z;cases z;exact hb rfl
end
structure Un (fs ex:List Addr) (H H':Hp) (h h':Heap):Prop where
  keep:∀b o,h.get? b=some o->H b=none->b∉fs->b∉ex->h'.get? b=some o
  slot:∀b o,h.get? b=some o->H b=none->b∈fs->b∉ex->∃sl,h'.get? b=some {o with slots:=sl}
  free:∀b o,h.get? b=some o->H b=none->b∉ex->H' b=none
  there:∀b o,h.get? b=some o->b∉ex->∃o',h'.get? b=some o'
  tups:∀b xs,H b=some (.tup xs)->H' b=some (.tup xs)
  frzs:∀b o u,H b=some (.frz o u)->H' b=some (.frz o u)
  tbls:∀b ps,H b=some (.tbl ps)->∃more,H' b=some (.tbl (ps++more))
section
variable {fs fs' ex ex':List Addr} {H H1 H2:Hp} {h h1 h2 h':Heap} {a x e:Addr} {o:HO}
theorem Un.any (u:Un fs ex H H1 h h1) {b:Addr} {ob:Obj} (q:h.get? b=some ob) (n:H b=none) (hx:b∉ex):∃sl,h1.get? b=some {ob with slots:=sl}:=by
  by_cases hb:b∈fs
  · exact u.slot b ob q n hb hx
  · exact⟨ob.slots,u.keep b ob q n hb hx⟩
theorem Un.kept (k:∀b u,h.get? b=some u->h'.get? b=some u):Un fs ex H H h h':=
  ⟨fun b ob q _ _ _=>k b ob q,fun b ob q _ _ _=>⟨ob.slots,k b ob q⟩,fun _ _ _ n _=>n,fun b ob q _=>⟨ob,k b ob q⟩,fun _ _ q=>q,fun _ _ _ q=>q,fun _ ps q=>⟨#[],by rw [q];simp⟩⟩
theorem Un.refl:Un fs ex H H h h:=Un.kept fun _ _ q=>q
theorem Un.laid (k:∀b u,h.get? b=some u->h'.get? b=some u) (hp:h.objs.size<=a) (hn:H a=none):Un fs ex H (upd H a o) h h' where
  keep:=fun b u q _ _ _=>k b u q
  slot:=fun b u q _ _ _=>⟨u.slots,k b u q⟩
  free:=fun b u q n _=>by rw [z8 (Nat.ne_of_lt (Nat.lt_of_lt_of_le (Heap.lt_size q) hp))];exact n
  there:=fun b u q _=>⟨u,k b u q⟩
  tups:=fun b xs q=>by rw [z8 (za q hn)];exact q
  frzs:=fun b u xs q=>by rw [z8 (za q hn)];exact q
  tbls:=fun b ps q=>⟨#[],by rw [z8 (za q hn),q];simp⟩
theorem Un.write (mu:Mut (H x)) (he:e=x\/H e=some (.own x)) (k:∀b u,b≠e->h.get? b=some u->h'.get? b=some u) (heo:∃u,h'.get? e=some u):Un fs ex H (upd H x o) h h':=by
  have hx:∀b,H b=none->b≠x:=fun b n z=>by subst z;rw [n] at mu;exact mu
  have hb:∀b,H b=none->b≠e:=fun b n z=>by
    subst z
    rcases he with r | r
    · exact hx b n r
    · rw [n] at r;cases r
  have hm:∀b u,H b=some u->¬Mut (some u)->b≠x:=fun b u q nm z=>by subst z;rw [q] at mu;exact nm mu
  refine⟨fun b u q n _ _=>k b u (hb b n) q,fun b u q n _ _=>⟨u.slots,k b u (hb b n) q⟩,fun b u q n _=>by rw [z8 (hx b n)];exact n,fun b u q _=>?_,
    fun b xs q=>by rw [z8 (hm b _ q fun z=>z)];exact q,fun b u xs q=>by rw [z8 (hm b _ q fun z=>z)];exact q,fun b ps q=>⟨#[],by rw [z8 (hm b _ q fun z=>z),q];simp⟩⟩
  by_cases hbe:b=e
  · subst hbe;exact heo
  · exact⟨u,k b u hbe q⟩
end
def trk (h:Heap) (H:Hp):List Addr:=(List.range h.objs.size).filter fun a=>(H a).isSome
def JI (h:Heap) (H:Hp):Heap:=PySem.W.hideAll h (trk h H)
theorem O5 (h:Heap) (H:Hp):(JI h H).objs.size=h.objs.size:=PySem.W.hideAll_size _ _
theorem IH {h:Heap} {H:Hp} {b:Addr} {o:Obj} (e:h.get? b=some o) (n:H b=none):(JI h H).get? b=some o:=
  PySem.W.hideAll_get _ e fun hm=>by
    have q:(H b).isSome=true:=(List.mem_filter.mp hm).2
    rw [n] at q;simp at q
theorem zax {h:Heap} {H:Hp} {b:Addr} {o:Obj} (e:(JI h H).get? b=some o):h.get? b=some o/\H b=none:=by
  have e':h.get? b=some o:=PySem.W.of_hideAll (trk h H) e
  refine⟨e',?_⟩
  cases q:H b with
  | none=>rfl
  | some x=>
    have hm:b∈trk h H:=List.mem_filter.mpr ⟨List.mem_range.mpr (Heap.lt_size e'),by simp [q]⟩
    have z:(JI h H).get? b=none:=PySem.W.hideAll_none (trk h H) hm
    rw [z] at e;cases e
end L2
namespace L2
open PySem PySem.Spec PyProof.Rows
structure Mod (K:PySem.W.Frag) (mg:Str->Option Value) (base:Heap):Prop where
  kin:K.In base
  glob:base.Ns mainGlobals mg
  blt:∃mb,base.Ns builtinsNs mb/\∀x:Str,x≠"__name__"->mb x=bootBuiltins x
  nolimit:base.NoLimit
structure Cx where
  prog:Program
  w:World
  K:PySem.W.Frag
  mg:Str->Option Value
  base:Heap
  A:Around
  N:List Str
  s_0:Shared
  H_0:Hp
  env:Env
  outer:List Env
  stack:List Env
  ex:List Addr
  fn:Str->Bool
  calm:Bool
  pn:List (Addr×Obj)
  xe:Value->Shared->Prop
def frs (l:List Env):List Addr:=l.filterMap (·.frame)
abbrev Cx.fs (X:Cx):List Addr:=frs X.outer
def Vis (sc:Scope) (x:Str):Prop:=sc.names.lookup x=some .local\/sc.names.lookup x=some .cell\/sc.names.lookup x=some .free
def Loc (sc:Scope) (x:Str):Prop:=sc.names.lookup x=some .local\/sc.names.lookup x=some .cell
def Look (env:Env) (h:Heap) (m:Str->Option Value) (x:Str) (u:Value):Prop:=
  (env.kindOf x=some .local/\m x=some u)\/((env.kindOf x=some .cell\/env.kindOf x=some .free)/\∃c,env.cells.lookup x=some c/\h.IsCell c (some u))
structure Cx.Ok (X:Cx):Prop where
  mod:Mod X.K X.mg X.base
  kind:X.env.scope.kind=.function
  glob:X.env.globals=mainGlobals
  blt:X.env.builtins=builtinsNs
  above:X.s_0.heap.objs.size<=X.env.locals
  inj:∀x y c,X.env.cells.lookup x=some c->X.env.cells.lookup y=some c->x=y
  has:∀x,(X.env.kindOf x=some .cell\/X.env.kindOf x=some .free)->∃c,X.env.cells.lookup x=some c
  cab:∀x c,X.fn x=true->X.env.cells.lookup x=some c->X.s_0.heap.objs.size<=c
  hd:X.calm=true->X.A.handled=none
  frames:X.A.frames=some X.stack
  stk:X.stack=X.outer\/(X.stack=X.env::X.outer/\X.env.frame=some X.env.locals)
  exf:∀b∈X.ex,b≠X.env.locals/\∀x c,X.env.cells.lookup x=some c->c≠b
  bs:∀b o,X.base.get? b=some o->X.s_0.heap.get? b=some o/\X.H_0 b=none
  bsz:X.base.objs.size<=X.s_0.heap.objs.size
  noex:∀b o,X.base.get? b=some o->b∉X.ex
  exfs:∀b∈X.ex,b∉X.fs
  funs:X.s_0.heap.FunFrames X.base X.outer
  frf:∀b∈X.fs,X.H_0 b=none
structure Inv (X:Cx) (pins:List (Addr×Obj)) (σ:List (Option V)) (H:Hp) (s:Shared):Prop where
  ok:X.Ok
  os:s.os=X.s_0.os
  bare:AllBare s.gens
  base:Un X.fs X.ex X.H_0 H X.s_0.heap s.heap
  loc:∃m,s.heap.Ns X.env.locals m/\∀(i:Nat) (x:Str) (v:V),X.N[i]? = some x->σ[i]? = some (some v)->Vis X.env.scope x->∃u,zQ v u/\Look X.env s.heap m x u
  cell:∀x c,X.env.cells.lookup x=some c->∃v,s.heap.IsCell c v
  free:H X.env.locals=none
  freeC:∀x c,X.env.cells.lookup x=some c->H c=none
  pin:∀p∈X.pn++pins,s.heap.get? p.1=some p.2/\H p.1=none/\p.1≠X.env.locals/\p.1∉X.fs/\∀v,p.2.data≠.cell v
  hok:HOk X.prog X.w H s.heap
  len:σ.length=X.N.length
section
variable {X:Cx} {pins:List (Addr×Obj)} {σ:List (Option V)} {H H':Hp} {s:Shared} {h':Heap}
theorem Cx.Ok.nofr (ok:X.Ok) {b:Addr} {o:Obj} (e:X.base.get? b=some o):b∉X.fs:=fun hb=>by
  have:=(ok.funs.mem hb).1
  rw [e] at this;cases this
theorem Inv.bs (I:Inv X pins σ H s):∀b o,X.base.get? b=some o->s.heap.get? b=some o/\H b=none:=fun b o e=>
  ⟨I.base.keep b o (I.ok.bs b o e).1 (I.ok.bs b o e).2 (I.ok.nofr e) (I.ok.noex b o e),I.base.free b o (I.ok.bs b o e).1 (I.ok.bs b o e).2 (I.ok.noex b o e)⟩
theorem Inv.bk (I:Inv X pins σ H s):∀b o,X.base.get? b=some o->s.heap.get? b=some o:=fun b o e=>(I.bs b o e).1
theorem Inv.mod (I:Inv X pins σ H s):Mod X.K X.mg X.base:=I.ok.mod
theorem Inv.kIn (I:Inv X pins σ H s):X.K.In s.heap:=I.ok.mod.kin.keeps I.bk
theorem Inv.fr (I:Inv X pins σ H s):∃m,Fr X.base X.env.locals s.heap m:=
  let ⟨m,hn,_⟩:=I.loc
  ⟨m,hn,I.bk,Nat.le_trans I.ok.bsz I.ok.above⟩
theorem Inv.lt (I:Inv X pins σ H s):X.env.locals<s.heap.objs.size:=let ⟨_,hn,_⟩:=I.loc;hn.lt
theorem Inv.sz (I:Inv X pins σ H s):X.s_0.heap.objs.size<=s.heap.objs.size:=Nat.le_trans I.ok.above (Nat.le_of_lt I.lt)
theorem Inv.nofs (I:Inv X pins σ H s) {a:Addr} (h:s.heap.objs.size<=a):a∉X.fs:=fun hb=>by
  obtain⟨_,o,ho,_⟩:=I.ok.funs.mem hb
  exact absurd (Nat.lt_of_lt_of_le (Heap.lt_size ho) (Nat.le_trans I.sz h)) (Nat.lt_irrefl _)
theorem Inv.cne (I:Inv X pins σ H s):∀x c,X.env.cells.lookup x=some c->c≠X.env.locals:=fun x c e z=>by
  obtain⟨v,o,ho,hd⟩:=I.cell x c e
  obtain⟨m,⟨o',es,ep,ho',hd',_⟩,_⟩:=I.loc
  rw [z,ho'] at ho;cases ho;rw [hd'] at hd;cases hd
theorem Inv.funs (I:Inv X pins σ H s):s.heap.FunFrames X.base X.outer:=by
  have all:∀(l:List Env),(∀b∈frs l,b∈X.fs)->X.s_0.heap.FunFrames X.base l->s.heap.FunFrames X.base l:=by
    intro l
    induction l with
    | nil=>intro _ _;trivial
    | cons env r ih=>
      intro hs hl
      obtain⟨hk,⟨L,o,hf,hn,ho,hd⟩,hr⟩:=hl
      have hL:L∈X.fs:=hs L (by unfold frs;rw [List.filterMap_cons,hf];exact List.mem_cons_self)
      obtain⟨sl,e⟩:=I.base.slot L o ho (I.ok.frf L hL) hL fun z=>I.ok.exfs L z hL
      exact⟨hk,⟨L,_,hf,hn,e,hd⟩,ih (fun b hb=>hs b (by unfold frs;rw [List.filterMap_cons,hf];exact List.mem_cons_of_mem _ hb)) hr⟩
  exact all X.outer (fun _ hb=>hb) I.ok.funs
theorem Inv.stack (I:Inv X pins σ H s):s.heap.FunFrames X.base X.stack:=by
  rcases I.ok.stk with e | ⟨e,hf⟩
  · rw [e];exact I.funs
  · rw [e]
    obtain⟨m,hn,_⟩:=I.loc
    refine .cons (by rw [I.ok.kind];decide) hf hn ?_ I.funs
    exact Heap.get?_none_of_le (Nat.le_trans I.ok.bsz I.ok.above)
theorem Inv.stkSub (I:Inv X pins σ H s):∀b∈frs X.stack,b∈X.env.locals::X.fs:=fun b hb=>by
  rcases I.ok.stk with e | ⟨e,hf⟩
  · rw [e] at hb;exact List.mem_cons_of_mem _ hb
  · rw [e] at hb
    unfold frs at hb
    rw [List.filterMap_cons,hf] at hb
    exact hb
theorem Inv.stkFree (I:Inv X pins σ H s):∀b∈frs X.stack,H b=none:=fun b hb=>by
  rcases List.mem_cons.mp (I.stkSub b hb) with e | hb
  · rw [e];exact I.free
  · obtain⟨_,o,ho,_⟩:=I.ok.funs.mem hb
    exact I.base.free b o ho (I.ok.frf b hb) fun z=>I.ok.exfs b z hb
theorem Inv.step {g':Array GenState} {t':Nat} {d':Drawn} {ch:List Addr} (I:Inv X pins σ H s)
    (hch:∀b∈ch,(b∈X.ex\/X.s_0.heap.objs.size<=b)/\b≠X.env.locals/\(∀x c,X.env.cells.lookup x=some c->c≠b)/\∀p∈X.pn++pins,p.1≠b)
    (keep:∀b o,b≠X.env.locals->b∉X.fs->b∉ch->s.heap.get? b=some o->H b=none->h'.get? b=some o)
    (slot:∀b o,b≠X.env.locals->b∈X.fs->b∉ch->s.heap.get? b=some o->H b=none->∃sl,h'.get? b=some {o with slots:=sl}) (free:∀b o,b∉ch->s.heap.get? b=some o->H b=none->H' b=none)
    (there:∀b o,b∉ch->s.heap.get? b=some o->∃o',h'.get? b=some o')
    (tups:∀b xs,H b=some (.tup xs)->H' b=some (.tup xs)) (frzs:∀b o u,H b=some (.frz o u)->H' b=some (.frz o u)) (tbls:∀b ps,H b=some (.tbl ps)->∃more,H' b=some (.tbl (ps++more)))
    (ns:∀m,s.heap.Ns X.env.locals m->h'.Ns X.env.locals m) (hok:HOk X.prog X.w H' h') (hg:AllBare g') :
    Inv X pins σ H' {s with heap:=h',gens:=g',drawn:=d',toks:=t'}:=by
  have neL:∀b o,X.s_0.heap.get? b=some o->b≠X.env.locals:=fun b o e=>Nat.ne_of_lt (Nat.lt_of_lt_of_le (Heap.lt_size e) I.ok.above)
  have neC:∀b o,X.s_0.heap.get? b=some o->b∉X.ex->b∉ch:=fun b o e hx hb=>by
    rcases (hch b hb).1 with z | z
    · exact hx z
    · exact absurd (Nat.lt_of_lt_of_le (Heap.lt_size e) z) (Nat.lt_irrefl _)
  have cellK:∀x c,X.env.cells.lookup x=some c->∀v,s.heap.IsCell c v->h'.IsCell c v:=fun x c e v ⟨o,ho,hd⟩=>by
    have nch:c∉ch:=fun z=>(hch c z).2.2.1 x c e rfl
    by_cases hc:c∈X.fs
    · obtain⟨sl,q⟩:=slot c o (I.cne x c e) hc nch ho (I.freeC x c e)
      exact⟨_,q,hd⟩
    · exact⟨o,keep c o (I.cne x c e) hc nch ho (I.freeC x c e),hd⟩
  refine⟨I.ok,I.os,hg,⟨fun b o e n hb hx=>?_,fun b o e n hb hx=>?_,fun b o e n hx=>?_,fun b o e hx=>?_,fun b xs e=>tups b xs (I.base.tups b xs e),fun b o xs e=>frzs b o xs (I.base.frzs b o xs e),fun b ps e=>?_⟩,?_,fun x c e=>?_,?_,fun x c e=>?_,fun p hp=>?_,hok,I.len⟩
  · exact keep b o (neL b o e) hb (neC b o e hx) (I.base.keep b o e n hb hx) (I.base.free b o e n hx)
  · obtain⟨sl,e1⟩:=I.base.slot b o e n hb hx
    obtain⟨sl',e2⟩:=slot b _ (neL b o e) hb (neC b o e hx) e1 (I.base.free b o e n hx)
    exact⟨sl',e2⟩
  · obtain⟨o',e1⟩:=I.base.there b o e hx
    exact free b o' (neC b o e hx) e1 (I.base.free b o e n hx)
  · obtain⟨o',e1⟩:=I.base.there b o e hx
    exact there b o' (neC b o e hx) e1
  · obtain⟨m1,e1⟩:=I.base.tbls b ps e
    obtain⟨m2,e2⟩:=tbls b _ e1
    exact⟨m1++m2,by rw [e2,Array.append_assoc]⟩
  · obtain⟨m,hn,hl⟩:=I.loc
    refine⟨m,ns m hn,fun i x v e1 e2 e3=>?_⟩
    obtain⟨u,r,l⟩:=hl i x v e1 e2 e3
    refine⟨u,r,?_⟩
    rcases l with l | ⟨k,c,e,z⟩
    · exact .inl l
    · exact .inr ⟨k,c,e,cellK x c e _ z⟩
  · obtain⟨v,z⟩:=I.cell x c e
    exact⟨v,cellK x c e v z⟩
  · obtain⟨m,⟨o,_,_,ho,_⟩,_⟩:=I.loc
    exact free _ o (fun z=>(hch _ z).2.1 rfl) ho I.free
  · obtain⟨v,o,ho,hd⟩:=I.cell x c e
    exact free c o (fun z=>(hch c z).2.2.1 x c e rfl) ho (I.freeC x c e)
  · obtain⟨e,n,ne,nf,d⟩:=I.pin p hp
    have nch:p.1∉ch:=fun z=>(hch p.1 z).2.2.2 p hp rfl
    exact⟨keep p.1 p.2 ne nf nch e n,free p.1 p.2 nch e n,ne,nf,d⟩
theorem Inv.un {t':Nat} (I:Inv X pins σ H s) (u:Un X.fs [] H H' s.heap h') (hok:HOk X.prog X.w H' h'):Inv X pins σ H' {s with heap:=h',toks:=t'}:=by
  obtain⟨m,⟨o,es,ep,ho,r⟩,_⟩:=id I.loc
  obtain⟨sl,hL⟩:=u.any ho I.free (by simp)
  exact I.step (g':=s.gens) (d':=s.drawn) (ch:=[]) (fun _ z=>nomatch z) (fun b o _ hb _ e n=>u.keep b o e n hb (by simp)) (fun b o _ hb _ e n=>u.slot b o e n hb (by simp)) (fun b o _ e n=>u.free b o e n (by simp)) (fun b o _ e=>u.there b o e (by simp)) u.tups u.frzs u.tbls (fun m' hm=>by
    obtain⟨o',es',ep',ho',r'⟩:=hm
    rw [ho] at ho';cases ho'
    exact⟨_,es',ep',hL,r'⟩) hok I.bare
theorem Inv.call {g':Array GenState} {t':Nat} {d':Drawn} {ch:List Addr} (I:Inv X pins σ H s) (u:Un (frs X.stack) ch H H' s.heap h') (hok:HOk X.prog X.w H' h') (hg:AllBare g')
    (hch:∀b∈ch,(b∈X.ex\/X.s_0.heap.objs.size<=b)/\b≠X.env.locals/\(∀x c,X.env.cells.lookup x=some c->c≠b)/\∀p∈X.pn++pins,p.1≠b) :
    Inv X pins σ H' {s with heap:=h',gens:=g',drawn:=d',toks:=t'}:=by
  obtain⟨m,⟨o,es,ep,ho,r⟩,_⟩:=id I.loc
  obtain⟨sl,hL⟩:=u.any ho I.free fun z=>(hch _ z).2.1 rfl
  exact I.step (ch:=ch) hch (fun b o hL hb hc e n=>u.keep b o e n (fun z=>(List.mem_cons.mp (I.stkSub b z)).elim hL hb) hc) (fun b o _ _ hc e n=>u.any e n hc) (fun b o hc e n=>u.free b o e n hc) (fun b o hc e=>u.there b o e hc) u.tups u.frzs u.tbls (fun m' hm=>by
    obtain⟨o',es',ep',ho',r'⟩:=hm
    rw [ho] at ho';cases ho'
    exact⟨_,es',ep',hL,r'⟩) hok hg
theorem Inv.turned {t':Nat} {it:Addr} (I:Inv X pins σ H s) (k:∀b o,b≠it->s.heap.get? b=some o->h'.get? b=some o) (hn:H it=none) (hL:it≠X.env.locals)
    (h1:it∈X.ex\/X.s_0.heap.objs.size<=it) (h2:∀x c,X.env.cells.lookup x=some c->c≠it) (h3:∀p∈X.pn++pins,p.1≠it):Inv X pins σ H {s with heap:=h',toks:=t'}:=by
  have nit:∀b u,H b=some u->b≠it:=fun b u e z=>by rw [z,hn] at e;cases e
  refine I.step (g':=s.gens) (d':=s.drawn) (ch:=[it]) (fun b hb=>?_) (fun b o _ _ hc e _=>k b o (fun z=>hc (by simp [z])) e) (fun b o _ _ hc e _=>⟨o.slots,k b o (fun z=>hc (by simp [z])) e⟩) (fun _ _ _ _ n=>n)
    (fun b o hc e=>⟨o,k b o (fun z=>hc (by simp [z])) e⟩) (fun _ _ e=>e) (fun _ _ _ e=>e) (fun b ps e=>⟨#[],by rw [e];simp⟩) (fun m hm=>?_) (fun b u e=>?_) I.bare
  · have e:b=it:=by simpa using hb
    subst e
    exact⟨h1,hL,h2,h3⟩
  · obtain⟨o,es,ep,ho,r⟩:=hm
    exact⟨o,es,ep,k _ o (Ne.symm hL) ho,r⟩
  · refine(I.hok b u e).stay (fun c v hc q=>k c v ?_ q) (fun _ q=>q) fun _ _ q=>q
    rcases hc with z | z
    · rw [z];exact nit b u e
    · exact nit c _ z
theorem Inv.tok (I:Inv X pins σ H s) (t:Nat):Inv X pins σ H {s with toks:=t}:=I.un (h':=s.heap) (t':=t) Un.refl I.hok
theorem Inv.kept {t':Nat} (I:Inv X pins σ H s) (k:∀b u,s.heap.get? b=some u->h'.get? b=some u):Inv X pins σ H {s with heap:=h',toks:=t'}:=I.un (Un.kept k) (I.hok.kept k)
theorem Inv.laid {a:Addr} {o:HO} {t':Nat} (I:Inv X pins σ H s) (k:∀b u,s.heap.get? b=some u->h'.get? b=some u) (hp:s.heap.objs.size<=a) (new:yF X.prog X.w (upd H a o) h' a o) :
    Inv X pins σ (upd H a o) {s with heap:=h',toks:=t'}:=I.un (Un.laid k hp (I.hok.fresh hp)) (I.hok.laid k hp new)
theorem Inv.write {x e:Addr} {o:HO} {t':Nat} (I:Inv X pins σ H s) (mu:Mut (H x)) (he:e=x\/H e=some (.own x)) (k:∀b u,b≠e->s.heap.get? b=some u->h'.get? b=some u) (heo:∃u,h'.get? e=some u)
    (new:yF X.prog X.w (upd H x o) h' x o):Inv X pins σ (upd H x o) {s with heap:=h',toks:=t'}:=I.un (Un.write mu he k heo) (I.hok.write mu he k heo new)
theorem Inv.weak {σ':List (Option V)} (I:Inv X pins σ H s) (hl:σ'.length=σ.length) (w:∀(i:Nat) v,σ'[i]? = some (some v)->σ[i]? = some (some v)):Inv X pins σ' H s:=
  ⟨I.ok,I.os,I.bare,I.base,let ⟨m,hn,hl'⟩:=I.loc;⟨m,hn,fun i x v e1 e2 e3=>hl' i x v e1 (w i v e2) e3⟩,I.cell,I.free,I.freeC,I.pin,I.hok,hl.trans I.len⟩
theorem Inv.pins_of {pins':List (Addr×Obj)} (I:Inv X pins σ H s) (h:∀p∈pins',s.heap.get? p.1=some p.2/\H p.1=none/\p.1≠X.env.locals/\p.1∉X.fs/\∀v,p.2.data≠.cell v):Inv X pins' σ H s:=
  ⟨I.ok,I.os,I.bare,I.base,I.loc,I.cell,I.free,I.freeC,fun p hp=>(List.mem_append.mp hp).elim (fun z=>I.pin p (List.mem_append_left _ z)) (h p),I.hok,I.len⟩
theorem YU {N:List Str} (hN:N.Nodup) {i j:Nat} {x:Str} (a:N[i]? = some x) (b:N[j]? = some x):i=j:=by
  obtain⟨h1,e1⟩:=List.getElem?_eq_some_iff.mp a
  obtain⟨h2,e2⟩:=List.getElem?_eq_some_iff.mp b
  exact(List.getElem_inj hN).mp (e1.trans e2.symm)
theorem Od {M:Model} {A:Around} {E:Value->Shared->Prop} {i:Nat} {x:Str} {v:V} {u:Value} {Q:Unit->Shared->Prop} (I:Inv X pins σ H s) (hN:X.N.Nodup) (hi:X.N[i]? = some x) (hx:Loc X.env.scope x) (r:zQ v u)
    (h:∀s',Inv X pins (σ.set i (some v)) H s'->(∃a,Heap.SameBut a s.heap s'.heap/\(a=X.env.locals\/X.env.cells.lookup x=some a))->Q () s') (hf:X.fn x=true\/X.env.scope.names.lookup x=some .local:=by first | exact .inl rfl | exact .inr rfl | assumption):wpAny M A (storeName X.env x u) Q E s:=by
  obtain⟨m,hn,hl⟩:=id I.loc
  have hcls:(X.env.scope.kind == .class || (X.env.scope.kind == .module && X.env.locals != X.env.globals))=false:=by rw [I.ok.kind];rfl
  have hiσ:i<σ.length:=by rw [I.len];exact(List.getElem?_eq_some_iff.mp hi).1
  have cne:=I.cne
  have tracked:∀{a:Addr} {h':Heap},(∃o,s.heap.get? a=some o/\H a=none)->Heap.SameBut a s.heap h'->HOk X.prog X.w H h':=fun {a h'} ha hs b ob e=>by
    obtain⟨_,_,hfree⟩:=ha
    refine(I.hok b ob e).stay (fun c w' hc q=>(hs.2 c ?_).trans q) (fun _ q=>q) fun _ _ q=>q
    rintro rfl
    rcases hc with rfl | hc
    · rw [hfree] at e;cases e
    · rw [hfree] at hc;cases hc
  rcases hx with hk | hk
  · refine wpAny_storeName_local hk hn (fun h' hn' hs=>?_) hcls
    obtain⟨oL,_,_,hoL,_⟩:=id hn
    refine h _ ⟨I.ok,I.os,I.bare,⟨fun b o e n hb hx=>?_,fun b o e n hb hx=>?_,I.base.free,fun b o e hx=>?_,I.base.tups,I.base.frzs,I.base.tbls⟩,⟨_,hn',fun j y v' e1 e2 e3=>?_⟩,fun y c e=>?_,I.free,I.freeC,fun p hp=>?_,tracked ⟨oL,hoL,I.free⟩ hs,by simpa using I.len⟩ ⟨_,hs,.inl rfl⟩
    · exact(hs.2 b (Nat.ne_of_lt (Nat.lt_of_lt_of_le (Heap.lt_size e) I.ok.above))).trans (I.base.keep b o e n hb hx)
    · obtain⟨sl,e1⟩:=I.base.slot b o e n hb hx
      exact⟨sl,(hs.2 b (Nat.ne_of_lt (Nat.lt_of_lt_of_le (Heap.lt_size e) I.ok.above))).trans e1⟩
    · obtain⟨o',e1⟩:=I.base.there b o e hx
      exact⟨o',(hs.2 b (Nat.ne_of_lt (Nat.lt_of_lt_of_le (Heap.lt_size e) I.ok.above))).trans e1⟩
    · by_cases hj:j=i
      · subst hj
        rw [hi] at e1;cases e1
        rw [List.getElem?_set_self hiσ] at e2
        cases e2
        exact⟨u,r,.inl ⟨hk,by simp⟩⟩
      · rw [List.getElem?_set_ne (Ne.symm hj)] at e2
        obtain⟨u',r',q⟩:=hl j y v' e1 e2 e3
        refine⟨u',r',?_⟩
        rcases q with ⟨k,e⟩ | ⟨k,c,e,z⟩
        · refine .inl ⟨k,?_⟩
          have:y≠x:=fun e=>hj (YU hN e1 (e ▸ hi))
          simp [this,e]
        · exact .inr ⟨k,c,e,z.sameBut hs (cne y c e)⟩
    · obtain⟨w',z⟩:=I.cell y c e
      exact⟨w',z.sameBut hs (cne y c e)⟩
    · obtain⟨e,n,ne,nf,d⟩:=I.pin p hp
      exact⟨(hs.2 p.1 ne).trans e,n,ne,nf,d⟩
  · have hfn:X.fn x=true:=by
      rcases hf with z | z
      · exact z
      · rw [z] at hk;cases hk
    obtain⟨c,hc⟩:=I.ok.has x (.inl hk)
    obtain⟨w',z⟩:=I.cell x c hc
    refine wpAny_storeName_cell I.ok.kind hk hc z (fun h' hc' hs=>?_)
    obtain⟨oc,hoc,hocd⟩:=id z
    refine h {s with heap:=h'} ⟨I.ok,I.os,I.bare,⟨fun b o e n hb hx=>?_,fun b o e n hb hx=>?_,I.base.free,fun b o e hx=>?_,I.base.tups,I.base.frzs,I.base.tbls⟩,⟨m,hn.sameBut hs (Ne.symm (cne x c hc)),fun j y v' e1 e2 e3=>?_⟩,fun y c' e=>?_,I.free,I.freeC,fun p hp=>?_,tracked ⟨oc,hoc,I.freeC x c hc⟩ hs,by simpa using I.len⟩ ⟨c,hs,.inr hc⟩
    · exact(hs.2 b (Nat.ne_of_lt (Nat.lt_of_lt_of_le (Heap.lt_size e) (I.ok.cab x c hfn hc)))).trans (I.base.keep b o e n hb hx)
    · obtain⟨sl,e1⟩:=I.base.slot b o e n hb hx
      exact⟨sl,(hs.2 b (Nat.ne_of_lt (Nat.lt_of_lt_of_le (Heap.lt_size e) (I.ok.cab x c hfn hc)))).trans e1⟩
    · obtain⟨o',e1⟩:=I.base.there b o e hx
      exact⟨o',(hs.2 b (Nat.ne_of_lt (Nat.lt_of_lt_of_le (Heap.lt_size e) (I.ok.cab x c hfn hc)))).trans e1⟩
    · by_cases hj:j=i
      · subst hj
        rw [hi] at e1;cases e1
        rw [List.getElem?_set_self hiσ] at e2
        cases e2
        exact⟨u,r,.inr ⟨.inl hk,c,hc,hc'⟩⟩
      · rw [List.getElem?_set_ne (Ne.symm hj)] at e2
        obtain⟨u',r',q⟩:=hl j y v' e1 e2 e3
        refine⟨u',r',?_⟩
        rcases q with q | ⟨k,c',e,z'⟩
        · exact .inl q
        · refine .inr ⟨k,c',e,z'.sameBut hs ?_⟩
          rintro rfl
          exact hj (YU hN e1 (I.ok.inj _ _ _ e hc ▸ hi))
    · by_cases hcc:c'=c
      · subst hcc;exact⟨_,hc'⟩
      · obtain⟨w2,z2⟩:=I.cell y c' e
        exact⟨w2,z2.sameBut hs hcc⟩
    · obtain⟨e,n,ne,nf,d⟩:=I.pin p hp
      refine⟨(hs.2 p.1 ?_).trans e,n,ne,nf,d⟩
      intro q
      rw [q,hoc] at e
      have q':oc=p.2:=Option.some.inj e
      exact d w' (by rw [<-q'];exact hocd)
theorem YZ {M:Model} {A:Around} {E:Value->Shared->Prop} {i:Nat} {x:Str} {v:V} {u:Value} {Q:Unit->Shared->Prop} (I:Inv X pins σ H s) (hN:X.N.Nodup) (hi:X.N[i]? = some x) (hx:Loc X.env.scope x) (r:zQ v u)
    (h:∀s',Inv X pins (σ.set i (some v)) H s'->Q () s') (hf:X.fn x=true\/X.env.scope.names.lookup x=some .local:=by first | exact .inl rfl | exact .inr rfl | assumption):wpAny M A (storeName X.env x u) Q E s:=
  Od I hN hi hx r (fun s' I' _=>h s' I') hf
theorem Inv.call' {s':Shared} {ch:List Addr} (I:Inv X pins σ H s) (ho:s'.os=s.os) (u:Un (frs X.stack) ch H H' s.heap s'.heap) (hok:HOk X.prog X.w H' s'.heap) (hg:AllBare s'.gens)
    (hch:∀b∈ch,(b∈X.ex\/X.s_0.heap.objs.size<=b)/\b≠X.env.locals/\(∀x c,X.env.cells.lookup x=some c->c≠b)/\∀p∈X.pn++pins,p.1≠b):Inv X pins σ H' s':=by
  obtain⟨h',g',d',t',o'⟩:=s'
  have e:o'=s.os:=ho
  subst e
  exact I.call (g':=g') (t':=t') (d':=d') u hok hg hch
end
abbrev XK:=Value->Option Addr->Hp->Prop
abbrev St:=List (Option V)
abbrev VK:=V->Hp->Prop
abbrev TE:=St->Hp->VK->Prop
abbrev TT:=St->Hp->(Bool->Hp->Prop)->Prop
abbrev TA:=St->Hp->(List V->Hp->Prop)->Prop
structure Jl where
  nx:St->Hp->Prop
  rt:VK
  bk:St->Hp->Prop:=fun _ _=>False
  ct:St->Hp->Prop:=fun _ _=>False
abbrev TS:=Jl->St->Hp->Prop
def EP (X:Cx) (pins:List (Addr×Obj)) (σ:St) (Q:VK) (u:Value) (s':Shared):Prop:=∃v H',Inv X pins σ H' s'/\zQ v u/\Q v H'
def TP (X:Cx) (pins:List (Addr×Obj)) (σ:St) (Q:Bool->Hp->Prop) (b:Bool) (s':Shared):Prop:=∃H',Inv X pins σ H' s'/\Q b H'
def AP (X:Cx) (pins:List (Addr×Obj)) (σ:St) (Q:List V->Hp->Prop) (us:List Value) (s':Shared):Prop:=∃vs H',Inv X pins σ H' s'/\zH vs us/\Q vs H'
def SP (X:Cx) (pins:List (Addr×Obj)) (D:Jl) (f:Flow) (s':Shared):Prop:=
  match f with
  | .next=>∃σ' H',Inv X pins σ' H' s'/\D.nx σ' H'
  | .brk=>∃σ' H',Inv X pins σ' H' s'/\D.bk σ' H'
  | .cont=>∃σ' H',Inv X pins σ' H' s'/\D.ct σ' H'
  | .ret u=>∃v σ' H',Inv X pins σ' H' s'/\zQ v u/\D.rt v H'
def PE (X:Cx) (e:Expr) (t:TE):Prop:=
  ∀(pins:List (Addr×Obj)) (s:Shared) (σ:St) (H:Hp) (Q:VK),Inv X pins σ H s->t σ H Q->wpAny (model X.prog X.w) X.A (eval e X.env) (EP X pins σ Q) X.xe s
def PT (X:Cx) (e:Expr) (t:TT):Prop:=
  ∀(pins:List (Addr×Obj)) (s:Shared) (σ:St) (H:Hp) (Q:Bool->Hp->Prop),Inv X pins σ H s->t σ H Q->wpAny (model X.prog X.w) X.A (isTrue e X.env (eval e X.env)) (TP X pins σ Q) X.xe s
def PW (X:Cx) (e:Expr) (t:TT):Prop:=
  ∀(whole:Sem Value) (pins:List (Addr×Obj)) (s:Shared) (σ:St) (H:Hp) (Q:Bool->Hp->Prop),Inv X pins σ H s->t σ H Q->wpAny (model X.prog X.w) X.A (isTrue e X.env whole) (TP X pins σ Q) X.xe s
theorem PW.pt {X:Cx} {e:Expr} {t:TT} (h:PW X e t):PT X e t:=h _
def PA (X:Cx) (es:List Expr) (t:TA):Prop:=
  ∀(pos:Pos) (pins:List (Addr×Obj)) (s:Shared) (σ:St) (H:Hp) (Q:List V->Hp->Prop),Inv X pins σ H s->t σ H Q->wpAny (model X.prog X.w) X.A (spliced (backTo pos (starEach es X.env))) (AP X pins σ Q) X.xe s
def PS (X:Cx) (st:Stmt) (t:TS):Prop:=
  ∀(pins:List (Addr×Obj)) (s:Shared) (σ:St) (H:Hp) (D:Jl),Inv X pins σ H s->t D σ H->wpAny (model X.prog X.w) X.A (exec st X.env) (SP X pins D) X.xe s
def PSs (X:Cx) (st:List Stmt) (t:TS):Prop:=
  ∀(pins:List (Addr×Obj)) (s:Shared) (σ:St) (H:Hp) (D:Jl),Inv X pins σ H s->t D σ H->wpAny (model X.prog X.w) X.A (execs st X.env) (SP X pins D) X.xe s
theorem thn {α:Type} {t:Sem α} {Q Q':α->Shared->Prop} {M:Model} {A:Around} {E:Value->Shared->Prop} {s:Shared} (h:wpAny M A t Q E s) (hQ:∀a s,Q a s->Q' a s):wpAny M A t Q' E s:=wpAny_mono h hQ fun _ _ x=>x
end L2
namespace L2
open PySem PySem.Spec PyProof.Rows
section
variable {X:Cx}
def js (i:Nat):TE:=fun σ H Q=>∃v,σ[i]? = some (some v)/\Q v H
def tC (v:V):TE:=fun _ H Q=>Q v H
theorem O7 {i:Nat} {x:Str} {pos:Pos} (hN:X.N[i]? = some x) (hv:Vis X.env.scope x) (hd:(x == ("__debug__":Str))=false:=by decide) (hcd:(x == ("__classdict__":Str))=false:=by decide):PE X (.Name x pos) (js i):=by
  intro pins s σ H Q I h
  obtain⟨v,e,h⟩:=h
  obtain⟨m,hn,hl⟩:=I.loc
  obtain⟨u,r,l⟩:=hl i x v hN e hv
  have fin:EP X pins σ Q u s:=⟨v,H,I,r,h⟩
  rcases l with ⟨hk,hm⟩ | ⟨hk,c,hc,hcell⟩
  · exact wpAny_Name (wpAny_loadName_local I.ok.kind hk hn hm fin) hd
  · rcases hk with hk | hk
    · exact wpAny_Name (wpAny_loadName_cell I.ok.kind hk hc hcell fin) hd
    · exact wpAny_Name (wpAny_loadName_free I.ok.kind hk hc hcell fin hcd) hd
theorem zi {i j pos}:PE X (.Constant (.int i) j pos) (tC (.int i)):=fun _ _ _ H _ I h=>wpAny_Constant_int ⟨.int i,H,I.tok _,⟨_,rfl⟩,h⟩
theorem ZC {b j pos}:PE X (.Constant (.bool b) j pos) (tC (.bl b)):=fun _ _ _ H _ I h=>Constant_bool ⟨.bl b,H,I,rfl,h⟩
theorem xB {j pos}:PE X (.Constant .none j pos) (tC .non):=fun _ _ _ H _ I h=>Constant_none ⟨.non,H,I,rfl,h⟩
def Gl (X:Cx) (x:Str):Prop:=X.env.kindOf x=some .globalImplicit
theorem qU {E:Value->Shared->Prop} {pins:List (Addr×Obj)} {s:Shared} {σ:St} {H:Hp} {x:Str} {u:Value} {pos:Pos} {Q:Value->Shared->Prop} (I:Inv X pins σ H s) (hg:Gl X x) (hm:X.mg x=some u) (h:Q u s)
    (hd:(x == ("__debug__":Str))=false:=by decide):wpAny (model X.prog X.w) X.A (eval (.Name x pos) X.env) Q E s:=
  Calls.Name_function_global I.ok.kind hg (Calls.loadGlobal_global (by rw [I.ok.glob];exact I.mod.glob.keeps I.bk) hm h) hd
theorem U8 {E:Value->Shared->Prop} {pins:List (Addr×Obj)} {s:Shared} {σ:St} {H:Hp} {x:Str} {u:Value} {pos:Pos} {Q:Value->Shared->Prop} (I:Inv X pins σ H s) (hg:Gl X x) (hm:X.mg x=none) (hv:bootBuiltins x=some u) (h:Q u s)
    (hn:x≠"__name__":=by decide) (hd:(x == ("__debug__":Str))=false:=by decide):wpAny (model X.prog X.w) X.A (eval (.Name x pos) X.env) Q E s:=by
  obtain⟨mb,h1,h2⟩:=I.mod.blt
  exact Calls.Name_function_global I.ok.kind hg (Calls.loadGlobal_builtin (by rw [I.ok.glob];exact I.mod.glob.keeps I.bk) hm (by rw [I.ok.blt];exact h1.keeps I.bk) ((h2 x hn).trans hv) h) hd
theorem Nq {x:Str} {v:V} {u:Value} {pos:Pos} (hg:Gl X x) (hm:X.mg x=some u) (r:zQ v u) (hd:(x == ("__debug__":Str))=false:=by decide):PE X (.Name x pos) (tC v):=
  fun _ _ _ H _ I h=>qU I hg hm ⟨v,H,I,r,h⟩ hd
variable {a b:Expr} {ta tb:TE} {pos:Pos}
def PC (X:Cx) (op:CmpOp) (a b:Expr) (t:TE):Prop:=
  ∀(pins:List (Addr×Obj)) (s:Shared) (σ:St) (H:Hp) (Q:VK),Inv X pins σ H s->t σ H Q ->
    wpAny (model X.prog X.w) X.A (eval a X.env) (fun v s₁=>wpAny (model X.prog X.w) X.A (eval b X.env) (fun u s₂=>wpAny (model X.prog X.w) X.A (compareOp op v u) (EP X pins σ Q) X.xe s₂) X.xe s₁) X.xe s
def tB (t:TE):TT:=fun σ H Q=>t σ H fun x H1=>∃c,x=.bl c/\Q c H1
theorem zcq {op:CmpOp} {t:TE} (h:PC X op a b t) (h1:behindInMarks op b=false:=by first | exact nobehind _ (by decide) (by decide) | rfl):PT X (.Compare a [op] [b] pos) (tB t):=by
  intro pins s σ H Q I hw
  refine wpAny_isTrue_Compare1 (thn (h pins s σ H _ I hw) fun v s1 h1=>thn h1 fun u s2 h2=>thn h2 fun c s3 ⟨x,H1,I1,r1,q1⟩=>?_) h1
  obtain⟨d,rfl,q⟩:=q1
  cases r1
  exact wpAny_truthy_bool ⟨H1,I1,q⟩
variable {tA tB':TT} {rest:List Expr}
def tAnd (t u:TT):TT:=fun σ H Q=>t σ H fun c H1=>if c=true then u σ H1 Q else Q false H1
def tOr (t u:TT):TT:=fun σ H Q=>t σ H fun c H1=>if c=true then Q true H1 else u σ H1 Q
def tNot (t:TT):TT:=fun σ H Q=>t σ H fun c H1=>Q (!c) H1
theorem qj (ha:PT X a tA):PW X (.BoolOp .And [a] pos) tA:=by
  intro wh pins s σ H Q I h
  refine isTrue_and (thn (ha pins s σ H Q I h) fun c s1 e=>?_)
  cases c with
  | true=>exact isTrue_and_nil e
  | false=>exact e
theorem qA (ha:PT X a tA):PW X (.BoolOp .Or [a] pos) tA:=by
  intro wh pins s σ H Q I h
  refine isTrue_or (thn (ha pins s σ H Q I h) fun c s1 e=>?_)
  cases c with
  | false=>exact isTrue_or_nil e
  | true=>exact e
theorem jQ (ha:PT X a tA) (hb:PW X (.BoolOp .And (b::rest) pos) tB'):PW X (.BoolOp .And (a::b::rest) pos) (tAnd tA tB'):=by
  intro wh pins s σ H Q I h
  refine isTrue_and (thn (ha pins s σ H _ I h) fun c s1 ⟨H1,I1,q1⟩=>?_)
  cases c with
  | true=>exact hb wh pins s1 σ H1 Q I1 q1
  | false=>exact⟨H1,I1,q1⟩
theorem qK (ha:PT X a tA) (hb:PW X (.BoolOp .Or (b::rest) pos) tB'):PW X (.BoolOp .Or (a::b::rest) pos) (tOr tA tB'):=by
  intro wh pins s σ H Q I h
  refine isTrue_or (thn (ha pins s σ H _ I h) fun c s1 ⟨H1,I1,q1⟩=>?_)
  cases c with
  | true=>exact⟨H1,I1,q1⟩
  | false=>exact hb wh pins s1 σ H1 Q I1 q1
theorem JA (ha:PT X a tA):PT X (.UnaryOp .Not a pos) (tNot tA):=by
  intro pins s σ H Q I h
  exact isTrue_not (ha pins s σ H (fun c H1=>Q (!c) H1) I h)
def tAndV (ta tb:TE):TE:=fun σ H Q=>ta σ H fun x H1=>∃c,x=.bl c/\if c=true then tb σ H1 Q else Q (.bl false) H1
theorem zcw {op} {t:TE} (h:PE X a t):PE X (.BoolOp op [a] pos) t:=fun pins s σ H Q I hw=>BoolOp_one (h pins s σ H Q I hw)
theorem zbz (ha:PE X a ta) (hb:PE X (.BoolOp .And (b::rest) pos) tb):PE X (.BoolOp .And (a::b::rest) pos) (tAndV ta tb):=by
  intro pins s σ H Q I h
  refine BoolOp_and (thn (ha pins s σ H _ I h) fun v s1 ⟨x,H1,I1,r1,q1⟩=>?_)
  obtain⟨c,rfl,q1⟩:=q1
  cases r1
  refine wpAny_truthy_bool ?_
  cases c with
  | true=>exact hb pins s1 σ H1 Q I1 q1
  | false=>exact⟨.bl false,H1,I1,rfl,q1⟩
def tIf (t:TT) (ta tb:TE):TE:=fun σ H Q=>t σ H fun c H1=>if c=true then ta σ H1 Q else tb σ H1 Q
theorem jL {c:Expr} (hc:PT X c tA) (ha:PE X a ta) (hb:PE X b tb):PE X (.IfExp c a b pos) (tIf tA ta tb):=by
  intro pins s σ H Q I h
  refine wpAny_IfExp (thn (hc pins s σ H _ I h) fun d s1 ⟨H1,I1,q1⟩=>?_)
  cases d with
  | true=>exact ha pins s1 σ H1 Q I1 q1
  | false=>exact hb pins s1 σ H1 Q I1 q1
end
end L2
namespace L2
open PySem PySem.Spec PyProof.Rows
def SqL (K:PySem.W.Frag) (H:Hp) (a:Addr) (xs:List V):Prop:=
  Rd H a (.lst xs) \/
    ∃(o:Obj) (its:Array Value) (n:Nat),K.lookup a=some o/\o.cls=.type "list"/\o.dict=none/\o.data=.seq its n/\its.size<=sizeLine/\zH xs its.toList
def SqT (K:PySem.W.Frag) (H:Hp) (a:Addr) (xs:List V):Prop:=
  Rd H a (.tup xs) \/
    ∃(o:Obj) (its:Array Value) (n:Nat),K.lookup a=some o/\o.cls=.type "tuple"/\o.data=.seq its n/\its.size<=sizeLine/\zH xs its.toList
def absV:Value->Option V
  | .none=>some .non
  | .bool b=>some (.bl b)
  | .int i _=>some (.int i)
  | .str x _=>some (.str x)
  | .bytes b _=>some (.byt b)
  | .float b _=>some (.flt b)
  | .ref a=>some (.ref a)
  | .type n=>some (.ty n)
  | _=>none
theorem zQ.abs {x:V} {u:Value} (r:zQ x u):absV u=some x:=by
  cases x with
  | non=>cases r;rfl
  | bl _=>cases r;rfl
  | int _=>obtain⟨t,rfl⟩:=r;rfl
  | str _=>obtain⟨t,rfl⟩:=r;rfl
  | byt _=>obtain⟨t,rfl⟩:=r;rfl
  | flt _=>obtain⟨t,rfl⟩:=r;rfl
  | ref _=>cases r;rfl
  | ty _=>cases r;rfl
theorem zQ.inj {x y:V} {u:Value} (r:zQ x u) (q:zQ y u):x=y:=Option.some.inj (r.abs.symm.trans q.abs)
theorem zH.inj:∀{xs ys:List V} {us:List Value},zH xs us->zH ys us->xs=ys
  | _,_,_,.nil,.nil=>rfl
  | _,_,_,.cons r t,.cons r' t'=>by rw [r.inj r',zH.inj t t']
section
variable {X:Cx} {pins:List (Addr×Obj)} {σ:St} {H:Hp} {s:Shared} {a:Addr} {xs ys:List V}
theorem SqL.of {K:PySem.W.Frag} (h:H a=some (.lst xs)):SqL K H a xs:=.inl (.inl h)
theorem SqT.of {K:PySem.W.Frag} (h:H a=some (.tup xs)):SqT K H a xs:=.inl (.inl h)
theorem Inv.list (I:Inv X pins σ H s) (h:SqL X.K H a xs):∃its:List Value,zH xs its/\PlainL s.heap a its.toArray/\xs.length<=sizeLine:=by
  rcases h with h | ⟨o,its,n,hk,hc,hd,hs,hz,r⟩
  · obtain⟨z,its,n,r,e⟩:=h.ok I.hok
    exact⟨its,r,⟨_,n,e,rfl,rfl,rfl⟩,z⟩
  · refine⟨its.toList,r,⟨o,n,I.kIn a o hk,hc,hd,by simpa using hs⟩,?_⟩
    have e:=r.length
    simp only [Array.length_toList] at e
    omega
theorem Inv.tuple (I:Inv X pins σ H s) (h:SqT X.K H a xs):∃its:List Value,zH xs its/\IsTup s.heap a its.toArray/\xs.length<=sizeLine:=by
  rcases h with h | ⟨o,its,n,hk,hc,hs,hz,r⟩
  · obtain⟨z,its,r,p⟩:=h.ok I.hok
    exact⟨its,r,p,z⟩
  · refine⟨its.toList,r,⟨o,I.kIn a o hk,hc,n,by simpa using hs⟩,?_⟩
    have e:=r.length
    simp only [Array.length_toList] at e
    omega
theorem Inv.list_inj (I:Inv X pins σ H s) (h:SqL X.K H a xs) (h':SqL X.K H a ys):xs=ys:=by
  obtain⟨its,r,⟨o,n,e,_,_,d⟩,_⟩:=I.list h
  obtain⟨its',r',⟨o',n',e',_,_,d'⟩,_⟩:=I.list h'
  rw [e] at e';cases e'
  rw [d] at d'
  injection d' with d1 _
  have:its=its':=by simpa using congrArg Array.toList d1
  subst this
  exact r.inj r'
end
abbrev Cx.wish (X:Cx) (E:Value->Shared->Prop):Cx:={X with xe:=E}
abbrev Cx.nox (X:Cx):Cx:=X.wish fun _ _=>False
theorem Cx.Ok.wish {X:Cx} (ok:X.Ok) (E:Value->Shared->Prop):(X.wish E).Ok:=
  ⟨ok.mod,ok.kind,ok.glob,ok.blt,ok.above,ok.inj,ok.has,ok.cab,ok.hd,ok.frames,ok.stk,ok.exf,ok.bs,ok.bsz,ok.noex,ok.exfs,ok.funs,ok.frf⟩
theorem Cx.Ok.unwish {X:Cx} {E:Value->Shared->Prop} (ok:(X.wish E).Ok):X.Ok:=
  ⟨ok.mod,ok.kind,ok.glob,ok.blt,ok.above,ok.inj,ok.has,ok.cab,ok.hd,ok.frames,ok.stk,ok.exf,ok.bs,ok.bsz,ok.noex,ok.exfs,ok.funs,ok.frf⟩
section
variable {X:Cx} {pins:List (Addr×Obj)} {σ:St} {H:Hp} {s:Shared} {E:Value->Shared->Prop}
theorem Inv.wish (I:Inv X pins σ H s) (E:Value->Shared->Prop):Inv (X.wish E) pins σ H s:=⟨I.ok.wish E,I.os,I.bare,I.base,I.loc,I.cell,I.free,I.freeC,I.pin,I.hok,I.len⟩
theorem Inv.unwish (I:Inv (X.wish E) pins σ H s):Inv X pins σ H s:=⟨I.ok.unwish,I.os,I.bare,I.base,I.loc,I.cell,I.free,I.freeC,I.pin,I.hok,I.len⟩
theorem SP.unwish {D:Jl} {f:Flow} {s':Shared} (h:SP (X.wish E) pins D f s'):SP X pins D f s':=by
  cases f with
  | next=>obtain⟨σ',H',I,q⟩:=h;exact⟨σ',H',I.unwish,q⟩
  | brk=>obtain⟨σ',H',I,q⟩:=h;exact⟨σ',H',I.unwish,q⟩
  | cont=>obtain⟨σ',H',I,q⟩:=h;exact⟨σ',H',I.unwish,q⟩
  | ret u=>obtain⟨v,σ',H',I,r,q⟩:=h;exact⟨v,σ',H',I.unwish,r,q⟩
theorem PSs.nox {st:List Stmt} {t:TS} (h:PSs X.nox st t):PSs X st t:=fun pins s σ H D I hw=>
  wpAny_mono (h pins s σ H D (I.wish _) hw) (fun _ _ q=>q.unwish) fun _ _ z=>False.elim z
end
section
variable {X:Cx} {st:Stmt} {rest:List Stmt} {t u:TS} {e:Expr} {te:TE} {pos:Pos}
def tNext:TS:=fun D σ H=>D.nx σ H
def tSeq (t u:TS):TS:=fun D σ H=>t {D with nx:=u D} σ H
theorem zE:PSs X [] tNext:=fun _ _ σ H _ I h=>wpAny_execs_nil ⟨σ,H,I,h⟩
theorem z9 (h1:PS X st t) (h2:PSs X rest u):PSs X (st::rest) (tSeq t u):=by
  intro pins s σ H D I h
  refine wpAny_execs_cons (thn (h1 pins s σ H {D with nx:=u D} I h) fun f s1 q=>?_)
  cases f with
  | next=>
    obtain⟨σ',H',I',q⟩:=q
    exact h2 pins s1 σ' H' D I' q
  | ret v=>exact q
  | brk=>exact q
  | cont=>exact q
theorem zc (h1:PS X st t):PSs X [st] t:=by
  intro pins s σ H D I h
  refine wpAny_execs_cons (thn (h1 pins s σ H D I h) fun f s1 q=>?_)
  cases f with
  | next=>exact wpAny_execs_nil q
  | ret v=>exact q
  | brk=>exact q
  | cont=>exact q
theorem Inv.quiet {pins:List (Addr×Obj)} {σ:St} {H:Hp} {s:Shared} (I:Inv X pins σ H s):interactive X.env=false:=by simp [interactive,I.ok.kind]
def tDrop (te:TE):TS:=fun D σ H=>te σ H fun _ H1=>D.nx σ H1
theorem zz (he:PE X e te) (hs:swapsWith e none pos.line X.env=pure false:=by rfl):PS X (.Expr e pos) (tDrop te):=by
  intro pins s σ H D I h
  exact wpAny_Expr_any (thn (he pins s σ H _ I h) fun v s1 ⟨x,H1,I1,r1,q1⟩=>⟨σ,H1,I1,q1⟩) I.quiet hs
def tRet (te:TE):TS:=fun D σ H=>te σ H D.rt
theorem zn (he:PE X e te):PS X (.Return (some e) pos) (tRet te):=by
  intro pins s σ H D I h
  exact wpAny_Return_some (thn (he pins s σ H _ I h) fun v s1 ⟨x,H1,I1,r1,q1⟩=>⟨x,σ,H1,I1,r1,q1⟩)
def tRetN:TS:=fun D _ H=>D.rt .non H
theorem Nc:PS X (.Return none pos) tRetN:=fun _ _ σ H _ I h=>wpAny_Return_none ⟨.non,σ,H,I,rfl,h⟩
def tIfS (c:TT) (t u:TS):TS:=fun D σ H=>c σ H fun b H1=>if b=true then t D σ H1 else u D σ H1
theorem zR {c:Expr} {a b:List Stmt} {tc:TT} (hc:PT X c tc) (ha:PSs X a t) (hb:PSs X b u):PS X (.If c a b pos) (tIfS tc t u):=by
  intro pins s σ H D I h
  refine wpAny_If (thn (hc pins s σ H _ I h) fun d s1 ⟨H1,I1,q1⟩=>?_)
  cases d with
  | true=>exact ha pins s1 σ H1 D I1 q1
  | false=>exact hb pins s1 σ H1 D I1 q1
def tNever:TS:=fun _ _ _=>False
end
abbrev TG:=V->St->Hp->(St->Hp->Prop)->Prop
abbrev TGs:=List V->St->Hp->(St->Hp->Prop)->Prop
def PG (X:Cx) (target:Expr) (t:TG):Prop:=
  ∀(pins:List (Addr×Obj)) (s:Shared) (σ:St) (H:Hp) (v:V) (u:Value) (Q:St->Hp->Prop),Inv X pins σ H s->zQ v u->t v σ H Q ->
    wpAny (model X.prog X.w) X.A (assign target X.env u) (fun _ s'=>∃σ' H',Inv X pins σ' H' s'/\Q σ' H') X.xe s
def PGs (X:Cx) (ts:List Expr) (t:TGs):Prop:=
  ∀(pins:List (Addr×Obj)) (s:Shared) (σ:St) (H:Hp) (vs:List V) (us:List Value) (Q:St->Hp->Prop),Inv X pins σ H s->zH vs us->t vs σ H Q ->
    wpAny (model X.prog X.w) X.A (assignInOrder ((assignEach ts X.env).map (·.2)) us) (fun _ s'=>∃σ' H',Inv X pins σ' H' s'/\Q σ' H') X.xe s
abbrev TSet:=V->V->V->Hp->(Hp->Prop)->Prop
def PSet (X:Cx) (t:TSet):Prop:=
  ∀(pins:List (Addr×Obj)) (s:Shared) (σ:St) (H:Hp) (o i v:V) (ov iv u:Value) (Q:Hp->Prop),Inv X pins σ H s->zQ o ov->zQ i iv->zQ v u->t o i v H Q ->
    wpAny (model X.prog X.w) X.A (setItem ov iv u) (fun _ s'=>∃H',Inv X pins σ H' s'/\Q H') X.xe s
abbrev TIp:=V->V->Hp->VK->Prop
def PIp (X:Cx) (op:Operator) (t:TIp):Prop:=
  ∀(pins:List (Addr×Obj)) (s:Shared) (σ:St) (H:Hp) (x y:V) (v u:Value) (Q:VK),Inv X pins σ H s->zQ x v->zQ y u->t x y H Q ->
    wpAny (model X.prog X.w) X.A (inplaceOp op v u) (EP X pins σ Q) X.xe s
section
variable {X:Cx} {pos:Pos}
def gName (i:Nat):TG:=fun v σ H Q=>Q (σ.set i (some v)) H
theorem yA {i:Nat} {x:Str} (hN:X.N.Nodup) (hi:X.N[i]? = some x) (hx:Loc X.env.scope x) (hf:X.fn x=true\/X.env.scope.names.lookup x=some .local:=by first | exact .inl rfl | exact .inr rfl | assumption):PG X (.Name x pos) (gName i):=by
  intro pins s σ H v u Q I r h
  exact wpAny_assign_Name (YZ I hN hi hx r (fun s' I'=>⟨_,H,I',h⟩) hf)
def gNil:TGs:=fun vs σ H Q=>vs=[]/\Q σ H
def gCons (t:TG) (u:TGs):TGs:=fun vs σ H Q=>∃v r,vs=v::r/\t v σ H fun σ' H'=>u r σ' H' Q
theorem US:PGs X [] gNil:=by
  intro pins s σ H vs us Q I r h
  obtain⟨e,h⟩:=h
  subst e
  cases r
  exact assignInOrder_nil ⟨σ,H,I,h⟩
theorem Y2 {e:Expr} {es:List Expr} {t:TG} {u:TGs} (h1:PG X e t) (h2:PGs X es u)
    (hs:(assignEach (e::es) X.env).map (·.2)=assign e X.env::(assignEach es X.env).map (·.2):=by rfl):PGs X (e::es) (gCons t u):=by
  intro pins s σ H vs us Q I r h
  obtain⟨v,vr,e1,h⟩:=h
  subst e1
  cases r with
  | cons r rr=>
    rw [hs]
    refine assignInOrder_cons (thn (h1 pins s σ H _ _ _ I r h) fun _ s1 ⟨σ1,H1,I1,q1⟩=>?_)
    exact h2 pins s1 σ1 H1 _ _ Q I1 rr q1
def gTup (K:PySem.W.Frag) (n:Nat) (t:TGs):TG:=fun v σ H Q=>∃a xs,v=.ref a/\SqT K H a xs/\xs.length=n/\t xs σ H Q
theorem ON {es:List Expr} {k:Nat} {t:TGs} {n:Nat} (hc:X.calm=true) (h:PGs X es t)
    (hn:(assignEach es X.env).length=n:=by rfl) (hst:(assignEach es X.env).findIdx? (·.1)=none:=by rfl):PG X (.Tuple es k pos) (gTup X.K n t):=by
  intro pins s σ H v u Q I r hw
  obtain⟨a,xs,e1,hq,hl,hw⟩:=hw
  subst e1
  cases r
  obtain⟨its,rv,ht,hz⟩:=I.tuple hq
  refine assign_Tuple_tuple (I.ok.hd hc) ht (by simp [hn,<-hl,rv.length]) hst fun h' hx=>?_
  have I1:Inv X pins σ H {s with heap:=h'}:=I.kept (t':=s.toks) fun b o e=>hx b o (Nat.ne_of_lt (Heap.lt_size e)) e
  exact h pins _ σ H xs _ Q I1 (by simpa using rv) hw
def gSub (to ti:TE) (t:TSet):TG:=fun v σ H Q=>to σ H fun o H1=>ti σ H1 fun i H2=>t o i v H2 fun H3=>Q σ H3
theorem Jy {o i:Expr} {to ti:TE} {t:TSet} (ho:PE X o to) (hi:PE X i ti) (hs:PSet X t)
    (ha:∀v,assign (.Subscript o i pos) X.env v=(do
      let ov <-holding [v] (eval o X.env)
      let iv <-holding [v,ov] (eval i X.env)
      standAt pos
      holding [v,ov,iv] (setItem ov iv v)
      release [v,ov,iv] []):=by intro _;rfl):PG X (.Subscript o i pos) (gSub to ti t):=by
  intro pins s σ H v u Q I r h
  rw [ha]
  refine wpAny_bind (wpAny_holding (thn (ho pins s σ H _ I h) fun ov s1 ⟨x,H1,I1,r1,q1⟩=>?_))
  refine wpAny_bind (wpAny_holding (thn (hi pins s1 σ H1 _ I1 q1) fun iv s2 ⟨y,H2,I2,r2,q2⟩=>?_))
  refine wpAny_bind (wpAny_standAt (wpAny_bind (wpAny_holding (thn (hs pins s2 σ H2 x y v ov iv u _ I2 r1 r2 r q2) fun _ s3 ⟨H3,I3,q3⟩=>?_))))
  exact wpAny_release ⟨σ,H3,I3,q3⟩
def tAsg (te:TE) (g:TG):TS:=fun D σ H=>te σ H fun x H1=>g x σ H1 D.nx
theorem JD {tg e:Expr} {te:TE} {g:TG} (he:PE X e te) (hg:PG X tg g) (hs:swapsWithSole [tg] e pos.line X.env=pure false:=by rfl) (hw:swappedStores [tg] e X.env=pure none:=by rfl)
    (h1:(assignEach [tg] X.env).map (·.2)=[assign tg X.env]:=by rfl):PS X (.Assign [tg] e pos) (tAsg te g):=by
  intro pins s σ H D I h
  refine wpAny_Assign_stores (thn (he pins s σ H _ I h) fun v s1 ⟨x,H1,I1,r1,q1⟩=>?_) hs hw
  rw [h1]
  exact thn (hg pins s1 σ H1 x v _ I1 r1 q1) fun _ s2 q=>q
theorem zy {i:Nat} {x:Str} {e:Expr} {te:TE} {pos':Pos} (hN:X.N.Nodup) (hi:X.N[i]? = some x) (hx:Loc X.env.scope x) (he:PE X e te) (hs:swapsWith e (some (.Name x pos')) pos.line X.env=pure false:=by rfl) (hf:X.fn x=true\/X.env.scope.names.lookup x=some .local:=by first | exact .inl rfl | exact .inr rfl | assumption) :
    PS X (.Assign [.Name x pos'] e pos) (tAsg te (gName i)):=by
  intro pins s σ H D I h
  refine wpAny_Assign_Name (thn (he pins s σ H _ I h) fun v s1 ⟨y,H1,I1,r1,q1⟩=>?_) hs
  exact YZ I1 hN hi hx r1 (fun s2 I2=>⟨_,H1,I2,q1⟩) hf
def tAug (i:Nat) (te:TE) (ti:TIp):TS:=fun D σ H=>∃x,σ[i]? = some (some x)/\te σ H fun y H1=>ti x y H1 fun z H2=>D.nx (σ.set i (some z)) H2
theorem Yo {i:Nat} {x:Str} {e:Expr} {te:TE} {op:Operator} {ti:TIp} {pos':Pos} (hN:X.N.Nodup) (hi:X.N[i]? = some x) (hx:Loc X.env.scope x) (he:PE X e te) (ho:PIp X op ti) (hf:X.fn x=true\/X.env.scope.names.lookup x=some .local:=by first | exact .inl rfl | exact .inr rfl | assumption) :
    PS X (.AugAssign (.Name x pos') op e pos) (tAug i te ti):=by
  intro pins s σ H D I h
  obtain⟨v,e1,h⟩:=h
  obtain⟨m,hn,hl⟩:=I.loc
  have vis:Vis X.env.scope x:=by rcases hx with k | k;exact .inl k;exact .inr (.inl k)
  obtain⟨u,r,l⟩:=hl i x v hi e1 vis
  refine wpAny_AugAssign_Name ?_
  have go:wpAny (model X.prog X.w) X.A (eval e X.env) (fun w s₂=>wpAny (model X.prog X.w) X.A (inplaceOp op u w) (fun r s₃=>wpAny (model X.prog X.w) X.A (storeName X.env x r) (fun _=>SP X pins D .next) X.xe s₃) X.xe s₂) X.xe s:=by
    refine thn (he pins s σ H _ I h) fun w s1 ⟨y,H1,I1,r1,q1⟩=>?_
    refine thn (ho pins s1 σ H1 v y u w _ I1 r r1 q1) fun z s2 ⟨zv,H2,I2,r2,q2⟩=>?_
    exact YZ I2 hN hi hx r2 (fun s3 I3=>⟨_,H2,I3,q2⟩) hf
  rcases l with ⟨hk,hm⟩ | ⟨hk,c,hc,hcell⟩
  · exact wpAny_loadName_local I.ok.kind hk hn hm go
  · rcases hk with hk | hk
    · exact wpAny_loadName_cell I.ok.kind hk hc hcell go
    · rcases hx with k | k
      · have:X.env.scope.names.lookup x=some .free:=hk
        rw [k] at this;cases this
      · have:X.env.scope.names.lookup x=some .free:=hk
        rw [k] at this;cases this
def ipI (f:Int->Int->Int):TIp:=fun x y H Q=>∃i j,x=.int i/\y=.int j/\Q (.int (f i j)) H
theorem Yx:PIp X .Add (ipI fun i j=>i+j):=by
  intro pins s σ H x y v u Q I r1 r2 h
  obtain⟨i,j,e1,e2,q⟩:=h
  subst e1;subst e2
  obtain⟨t,rfl⟩:=r1
  obtain⟨t',rfl⟩:=r2
  exact iadd_int ⟨.int _,H,I.tok _,⟨_,rfl⟩,q⟩
end
section
variable {X:Cx} {pos:Pos}
def tWhile (c:TT) (tb:TS):TS:=fun D σ H=>∃W:Nat->St->Hp->Prop,(∃m,W m σ H)/\∀m σ H,W m σ H ->
  c σ H fun b H1=>if b=true then ∃N:St->Hp->Prop,(∀σ' H',N σ' H'->∃m',m'<m/\W m' σ' H')/\tb {D with nx:=N,ct:=N,bk:=D.nx} σ H1 else D.nx σ H1
theorem jI {c:Expr} {body:List Stmt} {tc:TT} {tb:TS} (hp:PassesOwn (model X.prog X.w) X.A X.env X.xe) (hc:PT X c tc) (hb:PSs X body tb):PS X (.While c body [] pos) (tWhile tc tb):=by
  intro pins s σ H D I h
  obtain⟨W,⟨m0,w0⟩,turn⟩:=h
  refine wpAny_While (codeAny_whileLoop (fun n s'=>∃σ' H',Inv X pins σ' H' s'/\W n σ' H') ?_ m0 ⟨σ,H,I,w0⟩)
  rintro n s1 ⟨σ1,H1,I1,w1⟩
  refine wpAny_passesOwn hp (thn (hc pins s1 σ1 H1 _ I1 (turn n σ1 H1 w1)) fun b s2 ⟨H2,I2,q2⟩=>?_)
  cases b with
  | true=>
    obtain⟨N,hN,q2⟩:=q2
    rw [if_pos rfl]
    refine wpAny_passesOwn hp (thn (hb pins s2 σ1 H2 _ I2 q2) fun f s3 q3=>?_)
    cases f with
    | next=>
      obtain⟨σ3,H3,I3,n3⟩:=q3
      obtain⟨m',hm,w3⟩:=hN σ3 H3 n3
      exact⟨m',hm,σ3,H3,I3,w3⟩
    | cont=>
      obtain⟨σ3,H3,I3,n3⟩:=q3
      obtain⟨m',hm,w3⟩:=hN σ3 H3 n3
      exact⟨m',hm,σ3,H3,I3,w3⟩
    | brk=>exact q3
    | ret v=>exact q3
  | false=>
    rw [if_neg Bool.false_ne_true]
    exact wpAny_execs_nil ⟨σ1,H2,I2,q2⟩
end
structure It where
  go:Nat->Hp->Prop
  yld:Nat->Hp->V->Hp->Prop
  stop:Nat->Hp->Prop
def J4 (X:Cx) (pins:List (Addr×Obj)) (H:Hp) (b:Addr):Prop:=
  H b=none/\b≠X.env.locals/\b∉X.fs/\(b∈X.ex\/X.s_0.heap.objs.size<=b)/\(∀x c,X.env.cells.lookup x=some c->c≠b)/\∀p∈X.pn++pins,p.1≠b
theorem Inv.fpOk {X:Cx} {pins:List (Addr×Obj)} {σ:St} {H H':Hp} {s:Shared} {b:Addr} (I:Inv X pins σ H s) (hb:s.heap.objs.size<=b) (hn:H' b=none):J4 X pins H' b:=by
  refine⟨hn,Nat.ne_of_gt (Nat.lt_of_lt_of_le I.lt hb),I.nofs hb,.inr (Nat.le_trans I.sz hb),fun x c e z=>?_,fun p hp z=>?_⟩
  · obtain⟨v,q⟩:=I.cell x c e
    exact absurd (Nat.lt_of_lt_of_le q.lt (by rw [z];exact hb)) (Nat.lt_irrefl _)
  · exact absurd (Nat.lt_of_lt_of_le (Heap.lt_size (I.pin p hp).1) (by rw [z];exact hb)) (Nat.lt_irrefl _)
structure Z3 (P:Program) (w:World) (K:PySem.W.Frag) (tg:Expr) (J:It) (fp:List Addr) (it:Addr) (tn:Nat->Heap->Prop):Prop where
  mem:it∈fp
  obj:∀i h,tn i h->∀b∈fp,∃o,h.get? b=some o/\∀v,o.data≠.cell v
  keep:∀i h h',tn i h->(∀b∈fp,∀o,h.get? b=some o->h'.get? b=some o)->tn i h'
  item:∀(X:Cx),X.prog=P->X.w=w->X.K=K->X.calm=true->∀(i:Nat) (pins:List (Addr×Obj)) (s:Shared) (σ:St) (H:Hp) (E:Value->Shared->Prop),Inv X pins σ H s->(∀b∈fp,J4 X pins H b)->tn i s.heap->J.go i H ->
    wpAny (model P w) X.A (pyNext (.ref it)) (fun r s1=>∃u,r=some u /\
      wpAny (model P w) X.A (letOwnedTupleGo tg (.ref it) u) (fun _ s2=>∃x H',Inv X pins σ H' s2/\zQ x u/\J.yld i H x H'/\tn (i+1) s2.heap/\∀b∈fp,H' b=none) E s1) E s
  done:∀(X:Cx),X.prog=P->X.w=w->X.K=K->X.calm=true->∀(i:Nat) (pins:List (Addr×Obj)) (s:Shared) (σ:St) (H:Hp) (E:Value->Shared->Prop),Inv X pins σ H s->(∀b∈fp,J4 X pins H b)->tn i s.heap->J.stop i H ->
    wpAny (model P w) X.A (pyNext (.ref it)) (fun r s1=>r=none/\Inv X pins σ H s1) E s
  self:∀(A:Around) (i:Nat) (s:Shared) (Q:Value->Shared->Prop) (E:Value->Shared->Prop),tn i s.heap->Q (.ref it) s->wpAny (model P w) A (pyIter (.ref it)) Q E s
abbrev TI:=St->Hp->(It->Hp->Prop)->Prop
def PIE (X:Cx) (pins:List (Addr×Obj)) (σ:St) (tg:Expr) (R:It->Hp->Prop) (itv:Value) (s2:Shared):Prop:=
  ∃(it:Addr) (fp:List Addr) (tn:Nat->Heap->Prop) (J:It) (H':Hp),itv=.ref it/\Inv X pins σ H' s2/\Z3 X.prog X.w X.K tg J fp it tn/\tn 0 s2.heap/\(∀b∈fp,J4 X pins H' b)/\R J H'
def PI (X:Cx) (tg iter:Expr) (wi:TI):Prop:=
  ∀(pins:List (Addr×Obj)) (s:Shared) (σ:St) (H:Hp) (R:It->Hp->Prop),Inv X pins σ H s->wi σ H R ->
    wpAny (model X.prog X.w) X.A (eval iter X.env) (fun v s1=>wpAny (model X.prog X.w) X.A (pyIter v) (PIE X pins σ tg R) X.xe s1) X.xe s
theorem Vz {M:Model} {A:Around} {E:Value->Shared->Prop} {s:Shared} {tg:Expr} {it:Addr} {u:Value} {o:Obj} {n:String} {vs:Array Value} {Q:Unit->Shared->Prop} (ho:s.heap.get? it=some o) (hc:o.cls=.type n) (hd:o.data=.fields vs)
    (hn:["enumerate","zip","dict_itemiterator","dict_reverseitemiterator","odict_iterator","itertools.zip_longest","itertools.pairwise"].contains n=false) (hQ:Q () s):wpAny M A (letOwnedTupleGo tg (.ref it) u) Q E s:=by
  unfold letOwnedTupleGo
  cases tg <;> first
    | exact wpAny_pure hQ
    | (cases u <;> first
        | exact wpAny_pure hQ
        | (refine wpAny_bind (wpAny_load ho ?_)
           rw [hc,hd]
           show wpAny M A (if (["enumerate","zip","dict_itemiterator","dict_reverseitemiterator","odict_iterator","itertools.zip_longest","itertools.pairwise"].contains n && vs[0]? == some (rawInt _))=true then _ else _) Q E s
           rw [if_neg (by intro h;rw [hn,Bool.false_and] at h;cases h)]
           exact wpAny_pure hQ))
def Itl (K:PySem.W.Frag) (a:Addr):It:=
  ⟨fun i H=>∃xs x,SqL K H a xs/\xs[i]? = some x,fun i H x H'=>H'=H/\∀xs,SqL K H a xs->xs[i]? = some x,fun i H=>∃xs,SqL K H a xs/\xs.length<=i⟩
theorem Ig {P:Program} {w:World} {K:PySem.W.Frag} {tg:Expr} (a it:Addr):Z3 P w K tg (Itl K a) [it] it (fun i h=>h.IsListIter it a i) where
  mem:=by simp
  obj:=fun i h st b hb=>by
    have e:b=it:=by simpa using hb
    subst e
    obtain⟨o,e,c,d⟩:=st
    exact⟨o,e,fun v z=>by rw [d] at z;cases z⟩
  keep:=fun i h h' st k=>st.at fun o e=>k it (by simp) o e
  item:=by
    intro X hP hw hK hc i pins s σ H E I hf st hg
    subst hP hw hK
    obtain⟨xs,x,hq,hx⟩:=hg
    obtain⟨its,rv,p,hz⟩:=I.list hq
    obtain⟨u,hu,ru⟩:=rv.get hx
    obtain⟨f0,f1,f2,f3,f4,f5⟩:=hf it (by simp)
    refine wpAny_pyNext_list_item st p.isList (x:=u) (by simpa using hu) fun h' st' sb=>?_
    have I1:Inv X pins σ H {s with heap:=h'}:=I.turned (t':=s.toks) (fun b o hb e=>(sb.2 b hb).trans e) f0 f1 f3 f4 f5
    obtain⟨o,e,c,d⟩:=id st'
    exact⟨u,rfl,Vz (s:={s with heap:=h'}) e c d (by decide) ⟨x,H,I1,ru,⟨rfl,fun ys hy=>by rw [I.list_inj hy hq];exact hx⟩,st',fun b hb=>(hf b hb).1⟩⟩
  done:=by
    intro X hP hw hK hc i pins s σ H E I hf st hg
    subst hP hw hK
    obtain⟨xs,hq,hx⟩:=hg
    obtain⟨its,rv,p,hz⟩:=I.list hq
    obtain⟨f0,f1,f2,f3,f4,f5⟩:=hf it (by simp)
    have hl:=rv.length
    exact wpAny_pyNext_list_end (I.ok.hd hc) st p.isList (by simp;omega) fun h' eb=>⟨rfl,I.turned (t':=s.toks) (fun b o hb e=>eb b o hb e) f0 f1 f3 f4 f5⟩
  self:=fun _ _ _ _ _ st h=>wpAny_pyIter_listiter st h
end L2
namespace L2
open PySem PySem.Spec PyProof.Rows
section
variable {X:Cx} {tg:Expr}
def iList (K:PySem.W.Frag) (tl:TE):TI:=fun σ H R=>tl σ H fun x H1=>∃a,x=.ref a/\(∃xs,SqL K H1 a xs)/\R (Itl K a) H1
theorem jh {l:Expr} {tl:TE} (hl:PE X l tl):PI X tg l (iList X.K tl):=by
  intro pins s σ H R I h
  refine thn (hl pins s σ H _ I h) fun v s1 ⟨x,H1,I1,r1,q1⟩=>?_
  obtain⟨a,e,⟨xs,hq⟩,q⟩:=q1
  subst e
  cases r1
  obtain⟨its,rv,p,hz⟩:=I1.list hq
  refine wpAny_pyIter_list p.isList ?_
  refine⟨s1.heap.objs.size,[s1.heap.objs.size],_,_,H1,rfl,I1.kept (t':=s1.toks) fun b o e=>Heap.get?_push_of_some _ e,Ig a _,⟨_,Heap.get?_push_size _ rfl,rfl,rfl⟩,fun b hb=>?_,q⟩
  have e:b=s1.heap.objs.size:=by simpa using hb
  subst e
  exact I1.fpOk (Nat.le_refl _) (I1.hok.fresh (Nat.le_refl _))
def tFor (wi:TI) (g:TG) (tb:TS):TS:=fun D σ H=>wi σ H fun J H1=>∃W:Nat->Nat->St->Hp->Prop,(∃m,W 0 m σ H1)/\∀i m σ H,W i m σ H ->
  (J.stop i H/\D.nx σ H)\/(J.go i H/\∃N:St->Hp->Prop,(∀σ' H',N σ' H'->∃m',m'<m/\W (i+1) m' σ' H')/\∀x H',J.yld i H x H'->g x σ H' fun σ2 H2=>tb {D with nx:=N,ct:=N,bk:=D.nx} σ2 H2)
def pinsAt (fp:List Addr) (h:Heap):List (Addr×Obj):=fp.filterMap fun b=>(h.get? b).map fun o=>(b,o)
theorem JS {fp:List Addr} {h:Heap} {b:Addr} {o:Obj} (hb:b∈fp) (e:h.get? b=some o):(b,o)∈pinsAt fp h:=List.mem_filterMap.mpr ⟨b,hb,by rw [e];rfl⟩
theorem Oh {fp:List Addr} {h:Heap} {p:Addr×Obj} (hp:p∈pinsAt fp h):p.1∈fp/\h.get? p.1=some p.2:=by
  obtain⟨b,hb,e⟩:=List.mem_filterMap.mp hp
  cases q:h.get? b with
  | none=>rw [q] at e;cases e
  | some o=>
    rw [q] at e
    have e':(b,o)=p:=Option.some.inj e
    subst e'
    exact⟨hb,q⟩
theorem Inv.pinned {pins:List (Addr×Obj)} {σ:St} {H:Hp} {s:Shared} {fp:List Addr} (I:Inv X pins σ H s) (hf:∀b∈fp,J4 X pins H b) (ho:∀b∈fp,∃o,s.heap.get? b=some o/\∀v,o.data≠.cell v):Inv X (pins++pinsAt fp s.heap) σ H s:=
  I.pins_of fun p hp=>(List.mem_append.mp hp).elim (fun z=>I.pin p (List.mem_append_right _ z)) fun z=>by
    obtain⟨hb,e⟩:=Oh z
    obtain⟨f0,f1,f2,_⟩:=hf p.1 hb
    obtain⟨o,e',d⟩:=ho p.1 hb
    rw [e] at e';cases e'
    exact⟨e,f0,f1,f2,d⟩
theorem Inv.unpinned {pins pl:List (Addr×Obj)} {σ:St} {H:Hp} {s:Shared} (I:Inv X (pins++pl) σ H s):Inv X pins σ H s:=I.pins_of fun p hp=>I.pin p (List.mem_append_right _ (List.mem_append_left _ hp))
theorem xF {iter:Expr} {body:List Stmt} {wi:TI} {g:TG} {tb:TS} {pos:Pos} (hp:PassesOwn (model X.prog X.w) X.A X.env X.xe) (hc:X.calm=true) (hi:PI X tg iter wi) (hg:PG X tg g) (hb:PSs X body tb)
    (hs:∀x,foldedSetIterable iter X.env x=pure x:=by intro _;rfl):PS X (.For tg iter body [] pos) (tFor wi g tb):=by
  intro pins s σ H D I h
  refine wpAny_For (thn (hi pins s σ H _ I h) fun v s1 h1=>thn h1 fun itv s2 h2=>?_) hs
  obtain⟨it,fp,tn,J,H2,e,I2,T,st2,f2,W,⟨m0,w0⟩,turn⟩:=h2
  subst e
  have stat:∀{H':Hp},(∀b∈fp,H' b=none)->∀b∈fp,J4 X pins H' b:=fun hn b hb=>⟨hn b hb,(f2 b hb).2⟩
  refine codeAny_forLoop_any (fun n s'=>∃i σ' H',Inv X pins σ' H' s'/\tn i s'.heap/\(∀b∈fp,H' b=none)/\W i n σ' H') ?_ m0 ⟨0,σ,H2,I2,st2,fun b hb=>(f2 b hb).1,w0⟩
  rintro n s3 ⟨i,σ3,H3,I3,st3,fr3,w3⟩
  rcases turn i n σ3 H3 w3 with ⟨stop,qn⟩ | ⟨go,N,hN,step⟩
  · refine wpAny_passesOwn hp (thn (T.done X rfl rfl rfl hc i pins s3 σ3 H3 X.xe I3 (stat fr3) st3 stop) fun r s4 ⟨hr,I4⟩=>?_)
    subst hr
    exact wpAny_execs_nil ⟨σ3,H3,I4,qn⟩
  · refine wpAny_passesOwn hp (thn (T.item X rfl rfl rfl hc i pins s3 σ3 H3 X.xe I3 (stat fr3) st3 go) fun r s4 ⟨u,hr,h4⟩=>?_)
    subst hr
    refine wpAny_passesOwn hp (thn h4 fun _ s5 ⟨x,H5,I5,r5,y5,st5,fr5⟩=>?_)
    have I5':=I5.pinned (stat fr5) (T.obj _ _ st5)
    refine wpAny_passesOwn hp (thn (hg _ s5 σ3 H5 x u _ I5' r5 (step x H5 y5)) fun _ s6 ⟨σ6,H6,I6,q6⟩=>?_)
    refine wpAny_passesOwn hp (thn (hb _ s6 σ6 H6 _ I6 q6) fun f s7 q7=>?_)
    have again:∀{σ7:St} {H7:Hp},Inv X (pins++pinsAt fp s5.heap) σ7 H7 s7->N σ7 H7->∃m,m<n/\∃i σ' H',Inv X pins σ' H' s7/\tn i s7.heap/\(∀b∈fp,H' b=none)/\W i m σ' H':=fun {σ7 H7} I7 n7=>by
      obtain⟨m',hm,w7⟩:=hN σ7 H7 n7
      refine⟨m',hm,i+1,σ7,H7,I7.unpinned,T.keep _ _ _ st5 fun b hb o e=>(I7.pin (b,o) (List.mem_append_right _ (List.mem_append_right _ (JS hb e)))).1,fun b hb=>?_,w7⟩
      obtain⟨o,e,d⟩:=T.obj _ _ st5 b hb
      exact(I7.pin (b,o) (List.mem_append_right _ (List.mem_append_right _ (JS hb e)))).2.1
    cases f with
    | next=>obtain⟨σ7,H7,I7,n7⟩:=q7;exact again I7 n7
    | cont=>obtain⟨σ7,H7,I7,n7⟩:=q7;exact again I7 n7
    | brk=>obtain⟨σ7,H7,I7,q7⟩:=q7;exact⟨σ7,H7,I7.unpinned,q7⟩
    | ret v=>obtain⟨x7,σ7,H7,I7,r7,q7⟩:=q7;exact⟨x7,σ7,H7,I7.unpinned,r7,q7⟩
end
theorem jq {K:PySem.W.Frag} {a:Addr} {xs:List V} {g:TG} {tb:TS} {D:Jl} {σ:St} {H:Hp} (Pv:Nat->St->Hp->Prop) (h0:Pv 0 σ H) (hl:∀i σ H,i<=xs.length->Pv i σ H->SqL K H a xs)
    (hs:∀i x σ H,xs[i]? = some x->Pv i σ H->g x σ H fun σ2 H2=>tb {D with nx:=Pv (i+1),ct:=Pv (i+1),bk:=D.nx} σ2 H2) (hd:∀σ H,Pv xs.length σ H->D.nx σ H) :
    ∃W:Nat->Nat->St->Hp->Prop,(∃m,W 0 m σ H)/\∀i m σ H,W i m σ H ->
      ((Itl K a).stop i H/\D.nx σ H)\/((Itl K a).go i H/\∃N:St->Hp->Prop,(∀σ' H',N σ' H'->∃m',m'<m/\W (i+1) m' σ' H')/\∀x H',(Itl K a).yld i H x H'->g x σ H' fun σ2 H2=>tb {D with nx:=N,ct:=N,bk:=D.nx} σ2 H2):=by
  refine⟨fun i m σ H=>m=xs.length - i/\i<=xs.length/\Pv i σ H,⟨xs.length,by simp,Nat.zero_le _,h0⟩,?_⟩
  rintro i m σ H ⟨rfl,hi,p⟩
  have q:=hl i σ H hi p
  by_cases hlt:i<xs.length
  · refine .inr ⟨⟨xs,xs[i],q,by simp [hlt]⟩,Pv (i+1),fun σ' H' p'=>⟨xs.length - (i+1),by omega,rfl,hlt,p'⟩,fun x H' y=>?_⟩
    obtain⟨e,y⟩:=y
    subst e
    exact hs i x σ _ (y xs q) p
  · have e:i=xs.length:=by omega
    subst e
    exact .inl ⟨⟨xs,q,Nat.le_refl _⟩,hd σ H p⟩
end L2
namespace L2
open PySem PySem.Spec PyProof.Rows
abbrev R2:=V->V->Hp->VK->Prop
def OpR (X:Cx) (f:Value->Value->Sem Value) (r:R2):Prop:=
  ∀(pins:List (Addr×Obj)) (s:Shared) (σ:St) (H:Hp) (x y:V) (v u:Value) (Q:VK),Inv X pins σ H s->zQ x v->zQ y u->r x y H Q ->
    wpAny (model X.prog X.w) X.A (f v u) (EP X pins σ Q) X.xe s
def UnR (X:Cx) (f:Value->Sem Value) (r:V->Hp->VK->Prop):Prop:=
  ∀(pins:List (Addr×Obj)) (s:Shared) (σ:St) (H:Hp) (x:V) (v:Value) (Q:VK),Inv X pins σ H s->zQ x v->r x H Q ->
    wpAny (model X.prog X.w) X.A (f v) (EP X pins σ Q) X.xe s
def CallR (X:Cx) (f:Value) (r:List V->Hp->VK->Prop):Prop:=
  ∀(pins:List (Addr×Obj)) (s:Shared) (σ:St) (H:Hp) (xs:List V) (us:List Value) (Q:VK),Inv X pins σ H s->zH xs us->r xs H Q ->
    wpAny (model X.prog X.w) X.A (call f us) (EP X pins σ Q) X.xe s
def TruR (X:Cx) (r:V->Hp->(Bool->Hp->Prop)->Prop):Prop:=
  ∀(pins:List (Addr×Obj)) (s:Shared) (σ:St) (H:Hp) (x:V) (v:Value) (Q:Bool->Hp->Prop),Inv X pins σ H s->zQ x v->r x H Q ->
    wpAny (model X.prog X.w) X.A (truthy v) (TP X pins σ Q) X.xe s
def tOp (r:R2) (ta tb:TE):TE:=fun σ H Q=>ta σ H fun x H1=>tb σ H1 fun y H2=>r x y H2 Q
def tUn (r:V->Hp->VK->Prop) (ta:TE):TE:=fun σ H Q=>ta σ H fun x H1=>r x H1 Q
def rI0 (g:Int->Int->V):R2:=fun x y H Q=>∃i j,x=.int i/\y=.int j/\Q (g i j) H
def rU (g:Int->V):V->Hp->VK->Prop:=fun x H Q=>∃i,x=.int i/\Q (g i) H
section
variable {X:Cx} {a b c:Expr} {ta tb tc:TE} {pos:Pos}
theorem binT (ha:PE X a ta) (hb:PE X b tb) {pins:List (Addr×Obj)} {s:Shared} {σ:St} {H:Hp} {R:V->V->Hp->Prop} (I:Inv X pins σ H s)
    (h:ta σ H fun x H1=>tb σ H1 fun y H2=>R x y H2) {Q:Value->Shared->Prop} {f:Value->Value->Sem Value}
    (hf:∀v u s2 x y H2,Inv X pins σ H2 s2->zQ x v->zQ y u->R x y H2->wpAny (model X.prog X.w) X.A (f v u) Q X.xe s2) :
    wpAny (model X.prog X.w) X.A (eval a X.env) (fun v s₁=>wpAny (model X.prog X.w) X.A (eval b X.env) (fun u s₂=>wpAny (model X.prog X.w) X.A (f v u) Q X.xe s₂) X.xe s₁) X.xe s:=by
  refine thn (ha pins s σ H _ I h) fun v s1 ⟨x,H1,I1,r1,q1⟩=>?_
  refine thn (hb pins s1 σ H1 _ I1 q1) fun u s2 ⟨y,H2,I2,r2,q2⟩=>?_
  exact hf v u s2 x y H2 I2 r1 r2 q2
theorem yb {op:Operator} {r:R2} (ho:OpR X (binaryOp op) r) (ha:PE X a ta) (hb:PE X b tb):PE X (.BinOp a op b pos) (tOp r ta tb):=by
  intro pins s σ H Q I h
  exact wpAny_BinOp (binT ha hb I h fun v u s2 x y H2 I2 rx ry q=>ho pins s2 σ H2 x y v u Q I2 rx ry q)
theorem j5 {op:UnaryOp} {r:V->Hp->VK->Prop} (ho:UnR X (unaryOp op) r) (ha:PE X a ta):PE X (.UnaryOp op a pos) (tUn r ta):=by
  intro pins s σ H Q I h
  exact UnaryOp_ (thn (ha pins s σ H _ I h) fun v s1 ⟨x,H1,I1,r1,q1⟩=>ho pins s1 σ H1 x v Q I1 r1 q1)
theorem opI0 {f:Value->Value->Sem Value} {g:Int->Int->Int}
    (rule:∀(i j:Int) (t u:Tok) (s:Shared) (Q:Value->Shared->Prop) (E:Value->Shared->Prop),Q (.int (g i j) s.toks) {s with toks:=s.toks+1}->wpAny (model X.prog X.w) X.A (f (.int i t) (.int j u)) Q E s) :
    OpR X f (rI0 fun i j=>.int (g i j)):=by
  intro pins s σ H x y v u Q I rx ry h
  obtain⟨i,j,rfl,rfl,q⟩:=h
  obtain⟨t,rfl⟩:=rx
  obtain⟨t',rfl⟩:=ry
  exact rule i j t t' s _ _ ⟨.int (g i j),H,I.tok _,⟨_,rfl⟩,q⟩
theorem opB0 {f:Value->Value->Sem Value} {g:Int->Int->Bool}
    (rule:∀(i j:Int) (t u:Tok) (s:Shared) (Q:Value->Shared->Prop) (E:Value->Shared->Prop),Q (.bool (g i j)) s->wpAny (model X.prog X.w) X.A (f (.int i t) (.int j u)) Q E s) :
    OpR X f (rI0 fun i j=>.bl (g i j)):=by
  intro pins s σ H x y v u Q I rx ry h
  obtain⟨i,j,rfl,rfl,q⟩:=h
  obtain⟨t,rfl⟩:=rx
  obtain⟨t',rfl⟩:=ry
  exact rule i j t t' s _ _ ⟨.bl (g i j),H,I,rfl,q⟩
theorem yC:OpR X (binaryOp .Add) (rI0 fun i j=>.int (i+j)):=opI0 fun _ _ _ _ _ _ _ q=>add_int q
theorem qF:OpR X (binaryOp .Sub) (rI0 fun i j=>.int (i - j)):=opI0 fun _ _ _ _ _ _ _ q=>sub_int q
theorem unI {f:Value->Sem Value} {g:Int->Int}
    (rule:∀(i:Int) (t:Tok) (s:Shared) (Q:Value->Shared->Prop) (E:Value->Shared->Prop),Q (.int (g i) s.toks) {s with toks:=s.toks+1}->wpAny (model X.prog X.w) X.A (f (.int i t)) Q E s) :
    UnR X f (rU fun i=>.int (g i)):=by
  intro pins s σ H x v Q I rx h
  obtain⟨i,rfl,q⟩:=h
  obtain⟨t,rfl⟩:=rx
  exact rule i t s _ _ ⟨.int (g i),H,I.tok _,⟨_,rfl⟩,q⟩
theorem xy:UnR X (unaryOp .USub) (rU fun i=>.int (-i)):=unI fun _ _ _ _ _ q=>neg_int q
end
def scal:V->V->Bool
  | .non,.non=>true | .non,.int _=>true | .int _,.non=>true | .non,.bl _=>true | .bl _,.non=>true | .non,.str _=>true | .str _,.non=>true
  | .int _,.int _=>true | .bl _,.bl _=>true | .str _,.str _=>true | .byt _,.byt _=>true
  | .int _,.str _=>true | .str _,.int _=>true | .bl _,.str _=>true | .str _,.bl _=>true
  | _,_=>false
def rEq:R2:=fun x y H Q=>scal x y=true/\Q (.bl (decide (x=y))) H
def rNe:R2:=fun x y H Q=>scal x y=true/\Q (.bl (!decide (x=y))) H
theorem Nj {i j:Int}:decide (V.int i=V.int j)=(i == j):=by
  rw [Bool.eq_iff_iff]
  simp
theorem Oi {i j:Bool}:decide (V.bl i=V.bl j)=(i == j):=by
  rw [Bool.eq_iff_iff]
  simp
theorem Nb {i j:Str}:decide (V.str i=V.str j)=(i == j):=by
  rw [Bool.eq_iff_iff]
  simp
theorem UW {i j:Array UInt8}:decide (V.byt i=V.byt j)=(i.toList == j.toList):=by
  rw [Bool.eq_iff_iff]
  cases i
  cases j
  simp
section
variable {X:Cx} {a b c:Expr} {ta tb tc:TE} {pos:Pos}
theorem y6 {pins:List (Addr×Obj)} {σ:St} {H:Hp} {s:Shared} {Q:VK} {k k':Bool} (I:Inv X pins σ H s) (q:Q (.bl k) H) (e:k=k'):EP X pins σ Q (.bool k') s:=by
  subst e
  exact⟨.bl k,H,I,rfl,q⟩
theorem xO:OpR X (compareOp .Eq) rEq:=by
  intro pins s σ H x y v u Q I rx ry h
  obtain⟨hs,q⟩:=h
  cases x with
  | non=>
    cases rx
    cases y with
    | non=>cases ry;exact PySem.EqNone.eq_none_none (y6 I q (by simp))
    | bl j=>cases ry;exact PySem.EqNone.eq_none_bool (y6 I q (by simp))
    | int j=>obtain⟨t',rfl⟩:=ry;exact PySem.EqNone.eq_none_int (y6 I q (by simp))
    | str j=>obtain⟨t',rfl⟩:=ry;exact PySem.EqNone.eq_none_str (y6 I q (by simp))
    | _=>exact absurd (show false=true from hs) Bool.false_ne_true
  | bl i=>
    cases rx
    cases y with
    | non=>cases ry;exact PySem.EqNone.eq_bool_none (y6 I q (by simp))
    | bl j=>cases ry;exact eq_bool (y6 I q Oi)
    | str j=>obtain⟨t',rfl⟩:=ry;exact PySem.EqMixed.eq_bool_str (y6 I q (by simp))
    | _=>exact absurd (show false=true from hs) Bool.false_ne_true
  | int i=>
    obtain⟨t,rfl⟩:=rx
    cases y with
    | non=>cases ry;exact PySem.EqNone.eq_int_none (y6 I q (by simp))
    | int j=>obtain⟨t',rfl⟩:=ry;exact eq_int (y6 I q Nj)
    | str j=>obtain⟨t',rfl⟩:=ry;exact PySem.EqMixed.eq_int_str (y6 I q (by simp))
    | _=>exact absurd (show false=true from hs) Bool.false_ne_true
  | str i=>
    obtain⟨t,rfl⟩:=rx
    cases y with
    | non=>cases ry;exact PySem.EqNone.eq_str_none (y6 I q (by simp))
    | bl j=>cases ry;exact PySem.EqMixed.eq_str_bool (y6 I q (by simp))
    | int j=>obtain⟨t',rfl⟩:=ry;exact PySem.EqMixed.eq_str_int (y6 I q (by simp))
    | str j=>obtain⟨t',rfl⟩:=ry;exact eq_str (y6 I q Nb)
    | _=>exact absurd (show false=true from hs) Bool.false_ne_true
  | byt i=>
    obtain⟨t,rfl⟩:=rx
    cases y with
    | byt j=>obtain⟨t',rfl⟩:=ry;exact PySem.W.eq_bytes (y6 I q UW)
    | _=>exact absurd (show false=true from hs) Bool.false_ne_true
  | _=>cases y <;> exact absurd (show false=true from hs) Bool.false_ne_true
theorem YG:OpR X (compareOp .NotEq) rNe:=by
  intro pins s σ H x y v u Q I rx ry h
  obtain⟨hs,q⟩:=h
  cases x with
  | non=>
    cases rx
    cases y with
    | non=>cases ry;exact PySem.EqNone.ne_none_none (y6 I q (by simp))
    | bl j=>cases ry;exact PySem.EqNone.ne_none_bool (y6 I q (by simp))
    | int j=>obtain⟨t',rfl⟩:=ry;exact PySem.EqNone.ne_none_int (y6 I q (by simp))
    | str j=>obtain⟨t',rfl⟩:=ry;exact PySem.EqNone.ne_none_str (y6 I q (by simp))
    | _=>exact absurd (show false=true from hs) Bool.false_ne_true
  | bl i=>
    cases rx
    cases y with
    | non=>cases ry;exact PySem.EqNone.ne_bool_none (y6 I q (by simp))
    | bl j=>cases ry;exact ne_bool (y6 I q (congrArg not Oi))
    | str j=>obtain⟨t',rfl⟩:=ry;exact PySem.EqMixed.ne_bool_str (y6 I q (by simp))
    | _=>exact absurd (show false=true from hs) Bool.false_ne_true
  | int i=>
    obtain⟨t,rfl⟩:=rx
    cases y with
    | non=>cases ry;exact PySem.EqNone.ne_int_none (y6 I q (by simp))
    | int j=>obtain⟨t',rfl⟩:=ry;exact ne_int (y6 I q (congrArg not Nj))
    | str j=>obtain⟨t',rfl⟩:=ry;exact PySem.EqMixed.ne_int_str (y6 I q (by simp))
    | _=>exact absurd (show false=true from hs) Bool.false_ne_true
  | str i=>
    obtain⟨t,rfl⟩:=rx
    cases y with
    | non=>cases ry;exact PySem.EqNone.ne_str_none (y6 I q (by simp))
    | bl j=>cases ry;exact PySem.EqMixed.ne_str_bool (y6 I q (by simp))
    | int j=>obtain⟨t',rfl⟩:=ry;exact PySem.EqMixed.ne_str_int (y6 I q (by simp))
    | str j=>obtain⟨t',rfl⟩:=ry;exact ne_str (y6 I q (congrArg not Nb))
    | _=>exact absurd (show false=true from hs) Bool.false_ne_true
  | byt i=>
    obtain⟨t,rfl⟩:=rx
    cases y with
    | byt j=>obtain⟨t',rfl⟩:=ry;exact PySem.W.ne_bytes (y6 I q (congrArg not UW))
    | _=>exact absurd (show false=true from hs) Bool.false_ne_true
  | _=>cases y <;> exact absurd (show false=true from hs) Bool.false_ne_true
theorem qw:OpR X (compareOp .Lt) (rI0 fun i j=>.bl (decide (i<j))):=opB0 fun _ _ _ _ _ _ _ q=>lt_int q
theorem Vw:OpR X (compareOp .LtE) (rI0 fun i j=>.bl (decide (i<=j))):=opB0 fun _ _ _ _ _ _ _ q=>le_int q
theorem JY:OpR X (compareOp .Gt) (rI0 fun i j=>.bl (decide (j<i))):=opB0 fun _ _ _ _ _ _ _ q=>gt_int q
theorem zd5:OpR X (compareOp .GtE) (rI0 fun i j=>.bl (decide (j<=i))):=opB0 fun _ _ _ _ _ _ _ q=>ge_int q
theorem qa:OpR X (compareOp .Is) (fun x y H Q=>y=.non/\Q (.bl (decide (x=.non))) H):=by
  intro pins s σ H x y v u Q I rx ry h
  obtain⟨rfl,q⟩:=h
  cases ry
  refine is_none_gen (y6 I q ?_)
  cases x <;> first
    | (cases rx;rfl)
    | (obtain⟨t,rfl⟩:=rx;rfl)
theorem ZL:OpR X (compareOp .IsNot) (fun x y H Q=>y=.non/\Q (.bl (!decide (x=.non))) H):=by
  intro pins s σ H x y v u Q I rx ry h
  obtain⟨rfl,q⟩:=h
  cases ry
  refine isnot_none_gen (y6 I q ?_)
  cases x <;> first
    | (cases rx;rfl)
    | (obtain⟨t,rfl⟩:=rx;rfl)
theorem zG (b:Expr) {op:CmpOp} (h:op≠.In:=by decide) (h2:op≠.NotIn:=by decide):behindInMarks op b=false:=by
  have e1:(op == CmpOp.In)=false:=by cases op <;> first | rfl | exact absurd rfl h
  have e2:(op == CmpOp.NotIn)=false:=by cases op <;> first | rfl | exact absurd rfl h2
  cases b <;> simp [behindInMarks,e1,e2]
theorem JC {op:CmpOp} {r:R2} (ho:OpR X (compareOp op) r) (ha:PE X a ta) (hb:PE X b tb) (hm:behindInMarks op b=false):PE X (.Compare a [op] [b] pos) (tOp r ta tb):=by
  intro pins s σ H Q I h
  exact wpAny_Compare1 (binT ha hb I h fun v u s2 x y H2 I2 rx ry q=>ho pins s2 σ H2 x y v u Q I2 rx ry q) hm
def tTest (t:TE):TT:=fun σ H Q=>t σ H fun x H'=>∃k,x=.bl k/\Q k H'
theorem zx {op:CmpOp} {r:R2} (ho:OpR X (compareOp op) r) (ha:PE X a ta) (hb:PE X b tb) (hm:behindInMarks op b=false):PT X (.Compare a [op] [b] pos) (tTest (tOp r ta tb)):=by
  intro pins s σ H Q I h
  refine wpAny_isTrue_Compare1 (thn (ha pins s σ H _ I h) fun v s1 ⟨x,H1,I1,r1,q1⟩=>thn (hb pins s1 σ H1 _ I1 q1) fun u s2 ⟨y,H2,I2,r2,q2⟩=>
    thn (ho pins s2 σ H2 x y v u _ I2 r1 r2 q2) fun c s3 ⟨z,H3,I3,r3,k,e,q3⟩=>?_) hm
  subst e
  cases r3
  exact wpAny_truthy_bool ⟨H3,I3,q3⟩
def tChain (r r':R2) (ta tb tc:TE):TE:=fun σ H Q=>ta σ H fun x H1=>tb σ H1 fun y H2=>r x y H2 fun z H3=>∃k,z=.bl k /\
  (if k=true then tc σ H3 fun w' H4=>r' y w' H4 Q else Q (.bl false) H3)
theorem VT {op op':CmpOp} {r r':R2} (ho:OpR X (compareOp op) r) (ho':OpR X (compareOp op') r') (ha:PE X a ta) (hb:PE X b tb) (hc:PE X c tc)
    (hm:lastMarks [op,op'] [b,c]=false:=by with_unfolding_all rfl):PE X (.Compare a [op,op'] [b,c] pos) (tChain r r' ta tb tc):=by
  intro pins s σ H Q I h
  refine Compare_chain (thn (ha pins s σ H _ I h) fun v s1 ⟨x,H1,I1,r1,q1⟩=>chain_link (thn (hb pins s1 σ H1 _ I1 q1) fun u s2 ⟨y,H2,I2,r2,q2⟩=>
    thn (ho pins s2 σ H2 x y v u _ I2 r1 r2 q2) fun d s3 ⟨z,H3,I3,r3,k,e,q3⟩=>?_)) hm
  subst e
  cases r3
  refine wpAny_truthy_bool ?_
  cases k with
  | false=>exact ite_ff ⟨.bl false,H3,I3,rfl,q3⟩
  | true=>exact ite_tt (chain_last (thn (hc pins s3 σ H3 _ I3 q3) fun w' s4 ⟨z',H4,I4,r4,q4⟩=>ho' pins s4 σ H4 y z' u w' Q I4 r2 r4 q4))
def TruV (K:PySem.W.Frag) (x:V) (H:Hp) (k:Bool):Prop:=
  match x with
  | .non=>k=false
  | .bl b=>k=b
  | .int i=>k=(i != 0)
  | .str y=>y.length<=sizeLine/\k=((y.length:Int) != 0)
  | .byt y=>y.size<=sizeLine/\k=((y.size:Int) != 0)
  | .ref p=>(∃xs,SqL K H p xs/\k=!xs.isEmpty)\/(∃xs,SqT K H p xs/\k=!xs.isEmpty)\/∃kvs,H p=some (.dK kvs)/\k=!kvs.isEmpty
  | _=>False
theorem NU {κ:Type} {kvs:List (κ×V)} {vs:List (κ×Value)} (r:KV kvs vs):(!vs.isEmpty)=!kvs.isEmpty:=by
  cases r <;> rfl
theorem Zh {xs:List V} {its:List Value} (r:zH xs its):(!its.toArray.isEmpty)=!xs.isEmpty:=by
  cases r <;> simp
theorem line63:(sizeLine:Nat)<2 ^ 63:=by rw [sizeLine_eq];decide
theorem zc9:TruR X (fun x H Q=>∃k,TruV X.K x H k/\Q k H):=by
  intro pins s σ H x v Q I rx h
  obtain⟨k,e,q⟩:=h
  have hl:=line63
  have hs:sizeLine=16777216:=sizeLine_eq
  cases x with
  | non=>
    cases rx
    have e':k=false:=e
    subst e'
    exact truthy_none ⟨H,I,q⟩
  | bl b=>
    cases rx
    have e':k=b:=e
    subst e'
    exact wpAny_truthy_bool ⟨H,I,q⟩
  | int i=>
    obtain⟨t,rfl⟩:=rx
    have e':k=(i != 0):=e
    subst e'
    exact PySem.P.truthy_int ⟨H,I,q⟩
  | str y=>
    obtain⟨t,rfl⟩:=rx
    obtain⟨hy,e'⟩:y.length<=sizeLine/\k=((y.length:Int) != 0):=e
    subst e'
    exact PySem.P.truthy_str (by omega) ⟨H,I.tok _,q⟩
  | byt y=>
    obtain⟨t,rfl⟩:=rx
    obtain⟨hy,e'⟩:y.size<=sizeLine/\k=((y.size:Int) != 0):=e
    subst e'
    exact PySem.W.truthy_bytes (by omega) ⟨H,I.tok _,q⟩
  | ref p=>
    cases rx
    have e':(∃xs,SqL X.K H p xs/\k=!xs.isEmpty)\/(∃xs,SqT X.K H p xs/\k=!xs.isEmpty)\/∃kvs,H p=some (.dK kvs)/\k=!kvs.isEmpty:=e
    rcases e' with ⟨xs,hx,e'⟩ | ⟨xs,hx,e'⟩ | ⟨kvs,hx,e'⟩
    · subst e'
      obtain⟨its,r,pl,hz⟩:=I.list hx
      have hlen:=r.length
      exact wpAny_truthy_list pl.isList (by simp only [List.size_toArray];omega) ⟨H,I.tok _,by rw [Zh r];exact q⟩
    · subst e'
      obtain⟨its,r,pl,hz⟩:=I.tuple hx
      have hlen:=r.length
      exact truthy_tuple pl (by simp only [List.size_toArray];omega) ⟨H,I.tok _,by rw [Zh r];exact q⟩
    · subst e'
      obtain⟨hz,hS,vs,r,m⟩:kvs.length<=sizeLine/\(p == sysModules)=false/\∃vs,KV kvs vs/\s.heap.DictOf (yW X.prog X.w) p vs:=I.hok p _ hx
      have hlen:kvs.length=vs.length:=Paired.length r
      exact wpAny_truthy_dict hS m (by omega) ⟨H,I.tok _,by rw [NU r];exact q⟩
  | _=>exact(show False from e).elim
theorem zV (ha:PE X a ta) (he:∀whole,isTrue a X.env whole=(do let v <-whole;standAt a.pos;holding [v] (truthy v))) :
    PT X a (fun σ H Q=>ta σ H fun x H'=>∃k,TruV X.K x H' k/\Q k H'):=by
  intro pins s σ H Q I h
  exact isTrue_plain (thn (ha pins s σ H _ I h) fun v s1 ⟨x,H1,I1,r1,q1⟩=>zc9 pins s1 σ H1 x v Q I1 r1 q1) (he _)
theorem vals1 {x:V} {us:List Value} (r:zH [x] us):∃u,us=[u]/\zQ x u:=by
  cases r with
  | cons r1 r2=>cases r2;exact⟨_,rfl,r1⟩
theorem vals2 {x y:V} {us:List Value} (r:zH [x,y] us):∃u w',us=[u,w']/\zQ x u/\zQ y w':=by
  cases r with
  | cons r1 r2=>
    cases r2 with
    | cons r3 r4=>cases r4;exact⟨_,_,rfl,r1,r3⟩
theorem Vd (hc:X.calm=true):CallR X (.builtin "min") (fun xs H Q=>∃i j,xs=[.int i,.int j]/\Q (.int (if j<i then j else i)) H):=by
  intro pins s σ H xs us Q I r h
  obtain⟨i,j,rfl,q⟩:=h
  obtain⟨u,w',rfl,⟨t,rfl⟩,⟨t',rfl⟩⟩:=vals2 r
  refine min_two_ints (I.ok.hd hc) fun h' tk k=>⟨_,H,I.kept k,?_,q⟩
  by_cases hj:j<i
  · rw [if_pos hj,if_pos hj];exact⟨_,rfl⟩
  · rw [if_neg hj,if_neg hj];exact⟨_,rfl⟩
end
end L2
namespace L2
open PySem PySem.Spec PyProof.Rows
structure Z4 (h:Heap) (x dx C:Addr) (mA:Str->Option Value):Prop where
  obj:h.get? x=some (PySem.W.instObj C dx)
  ns:h.Ns1 dx mA
  ne:dx≠x
theorem OG {h:Heap} {dx:Addr} {mA:Str->Option Value} (n:h.Ns1 dx mA):∃od,h.get? dx=some od/\∀name,PySem.W.lookIn name od=some (mA name):=by
  obtain⟨o,es,ep,ho,hd,hk,_,hm⟩:=n
  refine⟨o,ho,fun name=>?_⟩
  have e:=hm name
  unfold nsFind findBy at e
  rw [<-Array.find?_toList] at e
  unfold PySem.W.lookIn
  rw [hd]
  dsimp only
  split
  · rename_i y q
    rw [q] at e
    exact congrArg some e
  · rename_i q
    rw [q] at e
    have a:es.toList.any (·.refKey)=false:=by
      rw [List.any_eq_false]
      intro y hy
      obtain⟨z,t,hkey⟩:=hk y (Array.mem_toList_iff.mp hy)
      simp [DictEntry.refKey,hkey]
    have a':¬es.toList.any (·.refKey)=true:=by rw [a];exact Bool.false_ne_true
    rw [if_neg a']
    exact congrArg some e
theorem Z4.look {h:Heap} {x dx C:Addr} {mA:Str->Option Value} (I:Z4 h x dx C mA):∃od,PySem.W.InstAt h x (PySem.W.instObj C dx) C (some od)/\∀name,PySem.W.lookIn name od=some (mA name):=
  let ⟨od,ho,hl⟩:=OG I.ns
  ⟨od,⟨I.obj,rfl,rfl,ho⟩,hl⟩
section
variable {prog:Program} {w:World} {A:Around} {E:Value->Shared->Prop} {s:Shared} {K:PySem.W.Frag} {x dx C f:Addr} {mA:Str->Option Value} {name:Str} {v:Value}
theorem zb3 {expr:Bool} {Q:Value->Shared->Prop} (X:K.In s.heap) (I:Z4 s.heap x dx C mA) (hg:PySem.W.plainGet K C name=true) (hh:PySem.W.hasDictIn K C=true)
    (ha:PySem.W.findIn K (.ref C) name=some none) (hv:mA name=some v) (hv':PySem.W.handedIn v=true) (h:Q v {s with toks:=s.toks+1}) :
    wpAny (model prog w) A (getAttr (.ref x) name expr) Q E s:=by
  obtain⟨od,J,hl⟩:=I.look
  exact PySem.W.get_value X J (PySem.W.plainGet_of hg).1 (PySem.W.findObj_own hh ha rfl (by rw [hl,hv])) hv' h
theorem IQ {pl:Sem Bool} {Q:Value×List Value->Shared->Prop} (X:K.In s.heap) (I:Z4 s.heap x dx C mA) (hg:PySem.W.plainGet K C name=true)
    (hf:PySem.W.findIn K (.ref C) name=some (some (.ref f))) (ht:PySem.W.isFn K (.ref f)=true) (hv:mA name=none) (h:Q (.ref f,[.ref x]) s) :
    wpAny (model prog w) A (getMethod (.ref x) name pl) Q E s:=by
  obtain⟨od,J,hl⟩:=I.look
  exact PySem.W.method_fn X J (PySem.W.plainGet_of hg).1 (PySem.W.plainGet_of hg).2 hf (beq_iff_eq.mp ht) (by show(PySem.W.lookIn name od).map (·.isSome)=some false;rw [hl,hv];rfl) h
theorem zbi {ns:List Str} {Q:Unit->Shared->Prop} (X:K.In s.heap) (I:Z4 s.heap x dx C mA)
    (hs:PySem.W.findIn K (.ref C) "__setattr__"=some (some (.builtin "object.__setattr__"))) (hp:PySem.W.plainOver K C=true) (ht:PySem.W.takerIn K C name=some none) (hh:PySem.W.hasDictIn K C=true)
    (hw:PySem.Within mA ns) (hsz:ns.length<=sizeLine)
    (h:∀h',Z4 h' x dx C (fun y=>if y=name then some v else mA y)->Heap.SameBut dx s.heap h'->Q () {s with heap:=h',toks:=s.toks+2}) :
    wpAny (model prog w) A (setAttr (.ref x) name v) Q E s:=by
  obtain⟨od,J,hl⟩:=I.look
  refine PySem.W.set_plain X J hs (PySem.W.osa_open (s:={s with toks:=s.toks+1}) (r:=none) X J hp ht fun b=>?_)
  obtain⟨cd,hc,hd'⟩:=PySem.W.any_some hh
  have hx:s.heap.get? x=some ⟨.ref C,some dx,.plain,#[]⟩:=I.obj
  refine wpAny_bind (wpAny_pure (wpAny_bind (wpAny_bind (wpAny_loadPart hx (wpAny_bind (PySem.W.Looks.here (s:={s with toks:=s.toks+1}) (PySem.W.looks_clsIn X hc) ?_))))))
  rw [hd']
  refine wpAny_pure (a:=some dx) (wpAny_bind (wpAny_pure (wpAny_bind ?_)))
  refine wpAny_nsSet1 (s:={s with toks:=s.toks+1}) I.ns fun h' hn2 hs2=>?_
  obtain⟨oD,esD,epD,hoD,hdD,hcD⟩:=hn2.count (PySem.Within.cons name v hw)
  refine wpAny_bind (wpAny_lookBehind hoD (by rw [hdD];exact pastItsLine_dict (Nat.le_trans hcD (by rw [List.length_cons];omega))) ?_)
  exact wpAny_pure (h _ ⟨(hs2.2 _ (Ne.symm I.ne)).trans I.obj,hn2,I.ne⟩ hs2)
theorem IG {R:Result->Shared->Prop} {vs:List Value} {kw:List (Str×Value)} (X:K.In s.heap) (hm:PySem.W.makesIn K C=true)
    (hi:PySem.W.findIn K (.ref C) "__init__"=some (some (.ref f))) (hf:PySem.W.typeIn K (.ref f)=some (.type "function"))
    (h:codeAny (model prog w) (A.under (.builtin "type.__call__" ⟨.ref C::vs,kw⟩)) (.call (.ref f) ⟨.ref (s.heap.objs.size+1)::vs,kw⟩) (PySem.W.InitBack (s.heap.objs.size+1) R)
      {s with heap:=(s.heap.push PySem.W.emptyDict).push (PySem.W.instObj C s.heap.objs.size)}) :
    codeAny (model prog w) A (.call (.ref C) ⟨vs,kw⟩) R s:=by
  obtain⟨hh,g,d,t,os⟩:=s
  exact PySem.W.make_core (PySem.W.makes_of X hm) (PySem.W.looks_findIn X hi) (fun self=>PySem.W.bind_fn X self hf) (.inl rfl) h
end
def y4 (f:Str) (v:V):List (Str×V)->List (Str×V)
  | []=>[(f,v)]
  | (g,x)::r=>if g=f then (g,v)::r else (g,x)::y4 f v r
theorem YT (f g:Str) (v:V):∀fs:List (Str×V),(y4 f v fs).lookup g=if g=f then some v else fs.lookup g
  | []=>by
    show List.lookup g [(f,v)]=_
    by_cases h:g=f
    · have hb:(g == f)=true:=beq_iff_eq.mpr h
      simp only [List.lookup,hb,if_pos h]
    · have hb:(g == f)=false:=beq_eq_false_iff_ne.mpr h
      simp only [List.lookup,hb,if_neg h]
  | (k,x)::r=>by
    have ih:=YT f g v r
    rw [show y4 f v ((k,x)::r)=(if k=f then (k,v)::r else (k,x)::y4 f v r) from rfl]
    by_cases hk:k=f
    · rw [if_pos hk]
      by_cases h:g=k
      · have hb:(g == k)=true:=beq_iff_eq.mpr h
        simp only [List.lookup,hb,if_pos (h.trans hk)]
      · have hb:(g == k)=false:=beq_eq_false_iff_ne.mpr h
        simp only [List.lookup,hb,if_neg (fun e:g=f=>h (e.trans hk.symm))]
    · rw [if_neg hk]
      by_cases h:g=k
      · have hb:(g == k)=true:=beq_iff_eq.mpr h
        simp only [List.lookup,hb,if_neg (fun e:g=f=>hk (h.symm.trans e))]
      · have hb:(g == k)=false:=beq_eq_false_iff_ne.mpr h
        simp only [List.lookup,hb]
        exact ih
theorem Yb (f:Str) (v:V):∀fs:List (Str×V),f∈(y4 f v fs).map (·.1)/\∀g,g∈fs.map (·.1)->g∈(y4 f v fs).map (·.1)
  | []=>⟨by simp [y4],fun g h=>by simp at h⟩
  | (k,x)::r=>by
    obtain⟨i1,i2⟩:=Yb f v r
    rw [show y4 f v ((k,x)::r)=(if k=f then (k,v)::r else (k,x)::y4 f v r) from rfl]
    by_cases hk:k=f
    · rw [if_pos hk]
      subst hk
      exact⟨by simp,fun g h=>by simpa using h⟩
    · rw [if_neg hk]
      refine⟨?_,fun g h=>?_⟩
      · rw [List.map_cons]
        exact List.mem_cons_of_mem _ i1
      · rw [List.map_cons] at h ⊢
        rcases List.mem_cons.mp h with e | e
        · exact List.mem_cons.mpr (.inl e)
        · exact List.mem_cons_of_mem _ (i2 g e)
theorem YR (f:Str) (v:V):∀fs:List (Str×V),(y4 f v fs).length<=fs.length+1
  | []=>by simp [y4]
  | (k,x)::r=>by
    have ih:=YR f v r
    rw [show y4 f v ((k,x)::r)=(if k=f then (k,v)::r else (k,x)::y4 f v r) from rfl]
    by_cases hk:k=f
    · rw [if_pos hk,List.length_cons,List.length_cons];omega
    · rw [if_neg hk,List.length_cons,List.length_cons];omega
theorem jz.some_of {v:V} {o:Option Value} (r:jz (some v) o):∃u,o=some u/\zQ v u:=by
  cases o with
  | none=>exact(show False from r).elim
  | some u=>exact⟨u,rfl,r⟩
theorem jz.none_of {o:Option Value} (r:jz none o):o=none:=by
  cases o with
  | none=>rfl
  | some u=>exact(show False from r).elim
theorem Ob {v:V} {u:Value} (r:zQ v u):PySem.W.handedIn u=true:=by
  cases v with
  | non=>cases (show u=Value.none from r);rfl
  | bl b=>cases (show u=Value.bool b from r);rfl
  | int i=>obtain⟨t,e⟩:=(show ∃t,u=Value.int i t from r);cases e;rfl
  | str x=>obtain⟨t,e⟩:=(show ∃t,u=Value.str x t from r);cases e;rfl
  | byt b=>obtain⟨t,e⟩:=(show ∃t,u=Value.bytes b t from r);cases e;rfl
  | flt b=>obtain⟨t,e⟩:=(show ∃t,u=Value.float b t from r);cases e;rfl
  | ref a=>cases (show u=Value.ref a from r);rfl
  | ty n=>cases (show u=Value.type n from r);rfl
section
variable {P:Program} {w:World} {H H':Hp} {h h':Heap} {a C dx:Addr} {fs fs':List (Str×V)}
theorem ZK (hok:HOk P w H h) (e:H a=some (.ins C dx fs)):∃mA,Z4 h a dx C mA/\(∀f,jz (fs.lookup f) (mA f))/\PySem.Within mA (fs.map (·.1))/\fs.length<=1000/\H dx=some (.own a):=by
  obtain⟨d,z,ne,ob,mA,n,r,q⟩:=(show yF P w H h a (.ins C dx fs) from hok a _ e)
  exact⟨mA,⟨ob,n,ne⟩,r,q,z,d⟩
end
structure Cls (K:PySem.W.Frag) (C:Addr):Prop where
  pg:PySem.W.plainGet K C Str.empty=true
  hd:PySem.W.hasDictIn K C=true
  po:PySem.W.plainOver K C=true
  sa:PySem.W.findIn K (.ref C) "__setattr__"=some (some (.builtin "object.__setattr__"))
theorem Cls.get {K:PySem.W.Frag} {C:Addr} (c:Cls K C) (f:Str):PySem.W.plainGet K C f=true:=c.pg
def xV (K:PySem.W.Frag) (C:Addr) (f:Str):Prop:=PySem.W.findIn K (.ref C) f=some none
theorem xV.taker {K:PySem.W.Frag} {C:Addr} {f:Str} (n:xV K C f):PySem.W.takerIn K C f=some none:=by
  unfold PySem.W.takerIn
  rw [show PySem.W.findIn K (.ref C) f=some none from n]
  rfl
structure Meth (K:PySem.W.Frag) (C:Addr) (m:Str) (f:Addr):Prop where
  at_:PySem.W.findIn K (.ref C) m=some (some (.ref f))
  fn:PySem.W.isFn K (.ref f)=true
  kp:PySem.W.keepIn K (.ref f)=true
section
variable {X:Cx} {pins:List (Addr×Obj)} {σ:St} {H:Hp} {s:Shared} {a C dx:Addr} {fs:List (Str×V)} {f:Str} {v:V} {A:Around} {E:Value->Shared->Prop}
theorem Zu {b:Bool} {Q:Value->Shared->Prop} (I:Inv X pins σ H s) (e:H a=some (.ins C dx fs)) (c:Cls X.K C) (n:xV X.K C f) (l:fs.lookup f=some v)
    (h:∀u s',Inv X pins σ H s'->zQ v u->Q u s'):wpAny (model X.prog X.w) A (getAttr (.ref a) f b) Q E s:=by
  obtain⟨mA,O,r,_,_,_⟩:=ZK I.hok e
  obtain⟨u,hu,ru⟩:=jz.some_of (v:=v) (o:=mA f) (by rw [<-l];exact r f)
  exact zb3 I.kIn O (c.get f) c.hd n hu (Ob ru) (h u _ (I.tok _) ru)
theorem Zk {m:Str} {g:Addr} {pl:Sem Bool} {Q:Value×List Value->Shared->Prop} (I:Inv X pins σ H s) (e:H a=some (.ins C dx fs)) (c:Cls X.K C) (k:Meth X.K C m g) (l:fs.lookup m=none)
    (h:Q (.ref g,[.ref a]) s):wpAny (model X.prog X.w) A (getMethod (.ref a) m pl) Q E s:=by
  obtain⟨mA,O,r,_,_,_⟩:=ZK I.hok e
  have hn:mA m=none:=jz.none_of (by rw [<-l];exact r m)
  exact IQ I.kIn O (c.get m) k.at_ k.fn hn h
theorem Zl {y:V} {u:Value} {Q:Unit->Shared->Prop} (I:Inv X pins σ H s) (e:H a=some (.ins C dx fs)) (c:Cls X.K C) (n:xV X.K C f) (hl:fs.length<1000) (ry:zQ y u)
    (h:∀s',Inv X pins σ (upd H a (.ins C dx (y4 f y fs))) s'->Q () s'):wpAny (model X.prog X.w) A (setAttr (.ref a) f u) Q E s:=by
  obtain⟨mA,O,r,wi,_,ho⟩:=ZK I.hok e
  have hz:(fs.map (·.1)).length<=sizeLine:=by rw [List.length_map,sizeLine_eq];omega
  refine zbi I.kIn O c.sa c.po n.taker c.hd wi hz fun h' O' sb=>h _ ?_
  have hd:∃o,h'.get? dx=some o:=let ⟨o,_,_,e',_⟩:=O'.ns;⟨o,e'⟩
  refine I.write (x:=a) (e:=dx) (by rw [e];exact True.intro) (.inr ho) (fun b q hb z=>(sb.2 b hb).trans z) hd ?_
  refine⟨by rw [z8 O.ne];exact ho,?_,O.ne,O'.obj,_,O'.ns,fun g=>?_,fun g hg=>?_⟩
  · have:=YR f y fs;omega
  · show jz ((y4 f y fs).lookup g) (if g=f then some u else mA g)
    rw [YT]
    by_cases q:g=f
    · rw [if_pos q,if_pos q];exact ry
    · rw [if_neg q,if_neg q];exact r g
  · by_cases q:g=f
    · rw [q];exact(Yb f y fs).1
    · refine(Yb f y fs).2 g (wi g fun z=>hg ?_)
      show(if g=f then some u else mA g)=none
      rw [if_neg q];exact z
theorem Inv.made (I:Inv X pins σ H s):Inv X pins σ (upd (upd H s.heap.objs.size (.own (s.heap.objs.size+1))) (s.heap.objs.size+1) (.ins C s.heap.objs.size []))
    {s with heap:=(s.heap.push PySem.W.emptyDict).push (PySem.W.instObj C s.heap.objs.size)}:=by
  have e1:(s.heap.push PySem.W.emptyDict).get? s.heap.objs.size=some PySem.W.emptyDict:=Heap.get?_push_size s.heap rfl
  have e2:((s.heap.push PySem.W.emptyDict).push (PySem.W.instObj C s.heap.objs.size)).get? (s.heap.objs.size+1)=some (PySem.W.instObj C s.heap.objs.size):=by
    have:=Heap.get?_push_size (s.heap.push PySem.W.emptyDict) (o:=PySem.W.instObj C s.heap.objs.size) rfl
    rwa [Heap.size_push] at this
  have e3:(s.heap.push PySem.W.emptyDict).Ns s.heap.objs.size (fun _=>none):=⟨PySem.W.emptyDict,#[],_,e1,rfl,(fun e he=>absurd he (by simp)),fun _=>rfl⟩
  have I1:=I.laid (a:=s.heap.objs.size) (o:=.own (s.heap.objs.size+1)) (h':=s.heap.push PySem.W.emptyDict) (t':=s.toks) (fun b u q=>Heap.get?_push_of_some _ q) (Nat.le_refl _) ⟨_,e1⟩
  refine I1.laid (a:=s.heap.objs.size+1) (o:=.ins C s.heap.objs.size []) (t':=s.toks) (fun b u q=>Heap.get?_push_of_some _ q) (Nat.le_of_eq (Heap.size_push _ _)) ?_
  have ne:s.heap.objs.size≠s.heap.objs.size+1:=Nat.ne_of_lt (Nat.lt_succ_self _)
  refine⟨by rw [z8 ne,z7],Nat.zero_le _,ne,e2,fun _=>none,(Heap.Ns1.of_empty e3).at fun o q=>Heap.get?_push_of_some _ q,fun _=>True.intro,fun y hy=>absurd rfl hy⟩
theorem zb6 {prog:Program} {w:World} {env:Env} {e:Expr} {f:Str} {pos:Pos} {s:Shared} {Q:Value->Shared->Prop} (hb:attributeBase e f env (eval e env)=eval e env)
    (h:wpAny (model prog w) A (eval e env) (fun o s₁=>wpAny (model prog w) A (getAttr o f true) Q E s₁) E s):wpAny (model prog w) A (eval (.Attribute e f pos) env) Q E s:=
  Attribute_any_ h (by rw [arm_eval_Attribute,hb])
end
def Z2 (K:PySem.W.Frag) (ta:TE) (f:Str):TE:=fun σ H Q=>ta σ H fun x H1=>∃a C dx fs v,x=.ref a/\H1 a=some (.ins C dx fs)/\Cls K C/\xV K C f/\fs.lookup f=some v/\Q v H1
def sFld (K:PySem.W.Frag) (ta tv:TE) (f:Str):TS:=fun D σ H=>tv σ H fun y H1=>ta σ H1 fun x H2=>∃a C dx fs,x=.ref a/\H2 a=some (.ins C dx fs)/\Cls K C/\xV K C f/\fs.length<1000 /\
  D.nx σ (upd H2 a (.ins C dx (y4 f y fs)))
def InOp (X:Cx) (op:Operator) (rd:V->V->Hp->VK->Prop):Prop:=
  ∀(pins:List (Addr×Obj)) (s:Shared) (σ:St) (H:Hp) (x y:V) (u v:Value) (Q:VK),Inv X pins σ H s->zQ x u->zQ y v->rd x y H Q->wpAny (model X.prog X.w) X.A (inplaceOp op u v) (EP X pins σ Q) X.xe s
def sFldAug (K:PySem.W.Frag) (ta tv:TE) (rd:V->V->Hp->VK->Prop) (f:Str):TS:=fun D σ H=>ta σ H fun x H1=>∃a C dx fs v,x=.ref a/\H1 a=some (.ins C dx fs)/\Cls K C/\xV K C f/\fs.lookup f=some v /\
  tv σ H1 fun y H2=>rd v y H2 fun z H3=>∃dx' fs',H3 a=some (.ins C dx' fs')/\fs'.length<1000/\D.nx σ (upd H3 a (.ins C dx' (y4 f z fs')))
section
variable {X:Cx} {o e value:Expr} {f:Str} {pos pos' tpos:Pos} {ta tv:TE}
theorem ze (he:PE X e ta) (hb:attributeBase e f X.env (eval e X.env)=eval e X.env):PE X (.Attribute e f pos) (Z2 X.K ta f):=by
  intro pins s σ H Q I h
  refine zb6 hb (thn (he pins s σ H _ I h) fun u s1 ⟨x,H1,I1,rx,a,C,dx,fs,v,ex,ea,c,n,l,q⟩=>?_)
  subst ex
  obtain rfl:u=Value.ref a:=rx
  exact Zu I1 ea c n l fun u' s2 I2 ru=>⟨v,H1,I2,ru,q⟩
theorem zZ (ha:PE X o ta) (hv:PE X value tv) (hs:swapsWith value (some (.Attribute o f pos')) pos.line X.env=pure false):PS X (.Assign [.Attribute o f pos'] value pos) (sFld X.K ta tv f):=by
  intro pins s σ H D I h
  refine plainObj_wpAny_Assign_Attribute (thn (hv pins s σ H _ I h) fun u s1 ⟨y,H1,I1,ry,q⟩=>thn (ha pins s1 σ H1 _ I1 q) fun ov s2 ⟨x,H2,I2,rx,a,C,dx,fs,ex,ea,c,n,l,q2⟩=>?_) hs
  subst ex
  obtain rfl:ov=Value.ref a:=rx
  exact Zl I2 ea c n l ry fun s3 I3=>⟨σ,_,I3,q2⟩
theorem yj {op:Operator} {rd:V->V->Hp->VK->Prop} (ha:PE X o ta) (hv:PE X value tv) (hop:InOp X op rd):PS X (.AugAssign (.Attribute o f tpos) op value pos) (sFldAug X.K ta tv rd f):=by
  intro pins s σ H D I h
  refine wpAny_AugAssign_AttributeAny (thn (ha pins s σ H _ I h) fun ov s1 ⟨x,H1,I1,rx,a,C,dx,fs,v,ex,ea,c,n,l,q⟩=>?_)
  subst ex
  obtain rfl:ov=Value.ref a:=rx
  refine Zu I1 ea c n l fun u s2 I2 ru=>thn (hv pins s2 σ H1 _ I2 q) fun w3 s3 ⟨y,H2,I3,ry,q3⟩=>thn (hop pins s3 σ H2 v y u w3 _ I3 ru ry q3) fun w4 s4 ⟨z,H3,I4,rz,dx',fs',ea',l',q4⟩=>?_
  exact Zl I4 ea' c n l' rz fun s5 I5=>⟨σ,_,I5,q4⟩
def rAdd:V->V->Hp->VK->Prop:=fun x y H Q=>∃i j,x=.int i/\y=.int j/\Q (.int (i+j)) H
theorem x5:InOp X .Add rAdd:=by
  rintro pins s σ H x y u v Q I rx ry ⟨i,j,rfl,rfl,q⟩
  obtain⟨t,rfl⟩:=(show ∃t,u=Value.int i t from rx)
  obtain⟨t',rfl⟩:=(show ∃t',v=Value.int j t' from ry)
  exact PyProof.Rows.iadd_int ⟨.int (i+j),H,I.tok _,⟨_,rfl⟩,q⟩
end
section
variable {X:Cx} {pins:List (Addr×Obj)} {σ:St} {H:Hp} {s:Shared} {A:Around} {E:Value->Shared->Prop} {Q:Value->Shared->Prop} {c:Value} {b:Bool}
end
end L2
namespace L2
open PySem PySem.Spec PyProof.Rows
structure zJ (k:Nat) (A:Around):Prop where
  hd:A.handled=none
  dp:A.depth+3*k+5<recursionLimit
  un:A.units+16*k+200<cLine
theorem zJ.mono {j k:Nat} {A:Around} (r:zJ k A) (h:j<=k):zJ j A:=⟨r.hd,by have:=r.dp;omega,by have:=r.un;omega⟩
theorem zJ.deeper {k:Nat} {A:Around} (r:zJ (k+1) A) (env:Env):zJ k (A.deeper env):=
  ⟨r.hd,by have:=r.dp;show A.depth+1+3*k+5<_;omega,by have:=r.un;show A.units+3+16*k+200<_;omega⟩
theorem Nr {A:Around} {C:Addr} {us:List Value} {kw:List (Str×Value)}:(A.under (.builtin "type.__call__" ⟨.ref C::us,kw⟩)).depth=A.depth+1:=by
  first | rfl | simp [Around.under,Code.weight,Code.isCreation,Code.isGuard,Code.isCaller,Code.frames,Code.isFrame,guardIds]
theorem NK {A:Around} {C:Addr} {us:List Value} {kw:List (Str×Value)}:(A.under (.builtin "type.__call__" ⟨.ref C::us,kw⟩)).units=A.units+1:=by
  first | rfl | simp [Around.under,Code.cUnits,Code.frames,Code.isFrame]
theorem zJ.make {k:Nat} {A:Around} (r:zJ (k+1) A) (C:Addr) (us:List Value) (kw:List (Str×Value)):zJ k (A.under (.builtin "type.__call__" ⟨.ref C::us,kw⟩)):=
  ⟨r.hd,by have:=r.dp;rw [Nr];omega,by have:=r.un;rw [NK];omega⟩
theorem zJ.depth {k:Nat} {A:Around} (r:zJ k A):A.depth<recursionLimit:=by have:=r.dp;omega
theorem zJ.units {k:Nat} {A:Around} (r:zJ k A):A.units+64<cLine:=by have:=r.un;omega
def JM:TA:=fun _ H Q=>Q [] H
def jy (ta:TE) (tr:TA):TA:=fun σ H Q=>ta σ H fun x H1=>tr σ H1 fun xs H2=>Q (x::xs) H2
section
variable {X:Cx} {e:Expr} {es:List Expr} {te:TE} {t:TA} {pos:Pos}
theorem zb:PA X [] JM:=fun _ _ _ _ H Q I h=>Calls.spliced_nil ⟨[],H,I,.nil,h⟩
theorem z6 (ha:PE X e te) (hr:PA X es t) (hs:starEach (e::es) X.env=(false,eval e X.env)::starEach es X.env:=by rfl):PA X (e::es) (jy te t):=by
  intro pos pins s σ H Q I h
  rw [hs]
  show wpAny _ _ (spliced ((false,eval e X.env)::backTo pos (starEach es X.env))) _ _ s
  refine Calls.spliced_cons (thn (ha pins s σ H _ I h) fun u s1 ⟨x,H1,I1,r1,q1⟩=>?_)
  exact thn (hr pos pins s1 σ H1 _ I1 q1) fun us s2 ⟨xs,H2,I2,r2,q2⟩=>⟨x::xs,H2,I2,.cons r1 r2,q2⟩
def tTup (t:TA):TE:=fun σ H Q=>t σ H fun xs H1=>xs.length<=sizeLine/\∀p,H1 p=none->Q (.ref p) (upd H1 p (.tup xs))
def tLst (t:TA):TE:=fun σ H Q=>t σ H fun xs H1=>xs.length<=sizeLine/\∀p,H1 p=none->Q (.ref p) (upd H1 p (.lst xs))
theorem jB {x1} (h:PA X es t):PE X (.Tuple es x1 pos) (tTup t):=by
  intro pins s σ H Q I hq
  refine wpAny_Tuple_spliced (thn (h pos pins s σ H _ I hq) fun us s1 ⟨xs,H1,I1,r,z,q⟩=>⟨by rw [<-r.length];exact z,?_⟩)
  have hf:H1 s1.heap.objs.size=none:=I1.hok.fresh (Nat.le_refl _)
  refine⟨.ref s1.heap.objs.size,upd H1 s1.heap.objs.size (.tup xs),I1.laid (t':=s1.toks) (fun b u e=>Heap.get?_push_of_some _ e) (Nat.le_refl _) ?_,rfl,q _ hf⟩
  exact⟨z,us,r,⟨_,Heap.get?_push_size _ rfl,rfl,_,rfl⟩⟩
theorem zM (h:PA X es t):PE X (.List es pos) (tLst t):=by
  intro pins s σ H Q I hq
  refine wpAny_List_spliced (thn (h pos pins s σ H _ I hq) fun us s1 ⟨xs,H1,I1,r,z,q⟩=>⟨by rw [<-r.length];exact z,?_⟩)
  have hf:H1 s1.heap.objs.size=none:=I1.hok.fresh (Nat.le_refl _)
  refine⟨.ref s1.heap.objs.size,upd H1 s1.heap.objs.size (.lst xs),I1.laid (t':=s1.toks) (fun b u e=>Heap.get?_push_of_some _ e) (Nat.le_refl _) ?_,rfl,q _ hf⟩
  exact⟨z,us,0,r,Heap.get?_push_size _ rfl⟩
end
abbrev Sp:=List V->Hp->VK->XK->Prop
abbrev CXT:=List Env->Hp->Shared->XK->Value->Shared->Prop
structure Zf (P:Program) (w:World) (K:PySem.W.Frag) (mg:Str->Option Value) (base:Heap) (A:Around) (outer:List Env) (s:Shared) (H:Hp):Prop where
  frames:A.frames=some outer
  mod:Mod K mg base
  bs:∀b o,base.get? b=some o->s.heap.get? b=some o/\H b=none
  bsz:base.objs.size<=s.heap.objs.size
  funs:s.heap.FunFrames base outer
  frf:∀b∈frs outer,H b=none
  hok:HOk P w H s.heap
  bare:AllBare s.gens
def CE (outer:List Env) (P:Program) (w:World) (H:Hp) (s:Shared) (Q:VK) (u:Value) (s':Shared):Prop:=
  ∃v H',s'.os=s.os/\AllBare s'.gens/\Un (frs outer) [] H H' s.heap s'.heap/\HOk P w H' s'.heap/\zQ v u/\Q v H'
def CR (CX:CXT) (outer:List Env) (P:Program) (w:World) (H:Hp) (s:Shared) (Q:VK) (E:XK) (r:Result) (s':Shared):Prop:=
  match r with
  | .ok (.ret u)=>CE outer P w H s Q u s'
  | .ok _=>False
  | .error e=>CX outer H s E e s'
structure zj (P:Program) (w:World) (K:PySem.W.Frag) (mg:Str->Option Value) (base:Heap) (CX:CXT) (k:Nat) (f:Addr) (fd:FuncData) (ps:List Str) (sp:Sp):Prop where
  len:∀vs H Q E,sp vs H Q E->vs.length=ps.length
  run:∀(A:Around) (outer:List Env) (s:Shared) (H:Hp) (args:Args) (us:List Value) (vs:List V) (Q:VK) (E:XK),zJ k A->Zf P w K mg base A outer s H->BindsTo s fd args (ps.zip us)->zH vs us->sp vs H Q E ->
    codeAny (model P w) A (.call (.ref f) args) (CR CX outer P w H s Q E) s
theorem zj.mono {P:Program} {w:World} {K:PySem.W.Frag} {mg:Str->Option Value} {base:Heap} {CX:CXT} {j k:Nat} {f:Addr} {fd:FuncData} {ps:List Str} {sp:Sp} (F:zj P w K mg base CX j f fd ps sp) (h:j<=k) :
    zj P w K mg base CX k f fd ps sp:=⟨F.len,fun A outer s H args us vs Q E hr=>F.run A outer s H args us vs Q E (hr.mono h)⟩
theorem Zf.make {P:Program} {w:World} {K:PySem.W.Frag} {mg:Str->Option Value} {base:Heap} {A:Around} {outer:List Env} {s:Shared} {H:Hp} (e:Zf P w K mg base A outer s H) (C:Addr) (us:List Value) (kw:List (Str×Value)) :
    Zf P w K mg base (A.under (.builtin "type.__call__" ⟨.ref C::us,kw⟩)) outer s H:=⟨by first | exact e.frames | (simpa [Around.under,Code.envs,Code.isFrame,pushEnvs] using e.frames),e.mod,e.bs,e.bsz,e.funs,e.frf,e.hok,e.bare⟩
section
variable {X:Cx} {pins:List (Addr×Obj)} {σ:St} {H:Hp} {s s':Shared}
theorem Inv.env0 (I:Inv X pins σ H s):Zf X.prog X.w X.K X.mg X.base X.A X.stack s H:=
  ⟨I.ok.frames,I.ok.mod,I.bs,Nat.le_trans I.ok.bsz I.sz,I.stack,I.stkFree,I.hok,I.bare⟩
theorem Inv.after {Q:VK} {u:Value} (I:Inv X pins σ H s) (h:CE X.stack X.prog X.w H s Q u s'):EP X pins σ Q u s':=by
  obtain⟨v,H',os,bare,un,hok,r,q⟩:=h
  obtain⟨hh,g,d,t,os'⟩:=s'
  obtain rfl:os'=s.os:=os
  exact⟨v,H',I.call (h':=hh) (g':=g) (d':=d) (t':=t) (ch:=[]) un hok bare (fun b z=>absurd z (by simp)),r,q⟩
end
def tCall (sp:Sp) (dvs:List V) (E:XK) (t:TA):TE:=fun σ H Q=>t σ H fun vs H1=>sp (vs++dvs) H1 Q E
def tMeth (C:Addr) (m:Str) (sp:Sp) (dvs:List V) (E:XK) (ta:TE) (t:TA):TE:=fun σ H Q=>ta σ H fun x H1=>∃a dx fs,x=.ref a/\H1 a=some (.ins C dx fs)/\fs.lookup m=none /\
  t σ H1 fun vs H2=>sp (x::(vs++dvs)) H2 Q E
def tMake (C:Addr) (sp:Sp) (dvs:List V) (E:XK) (t:TA):TE:=fun σ H Q=>t σ H fun vs H1=>∀x dx,H1 x=none->H1 dx=none->dx≠x ->
  sp (.ref x::(vs++dvs)) (upd (upd H1 dx (.own x)) x (.ins C dx [])) (fun v H2=>v=.non/\Q (.ref x) H2) E
def xS (K:PySem.W.Frag) (fd:FuncData) (ps:List Str) (ds:List Value):Prop:=
  ∀(s:Shared) (us:List Value),K.In s.heap->(us++ds).length=ps.length->BindsTo s fd ⟨us,[]⟩ (ps.zip (us++ds))
theorem xS.all {K:PySem.W.Frag} {fd:FuncData} {ps:List Str} (h:∀us:List Value,us.length=ps.length->bindArgs fd ⟨us,[]⟩=pure (ps.zip us)):xS K fd ps []:=fun s us _ hl=>by
  rw [List.append_nil] at hl ⊢
  exact .of_eq (h us hl)
def jp (CX:CXT) (X:Cx) (E:XK):Prop:=∀(pins:List (Addr×Obj)) (σ:St) (H:Hp) (s:Shared) (e:Value) (s':Shared),Inv X pins σ H s->CX X.stack H s E e s'->X.xe e s'
section
variable {X:Cx} {CX:CXT} {k:Nat} {f C:Addr} {fd:FuncData} {ps:List Str} {sp:Sp} {dvs:List V} {ds:List Value} {E:XK} {x m:Str} {p pos apos:Pos} {e o:Expr} {es:List Expr} {ta:TE} {t:TA}
theorem Zn {pins:List (Addr×Obj)} {σ:St} {H:Hp} {s:Shared} {Q:VK} {us:List Value} {vs:List V} (F:zj X.prog X.w X.K X.mg X.base CX k f fd ps sp) (hr:zJ k X.A) (hb:xS X.K fd ps ds) (hd:zH dvs ds) (hx:jp CX X E)
    (I:Inv X pins σ H s) (r:zH vs us) (h:sp (vs++dvs) H Q E):wpAny (model X.prog X.w) X.A (call (.ref f) us) (EP X pins σ Q) X.xe s:=by
  have r2:zH (vs++dvs) (us++ds):=r.append hd
  have hl:(us++ds).length=ps.length:=by rw [<-r2.length];exact F.len _ _ _ _ h
  refine wpAny_call (codeAny_mono (F.run X.A X.stack s H ⟨us,[]⟩ (us++ds) (vs++dvs) Q E hr I.env0 (hb s us I.kIn hl) r2 h) fun r s' hq=>?_)
  cases r with
  | error e=>exact hx pins σ H s e s' I hq
  | ok fl=>
    cases fl with
    | ret u=>exact I.after hq
    | next=>exact False.elim hq
    | brk=>exact False.elim hq
    | cont=>exact False.elim hq
theorem zC (F:zj X.prog X.w X.K X.mg X.base CX k f fd ps sp) (hr:zJ k X.A) (hg:Gl X x) (hm:X.mg x=some (.ref f)) (hk:PySem.W.keepIn X.K (.ref f)=true) (hb:xS X.K fd ps ds) (hd:zH dvs ds) (hx:jp CX X E)
    (ha:PA X (e::es) t) (hdb:(x == ("__debug__":Str))=false:=by decide) (he:starEach (e::es) X.env=(false,eval e X.env)::starEach es X.env:=by rfl) (hpl:(backTo pos (starEach es X.env)).any (·.1)=false:=by rfl) :
    PE X (.Call (.Name x p) (e::es) [] pos) (tCall sp dvs E t):=by
  intro pins s σ H Q I h
  refine wpAny_Call_Name_kw (qU I hg hm ?_ hdb)
  refine PySem.W.callWith_K (h₀:=X.base) I.ok.mod.kin hk (thn (ha pos pins s σ H _ I h) fun us s1 ⟨vs,H1,I1,r,q⟩=>⟨I1.kIn,?_⟩) he hpl
  exact Zn F hr hb hd hx I1 r q
theorem zT {pl:Sem Bool} (he:PE X o ta) (c:Cls X.K C) (hm:Meth X.K C m f) (F:zj X.prog X.w X.K X.mg X.base CX k f fd ps sp) (hr:zJ k X.A) (hb:xS X.K fd ps ds) (hd:zH dvs ds) (hx:jp CX X E) (ha:PA X (e::es) t)
    (hst:starEach (e::es) X.env=(false,eval e X.env)::starEach es X.env:=by rfl) (hpl:(backTo pos (starEach es X.env)).any (·.1)=false:=by rfl)
    (ht:eval (.Call (.Attribute o m apos) (e::es) [] pos) X.env=(do
      let ov <-eval o X.env
      standAt apos.atName
      let (f,first) <-holding [ov] (getMethod ov m pl)
      callWith pos f first (backTo pos (starEach (e::es) X.env)) (backToKw pos (keywordEach [] X.env))):=by rfl) :
    PE X (.Call (.Attribute o m apos) (e::es) [] pos) (tMeth C m sp dvs E ta t):=by
  intro pins s σ H Q I h
  refine PySem.W.methodCall_KW (pl:=pl) (thn (he pins s σ H _ I h) fun u s1 ⟨x,H1,I1,rx,a,dx,fs,ex,ea,l,q⟩=>?_) ht
  subst ex
  obtain rfl:u=Value.ref a:=rx
  refine Zk I1 ea c hm l ?_
  refine PySem.W.callWith_K (first:=[.ref a]) (h₀:=X.base) I.ok.mod.kin hm.kp (thn (ha pos pins s1 σ H1 _ I1 q) fun us s2 ⟨vs,H2,I2,r,q2⟩=>⟨I2.kIn,?_⟩) hst hpl
  exact Zn (us:=.ref a::us) (vs:=.ref a::vs) F hr hb hd hx I2 (.cons rfl r) q2
theorem zS {pl:Sem Bool} (he:PE X o ta) (c:Cls X.K C) (hm:Meth X.K C m f) (F:zj X.prog X.w X.K X.mg X.base CX k f fd ps sp) (hr:zJ k X.A) (hb:xS X.K fd ps ds) (hd:zH dvs ds) (hx:jp CX X E)
    (ht:eval (.Call (.Attribute o m apos) [] [] pos) X.env=(do
      let ov <-eval o X.env
      standAt apos.atName
      let (f,first) <-holding [ov] (getMethod ov m pl)
      callWith pos f first (backTo pos (starEach [] X.env)) (backToKw pos (keywordEach [] X.env))):=by rfl) :
    PE X (.Call (.Attribute o m apos) [] [] pos) (tMeth C m sp dvs E ta JM):=by
  intro pins s σ H Q I h
  refine PySem.W.methodCall_KW (pl:=pl) (thn (he pins s σ H _ I h) fun u s1 ⟨x,H1,I1,rx,a,dx,fs,ex,ea,l,q⟩=>?_) ht
  subst ex
  obtain rfl:u=Value.ref a:=rx
  refine Zk I1 ea c hm l ?_
  exact PySem.W.callWith_K0 (first:=[.ref a]) I1.kIn hm.kp (Zn (us:=[.ref a]) (vs:=[.ref a]) F hr hb hd hx I1 (.cons rfl .nil) q)
structure Mk (K:PySem.W.Frag) (C f:Addr):Prop where
  makes:PySem.W.makesIn K C=true
  init:PySem.W.findIn K (.ref C) "__init__"=some (some (.ref f))
  fn:PySem.W.isFn K (.ref f)=true
  kp:PySem.W.keepIn K (.ref C)=true
theorem VC {pins:List (Addr×Obj)} {σ:St} {H:Hp} {s:Shared} {Q:VK} {us:List Value} {vs:List V} (M:Mk X.K C f) (F:zj X.prog X.w X.K X.mg X.base CX k f fd ps sp) (hr:zJ (k+1) X.A) (hb:xS X.K fd ps ds) (hd:zH dvs ds)
    (hx:jp CX X E) (I:Inv X pins σ H s) (r:zH vs us)
    (h:∀x dx,H x=none->H dx=none->dx≠x->sp (.ref x::(vs++dvs)) (upd (upd H dx (.own x)) x (.ins C dx [])) (fun v H2=>v=.non/\Q (.ref x) H2) E) :
    wpAny (model X.prog X.w) X.A (call (.ref C) us) (EP X pins σ Q) X.xe s:=by
  have hq:=h (s.heap.objs.size+1) s.heap.objs.size (I.hok.fresh (Nat.le_succ _)) (I.hok.fresh (Nat.le_refl _)) (Nat.ne_of_lt (Nat.lt_succ_self _))
  have I2:=Inv.made (C:=C) I
  have r2:zH (V.ref (s.heap.objs.size+1)::(vs++dvs)) (Value.ref (s.heap.objs.size+1)::(us++ds)):=.cons rfl (r.append hd)
  have hl:(Value.ref (s.heap.objs.size+1)::us++ds).length=ps.length:=by
    have e:=r2.length
    rw [F.len _ _ _ _ hq] at e
    exact e.symm
  refine wpAny_call (IG (f:=f) I.kIn M.makes M.init (beq_iff_eq.mp M.fn) (codeAny_mono (F.run _ X.stack _ _ ⟨Value.ref (s.heap.objs.size+1)::us,[]⟩ (Value.ref (s.heap.objs.size+1)::(us++ds)) _ _ E (hr.make C us [])
    (I2.env0.make C us []) (hb _ (Value.ref (s.heap.objs.size+1)::us) I2.kIn hl) r2 hq) fun r s' hq'=>?_))
  cases r with
  | error e=>exact hx pins σ _ _ e s' I2 hq'
  | ok fl=>
    cases fl with
    | ret u=>
      obtain⟨v,H',I3,rv,ev,q3⟩:=I2.after hq'
      subst ev
      exact⟨rv,⟨V.ref (s.heap.objs.size+1),H',I3,rfl,q3⟩⟩
    | next=>exact False.elim hq'
    | brk=>exact False.elim hq'
    | cont=>exact False.elim hq'
theorem xr (M:Mk X.K C f) (F:zj X.prog X.w X.K X.mg X.base CX k f fd ps sp) (hr:zJ (k+1) X.A) (hg:Gl X x) (hm:X.mg x=some (.ref C)) (hb:xS X.K fd ps ds) (hd:zH dvs ds) (hx:jp CX X E)
    (ha:PA X (e::es) t) (hdb:(x == ("__debug__":Str))=false:=by decide) (he:starEach (e::es) X.env=(false,eval e X.env)::starEach es X.env:=by rfl) (hpl:(backTo pos (starEach es X.env)).any (·.1)=false:=by rfl) :
    PE X (.Call (.Name x p) (e::es) [] pos) (tMake C sp dvs E t):=by
  intro pins s σ H Q I h
  refine wpAny_Call_Name_kw (qU I hg hm ?_ hdb)
  refine PySem.W.callWith_K (h₀:=X.base) I.ok.mod.kin M.kp (thn (ha pos pins s σ H _ I h) fun us s1 ⟨vs,H1,I1,r,q⟩=>⟨I1.kIn,?_⟩) he hpl
  exact VC M F hr hb hd hx I1 r q
theorem U4 (M:Mk X.K C f) (F:zj X.prog X.w X.K X.mg X.base CX k f fd ps sp) (hr:zJ (k+1) X.A) (hg:Gl X x) (hm:X.mg x=some (.ref C)) (hb:xS X.K fd ps ds) (hd:zH dvs ds) (hx:jp CX X E)
    (hdb:(x == ("__debug__":Str))=false:=by decide):PE X (.Call (.Name x p) [] [] pos) (tMake C sp dvs E JM):=by
  intro pins s σ H Q I h
  refine wpAny_Call_Name_kw (qU I hg hm ?_ hdb)
  exact PySem.W.callWith_K0 I.kIn M.kp (VC (us:=[]) M F hr hb hd hx I .nil h)
end
section
variable {X:Cx} {CX:CXT} {k:Nat} {f C:Addr} {fd:FuncData} {ps ks:List Str} {sp:Sp} {E:XK} {x m:Str} {p pos apos kpos:Pos} {e o:Expr} {es:List Expr} {kws:List Keyword} {te ta:TE} {t tk:TA} {nm:Option Str}
variable {g:List Value->List Value->List Value} {gV:List V->List V->List V}
end
structure zh (N P:List Str) (sc:Scope):Prop where
  kind:sc.kind=.function
  co:sc.isCoroutine=false
  gen:sc.isGenerator=false
  nd:N.Nodup
  pre:N.take P.length=P
  par:∀x∈P,sc.names.lookup x=some .local\/sc.names.lookup x=some .cell
  nofree:∀y∈sc.names,y.2≠.free
theorem Ve {kindOf:Str->Option NameKind} {x:Str}:∀{binds:List (Str×Value)} {m:Str->Option Value},(∀v,(x,v)∉binds)->bindL kindOf binds m x=m x
  | [],_,_=>rfl
  | (n,v)::r,m,h=>by
    unfold bindL
    rw [Ve fun w hw=>h w (List.mem_cons_of_mem _ hw)]
    split
    · have:x≠n:=by rintro rfl;exact h v List.mem_cons_self
      simp [this]
    · rfl
theorem Vc {kindOf:Str->Option NameKind} {x:Str}:∀{binds:List (Str×Value)} {m:Str->Option Value},(∀v,(x,v)∉binds)->bindC kindOf binds m x=m x
  | [],_,_=>rfl
  | (n,v)::r,m,h=>by
    unfold bindC
    rw [Vc fun w hw=>h w (List.mem_cons_of_mem _ hw)]
    split
    · rfl
    · have:x≠n:=by rintro rfl;exact h v List.mem_cons_self
      simp [this]
theorem Vm {kindOf:Str->Option NameKind} {x:Str} {v:Value}:∀{P:List Str} {vs:List Value} {i:Nat} {m:Str->Option Value},P.Nodup->P[i]? = some x->vs[i]? = some v->kindOf x=some .local ->
    bindL kindOf (P.zip vs) m x=some v
  | [],_,_,_,_,h,_,_=>by simp at h
  | _::_,[],_,_,_,_,h,_=>by simp at h
  | p::P,w::vs,0,m,nd,h1,h2,hk=>by
    simp at h1 h2;subst h1;subst h2
    show bindL kindOf ((p,w)::P.zip vs) m p=_
    unfold bindL
    rw [Ve fun v hv=>(List.nodup_cons.mp nd).1 (List.of_mem_zip hv).1,if_pos hk]
    simp
  | p::P,w::vs,i+1,m,nd,h1,h2,hk=>by
    show bindL kindOf ((p,w)::P.zip vs) m x=_
    unfold bindL
    exact Vm (i:=i) (List.nodup_cons.mp nd).2 (by simpa using h1) (by simpa using h2) hk
theorem ZY {kindOf:Str->Option NameKind} {x:Str} {v:Value}:∀{P:List Str} {vs:List Value} {i:Nat} {m:Str->Option Value},P.Nodup->P[i]? = some x->vs[i]? = some v->kindOf x≠some .local ->
    bindC kindOf (P.zip vs) m x=some v
  | [],_,_,_,_,h,_,_=>by simp at h
  | _::_,[],_,_,_,_,h,_=>by simp at h
  | p::P,w::vs,0,m,nd,h1,h2,hk=>by
    simp at h1 h2;subst h1;subst h2
    show bindC kindOf ((p,w)::P.zip vs) m p=_
    unfold bindC
    rw [Vc fun v hv=>(List.nodup_cons.mp nd).1 (List.of_mem_zip hv).1,if_neg hk]
    simp
  | p::P,w::vs,i+1,m,nd,h1,h2,hk=>by
    show bindC kindOf ((p,w)::P.zip vs) m x=_
    unfold bindC
    exact ZY (i:=i) (List.nodup_cons.mp nd).2 (by simpa using h1) (by simpa using h2) hk
def start (N:List Str) (vs:List V):St:=vs.map some++List.replicate (N.length - vs.length) none
def yP (CX:CXT) (P:Program) (w:World) (K:PySem.W.Frag) (mg:Str->Option Value) (base:Heap) (N:List Str) (qual:Str) (scope:Scope) (f:Addr) (cd:Value) (A:Around) (outer:List Env) (s:Shared) (H:Hp) (E:XK):Cx where
  prog:=P
  w:=w
  K:=K
  mg:=mg
  base:=base
  A:=A.deeper (envOfC qual scope s.heap.objs.size f cd)
  N:=N
  s_0:=s
  H_0:=H
  env:=envOfC qual scope s.heap.objs.size f cd
  outer:=outer
  stack:=envOfC qual scope s.heap.objs.size f cd::outer
  ex:=[]
  calm:=true
  fn:=fun _=>true
  pn:=[]
  xe:=fun e s'=>wpAny (model P w) (A.deeper (envOfC qual scope s.heap.objs.size f cd)) (leaving (envOfC qual scope s.heap.objs.size f cd) e) (fun _ s''=>CX outer H s E e s'') (fun e' s''=>CX outer H s E e' s'') s'
theorem VD {sc:Scope} {n:Nat} {x:Str} (h:sc.names.lookup x=some .cell):∃c,(cellsFrom n sc.names []).lookup x=some c:=by
  have q:=PySem.W.cellsFrom_some sc.names n [] (.inl h)
  exact Option.isSome_iff_exists.mp q
theorem Ou {CX:CXT} {P:Program} {w:World} {K:PySem.W.Frag} {mg:Str->Option Value} {base:Heap} {N ps:List Str} {qual:Str} {scope:Scope} {f:Addr} {cd:Value} {A:Around} {outer:List Env} {s s1:Shared} {H:Hp} {E:XK} {us:List Value} {vs:List V}
    (S:zh N ps scope) (hd:A.handled=none) (e0:Zf P w K mg base A outer s H) (hl:vs.length=ps.length) (r:zH vs us)
    (x:InCallC s s.heap.objs.size (bindL (envOfC qual scope s.heap.objs.size f cd).kindOf (ps.zip us) fun _=>none) (cellsFrom (s.heap.objs.size+1) scope.names []) (bindC (envOfC qual scope s.heap.objs.size f cd).kindOf (ps.zip us) fun _=>none) s1) :
    Inv (yP CX P w K mg base N qual scope f cd A outer s H E) [] (start N vs) H s1:=by
  have hpl:ps.length<=N.length:=by have:=congrArg List.length S.pre;rw [List.length_take] at this;omega
  obtain⟨h1,tk,rfl,hk⟩:=x.done
  have noA:∀b:Addr,b∉(yP CX P w K mg base N qual scope f cd A outer s H E).ex:=fun b z=>absurd (show b∈([]:List Addr) from z) (by simp)
  refine⟨⟨e0.mod,S.kind,rfl,rfl,Nat.le_refl _,fun y z c h1 h2=>?_,fun y hy=>?_,fun y c _ h=>?_,fun _=>hd,Around.frames_deeper e0.frames,.inr ⟨rfl,rfl⟩,fun b z=>absurd z (noA b),e0.bs,e0.bsz,fun b _ _=>noA b,fun b z=>absurd z (noA b),e0.funs,e0.frf⟩,
    rfl,e0.bare,Un.kept hk,⟨_,x.toInCall.ns,fun i y v h1 h2 h3=>?_⟩,fun y c h=>⟨_,x.cell y c h⟩,e0.hok.fresh (Nat.le_refl _),fun y c h=>?_,fun p hp=>absurd (show p∈([]:List (Addr×Obj)) from hp) (by simp),e0.hok.kept hk,?_⟩
  · exact name_of_addr x.apart (PySem.mem_of_lookup h1) (PySem.mem_of_lookup h2)
  · have hy:scope.names.lookup y=some .cell\/scope.names.lookup y=some .free:=hy
    rcases hy with hy | hy
    · exact VD hy
    · exact absurd rfl (S.nofree _ (PySem.mem_of_lookup hy))
  · exact Nat.le_of_lt (x.above y c (PySem.mem_of_lookup h))
  · have hi:i<vs.length:=by
      unfold start at h2
      by_cases hi:i<vs.length
      · exact hi
      · rw [List.getElem?_append_right (by simpa using hi)] at h2
        rw [List.getElem?_replicate] at h2
        split at h2 <;> cases h2
    have ha:vs[i]? = some v:=by
      unfold start at h2
      rw [List.getElem?_append_left (by simpa using hi),List.getElem?_map] at h2
      cases e:vs[i]? with
      | none=>rw [e] at h2;cases h2
      | some a=>rw [e] at h2;cases h2;rfl
    obtain⟨u,hu,rv⟩:=r.get ha
    have hp:ps[i]? = some y:=by
      rw [<-S.pre,List.getElem?_take_of_lt (by omega)];exact h1
    have ndP:ps.Nodup:=by rw [<-S.pre];exact S.nd.sublist (List.take_sublist _ _)
    refine⟨u,rv,?_⟩
    rcases S.par y (List.mem_of_getElem? hp) with k | k
    · exact .inl ⟨k,Vm ndP hp hu k⟩
    · obtain⟨c,e⟩:=VD (n:=s.heap.objs.size+1) k
      refine .inr ⟨.inl k,c,e,?_⟩
      have q:=x.cell y c e
      rw [ZY ndP hp hu (by show scope.names.lookup y≠_;rw [k];decide)] at q
      exact q
  · exact e0.hok.fresh (Nat.le_of_lt (x.above y c (PySem.mem_of_lookup h)))
  · unfold start
    show _=N.length
    rw [List.length_append,List.length_map,List.length_replicate]
    omega
theorem zaq {CX:CXT} {P:Program} {w:World} {K:PySem.W.Frag} {mg:Str->Option Value} {base:Heap} {k:Nat} {f:Addr} {name qual:Str} {params:Arguments} {body:List Stmt} {scope:Scope} {dV kV doc pm cdv ct oc:Value} {an od:Option Addr}
    {osl:Array (Option Value)} {N ps:List Str} {sp:Sp} (lk:K.lookup f=some ⟨oc,od,.func (PySem.W.fnOf name qual params body scope dV kV doc pm an cdv ct),osl⟩) (hcd:PySem.W.codeIn K cdv qual=true) (S:zh N ps scope)
    (len:∀vs H Q E,sp vs H Q E->vs.length=ps.length)
    (hbody:∀(A:Around) (outer:List Env) (s:Shared) (H:Hp) (vs:List V) (Q:VK) (E:XK),zJ k (A.deeper (envOfC qual scope s.heap.objs.size f cdv))->sp vs H Q E ->
      ∃t,PSs (yP CX P w K mg base N qual scope f cdv A outer s H E) body t/\t {nx:=fun _ H'=>Q .non H',rt:=Q} (start N vs) H) :
    zj P w K mg base CX (k+1) f (PySem.W.fnOf name qual params body scope dV kV doc pm an cdv ct) ps sp:=by
  refine⟨len,fun A outer s H args us vs Q E hr e0 hb r hsp=>?_⟩
  have hl:=len _ _ _ _ hsp
  have KX:K.In s.heap:=e0.mod.kin.keeps fun b o e=>(e0.bs b o e).1
  have lim:s.heap.NoLimit:=e0.mod.nolimit.keeps fun b o e=>(e0.bs b o e).1
  have hkind:∀y∈ps.zip us,scope.names.lookup y.1=some .local\/(scope.names.lookup y.1=some .cell/\((cellsFrom (s.heap.objs.size+1) scope.names []).lookup y.1).isSome=true):=fun⟨n,v⟩ hy=>by
    rcases S.par n (List.of_mem_zip hy).1 with q | q
    · exact .inl q
    · exact .inr ⟨q,PySem.W.cellsFrom_some _ _ _ (.inl q)⟩
  refine codeAny_call_function hr.depth (KX _ _ lk) rfl S.co S.gen rfl (PySem.W.codeRec_of KX hcd) (hb _ _ _ _ ?_)
  refine wpAny_newFunctionEnv_cells S.kind hkind fun env he s1 x=>?_
  subst he
  refine⟨lim.keeps x.toInCall.keep,codeAny_func ?_⟩
  obtain⟨t,ht,hq⟩:=hbody A outer s H vs Q E (hr.deeper _) hsp
  have I:Inv (yP CX P w K mg base N qual scope f cdv A outer s H E) [] (start N vs) H s1:=Ou S hr.hd e0 hl r x
  refine wpAny_mono (ht [] s1 (start N vs) H _ I hq) (fun fl s' hs=>?_) fun e s' hs=>hs
  have fin:∀{σ':St} {H':Hp} {v:V} {u:Value},Inv (yP CX P w K mg base N qual scope f cdv A outer s H E) [] σ' H' s'->zQ v u->Q v H'->CE outer P w H s Q u s':=
    fun {σ' H' v u} J rv q=>⟨v,H',J.os,J.bare,J.base,J.hok,rv,q⟩
  cases fl with
  | ret u=>
    obtain⟨v,σ',H',J,rv,q⟩:=hs
    exact fin J rv q
  | next=>
    obtain⟨σ',H',J,q⟩:=hs
    exact fin (v:=V.non) (u:=Value.none) J rfl q
  | brk=>
    obtain⟨_,_,_,q⟩:=hs
    exact False.elim q
  | cont=>
    obtain⟨_,_,_,q⟩:=hs
    exact False.elim q
end L2
namespace L2
open PySem PySem.Spec PyProof.Rows
section
variable {X:Cx} {x:Str} {p pos:Pos} {e:Expr} {es:List Expr} {t:TA} {id T:String} {r:List V->Hp->VK->Prop}
def tCB (r:List V->Hp->VK->Prop) (t:TA):TE:=fun σ H Q=>t σ H fun vs H1=>r vs H1 Q
theorem zU (hc:CallR X (.builtin id) r) (hg:Gl X x) (hm:X.mg x=none) (hv:bootBuiltins x=some (.builtin id)) (ha:PA X (e::es) t) (hn:x≠"__name__":=by decide) (hdb:(x == ("__debug__":Str))=false:=by decide)
    (he:starEach (e::es) X.env=(false,eval e X.env)::starEach es X.env:=by rfl) (hpl:(backTo pos (starEach es X.env)).any (·.1)=false:=by rfl):PE X (.Call (.Name x p) (e::es) [] pos) (tCB r t):=by
  intro pins s σ H Q I h
  refine wpAny_Call_Name_kw (U8 I hg hm hv ?_ hn hdb)
  exact PyProof.Rows.callWith_builtin1 (thn (ha pos pins s σ H _ I h) fun us s1 ⟨vs,H1,I1,r1,q1⟩=>hc pins s1 σ H1 vs us Q I1 r1 q1) he hpl
end
end L2
namespace HT
open PySem PyProof.Rows
section
open PySem.SeqAt
open PySem.AutoSeq1 (wpAny_loadPart')
open PySem.MeetsSeq PySem.MeetsSeq2 PySem.MeetsSeq3
end
section
variable {prog:Program} {w:World} {A:Around} {E:Value->Shared->Prop} {s:Shared}
def sIx (n d:Nat):Option Int->Nat
  | none=>d
  | some v=>if v<0 then (v+(n:Int)).toNat else min v.toNat n
theorem sIx_none (n d:Nat):sIx n d none=d:=rfl
theorem sIx_nat (n d k:Nat):sIx n d (some (k:Int))=min k n:=by
  show(if (k:Int)<0 then ((k:Int)+(n:Int)).toNat else min (k:Int).toNat n)=min k n
  rw [if_neg (by omega),Int.toNat_natCast]
end
end HT
namespace L2
open PySem PySem.Spec PyProof.Rows
abbrev TO:=St->Hp->(Option Int->Hp->Prop)->Prop
def PO (X:Cx) (e:Option Expr) (t:TO):Prop:=
  ∀(pins:List (Addr×Obj)) (s:Shared) (σ:St) (H:Hp) (Q:Option Int->Hp->Prop),Inv X pins σ H s->t σ H Q ->
    wpAny (model X.prog X.w) X.A (evalPart e X.env) (fun u s'=>∃o H',Inv X pins σ H' s'/\IsPart u o/\Q o H') X.xe s
def tNoPart:TO:=fun _ H Q=>Q none H
def tPart (t:TE):TO:=fun σ H Q=>t σ H fun x H1=>∃i,x=.int i/\Q (some i) H1
section
variable {X:Cx} {e:Expr} {te:TE} {lo hi:Option Expr} {tl th:TO} {pos p2:Pos}
theorem YL:PO X none tNoPart:=by
  intro pins s σ H Q I h
  rw [evalPart_none]
  exact wpAny_pure ⟨none,H,I,.none,h⟩
theorem jO (h:PE X e te):PO X (some e) (tPart te):=by
  intro pins s σ H Q I hw
  rw [evalPart_some]
  refine thn (h pins s σ H _ I hw) fun u s1 ⟨x,H1,I1,r1,q1⟩=>?_
  obtain⟨i,rfl,q⟩:=q1
  obtain⟨t,rfl⟩:=r1
  exact⟨some i,H1,I1,.int i t,q⟩
def SlR (X:Cx) (r:V->Option Int->Option Int->Hp->VK->Prop):Prop:=
  ∀(pins:List (Addr×Obj)) (s:Shared) (σ:St) (H:Hp) (x:V) (v vl vu:Value) (lo hi:Option Int) (sl:Addr) (Q:VK),Inv X pins σ H s->zQ x v->s.heap.IsSliceOf sl vl vu .none->IsPart vl lo->IsPart vu hi->r x lo hi H Q ->
    ∃T id,typeLookup (.type T) "__getitem__"=pure (some (.builtin id))/\s.TypeIs v T/\wpAny (model X.prog X.w) X.A (getItem v (.ref sl)) (EP X pins σ Q) X.xe s
def tSl (r:V->Option Int->Option Int->Hp->VK->Prop) (te:TE) (tl th:TO):TE:=fun σ H Q=>te σ H fun x H1=>tl σ H1 fun l H2=>th σ H2 fun u H3=>r x l u H3 Q
theorem qi {r:V->Option Int->Option Int->Hp->VK->Prop} (hr:SlR X r) (he:PE X e te) (hl:PO X lo tl) (hu:PO X hi th):PE X (.Subscript e (.Slice lo hi none p2) pos) (tSl r te tl th):=by
  intro pins s σ H Q I h
  refine Subscript_ (thn (he pins s σ H _ I h) fun v s1 ⟨x,H1,I1,r1,q1⟩=>?_)
  refine wpAny_Slice (thn (hl pins s1 σ H1 _ I1 q1) fun vl s2 ⟨l,H2,I2,pl,q2⟩=>thn (hu pins s2 σ H2 _ I2 q2) fun vu s3 ⟨u,H3,I3,pu,q3⟩=>?_)
  rw [evalPart_none]
  refine wpAny_pure ?_
  have I4:Inv X pins σ H3 {s3 with heap:=s3.heap.push {cls:=.type "slice",data:=.fields #[vl,vu,.none]}}:=I3.kept (t':=s3.toks) fun b ob q=>Heap.get?_push_of_some _ q
  obtain⟨T,id,hT,ht,hg⟩:=hr pins {s3 with heap:=s3.heap.push {cls:=.type "slice",data:=.fields #[vl,vu,.none]}} σ H3 x v vl vu l u s3.heap.objs.size Q I4 r1 (Heap.IsSliceOf.new ..) pl pu q3
  show wpAny (model X.prog X.w) X.A (subscriptTail e (.Slice lo hi none p2) v (.ref s3.heap.objs.size)) (EP X pins σ Q) X.xe {s3 with heap:=s3.heap.push {cls:=.type "slice",data:=.fields #[vl,vu,.none]}}
  exact tail_any (ops:=[.ref s3.heap.objs.size,v]) ht hT hg (by with_unfolding_all rfl)
def jR (xs:List V) (lo hi:Option Int):List V:=(xs.drop (HT.sIx xs.length 0 lo)).take (HT.sIx xs.length xs.length hi - HT.sIx xs.length 0 lo)
theorem UC (xs:List V) (lo hi:Option Int):(jR xs lo hi).length<=xs.length:=by
  unfold jR
  rw [List.length_take,List.length_drop]
  omega
end
end L2
namespace L2
open PySem PySem.Spec PyProof.Rows
def ixN (n:Nat) (i:Int):Option Nat:=if 0<=i then (if i<n then some i.toNat else none) else if -(n:Int)<=i then some (i+n).toNat else none
def atI {α:Type} (xs:List α) (i:Int):Option α:=(ixN xs.length i).bind fun j=>xs[j]?
theorem N9 {n:Nat} {i:Int} {j:Nat} (h:ixN n i=some j):seqIndex? i n=some j/\j<n/\-(n:Int)<=i/\i<n:=by
  unfold ixN at h
  by_cases h0:0<=i
  · rw [if_pos h0] at h
    by_cases h1:i<n
    · rw [if_pos h1] at h
      have e:i.toNat=j:=Option.some.inj h
      exact⟨by rw [seqIndex_of h0 h1,e],by omega,by omega,h1⟩
    · rw [if_neg h1] at h;cases h
  · rw [if_neg h0] at h
    by_cases h1:-(n:Int)<=i
    · rw [if_pos h1] at h
      have e:(i+n).toNat=j:=Option.some.inj h
      exact⟨by rw [seqIndex_neg (by omega) h1,e],by omega,h1,by omega⟩
    · rw [if_neg h1] at h;cases h
theorem UN {α:Type} {xs:List α} {i:Int} {v:α} (h:atI xs i=some v):∃j,seqIndex? i xs.length=some j/\xs[j]? = some v/\j<xs.length/\-(xs.length:Int)<=i/\i<xs.length:=by
  unfold atI at h
  cases e:ixN xs.length i with
  | none=>rw [e] at h;cases h
  | some j=>
    rw [e] at h
    obtain⟨h1,h2,h3,h4⟩:=N9 e
    exact⟨j,h1,h,h2,h3,h4⟩
theorem zp {α:Type} {xs:List α} {j:Nat} {v:α} (h:xs[j]? = some v):atI xs (j:Int)=some v:=by
  have hj:j<xs.length:=(List.getElem?_eq_some_iff.mp h).1
  have e:ixN xs.length (j:Int)=some j:=by
    unfold ixN
    rw [if_pos (by omega),if_pos (by omega)];simp
  unfold atI;rw [e];exact h
theorem J8 {α:Type} (xs:List α) (v:α):atI (xs++[v]) (-1)=some v:=by
  have hl:(xs++[v]).length=xs.length+1:=by simp
  have e:ixN (xs++[v]).length (-1)=some xs.length:=by
    unfold ixN
    rw [hl,if_neg (by decide),if_pos (by omega)]
    congr 1
    omega
  unfold atI
  rw [e]
  show(xs++[v])[xs.length]? = some v
  simp
def PlainIx (b:Expr):Prop:=∀o i,subscripted b false o i=operate [o,i] (getItem o i)
def IxR (X:Cx) (r:R2):Prop:=
  ∀(value slice:Expr) (pins:List (Addr×Obj)) (s:Shared) (σ:St) (H:Hp) (x y:V) (v u:Value) (Q:VK),Inv X pins σ H s->zQ x v->zQ y u->r x y H Q ->
    subscripted slice false v u=operate [v,u] (getItem v u)->wpAny (model X.prog X.w) X.A (subscriptTail value slice v u) (EP X pins σ Q) X.xe s
def MtR (X:Cx) (id:String) (r:V->List V->Hp->VK->Prop):Prop:=
  ∀(pins:List (Addr×Obj)) (s:Shared) (σ:St) (H:Hp) (x:V) (xs:List V) (v:Value) (us:List Value) (Q:VK),Inv X pins σ H s->zQ x v->zH xs us->r x xs H Q ->
    wpAny (model X.prog X.w) X.A (call (.builtin id) (v::us)) (EP X pins σ Q) X.xe s
section
variable {X:Cx} {a b:Expr} {ta tb:TE} {pos:Pos}
theorem zN {r:R2} (hr:IxR X r) (ha:PE X a ta) (hb:PE X b tb) (hs:PlainIx b):PE X (.Subscript a b pos) (tOp r ta tb):=by
  intro pins s σ H Q I h
  exact Subscript_ (binT ha hb I h fun v u s2 x y H2 I2 rx ry q=>hr a b pins s2 σ H2 x y v u Q I2 rx ry q (hs _ _))
def rIxL (K:PySem.W.Frag):R2:=fun x y H Q=>∃p xs i v,x=.ref p/\y=.int i/\SqL K H p xs/\atI xs i=some v/\Q v H
def rIxT (K:PySem.W.Frag):R2:=fun x y H Q=>∃p xs i v,x=.ref p/\y=.int i/\SqT K H p xs/\atI xs i=some v/\Q v H
theorem zA:IxR X (rIxL X.K):=by
  intro value slice pins s σ H x y v u Q I rx ry h hs
  obtain⟨p,xs,i,z,rfl,rfl,hq,he,q⟩:=h
  cases rx
  obtain⟨t,rfl⟩:=ry
  obtain⟨its,r,pl,hz⟩:=I.list hq
  obtain⟨j,h1,h2,h3,h4,h5⟩:=UN he
  obtain⟨w,ew,rw'⟩:=r.get h2
  have hl:=r.length
  have hn:=line63
  have fin:EP X pins σ Q w s:=⟨z,H,I,rw',q⟩
  by_cases h0:0<=i
  · have hj:i.toNat=j:=by
      rw [seqIndex_of h0 h5] at h1
      exact Option.some.inj h1
    exact item_listR pl.isList h0 (by omega) (by rw [hj];simpa using ew) fin hs
  · have hj:(i+(its.toArray.size:Int)).toNat=j:=by
      rw [seqIndex_neg (by omega) h4] at h1
      rw [List.size_toArray,<-hl]
      exact Option.some.inj h1
    exact subscriptTail_builtinR (x:=w) pl.isList.typeIs slot_list_getitem.lookup
      (wpAny_getItem_list_neg (Q:=fun r s'=>r=w/\EP X pins σ Q r s') pl.isList (by omega) (by rw [List.size_toArray] <;> omega) (by omega) (by rw [hj];simpa using ew) ⟨rfl,fin⟩) hs
theorem Zw:IxR X (rIxT X.K):=by
  intro value slice pins s σ H x y v u Q I rx ry h hs
  obtain⟨p,xs,i,z,rfl,rfl,hq,he,q⟩:=h
  cases rx
  obtain⟨t,rfl⟩:=ry
  obtain⟨its,r,pl,hz⟩:=I.tuple hq
  obtain⟨j,h1,h2,h3,h4,h5⟩:=UN he
  obtain⟨w,ew,rw'⟩:=r.get h2
  have hl:=r.length
  have hn:=line63
  have fin:EP X pins σ Q w s:=⟨z,H,I,rw',q⟩
  exact subscriptTail_builtinR (x:=w) pl.typeIs slot_tuple_getitem.lookup
    (getItem_tuple (j:=j) (Q:=fun r s'=>r=w/\EP X pins σ Q r s') pl (by omega) (by omega) (by rw [List.size_toArray,<-hl];exact h1) (by simpa using ew) ⟨rfl,fin⟩) hs
theorem NW (its:List Value) (n j:Nat) (u:Value):Obj.mapSeq (·.setIfInBounds j u) {cls:=.type "list",data:=.seq its.toArray n}={cls:=.type "list",data:=.seq (its.set j u).toArray n}:=by
  simp [Obj.mapSeq]
theorem Inv.lst {pins:List (Addr×Obj)} {σ:St} {H:Hp} {s:Shared} {p:Addr} {xs:List V} (I:Inv X pins σ H s) (h:H p=some (.lst xs)) :
    ∃(its:List Value) (n:Nat),zH xs its/\s.heap.get? p=some {cls:=.type "list",data:=.seq its.toArray n}/\xs.length<=sizeLine:=by
  obtain⟨z,its,n,r,e⟩:=I.hok p _ h
  exact⟨its,n,r,e,z⟩
theorem Inv.lstUpd {pins:List (Addr×Obj)} {σ:St} {H:Hp} {s:Shared} {p:Addr} {xs ys:List V} {its its':List Value} {n n':Nat} {f:Obj->Obj} (I:Inv X pins σ H s) (h:H p=some (.lst xs))
    (ho:s.heap.get? p=some {cls:=.type "list",data:=.seq its.toArray n}) (hf:f {cls:=.type "list",data:=.seq its.toArray n}={cls:=.type "list",data:=.seq its'.toArray n'}) (r:zH ys its') (hz:ys.length<=sizeLine) (t:Nat) :
    Inv X pins σ (upd H p (.lst ys)) {s with heap:=s.heap.update p f,toks:=t}:=by
  have e:(s.heap.update p f).get? p=some {cls:=.type "list",data:=.seq its'.toArray n'}:=by
    rw [Heap.get?_update_self f ho (by rw [hf] <;> rfl),hf]
  refine I.write (x:=p) (e:=p) (by rw [h];trivial) (.inl rfl) (fun b u hb q=>(Heap.get?_update_other _ _ (Ne.symm hb)).trans q) ⟨_,e⟩ ?_
  exact⟨hz,its',n',r,e⟩
def rSetL:V->V->V->Hp->(Hp->Prop)->Prop:=fun o i v H Q=>∃p xs k j,o=.ref p/\i=.int k/\H p=some (.lst xs)/\ixN xs.length k=some j/\Q (upd H p (.lst (xs.set j v)))
theorem qh:PSet X rSetL:=by
  intro pins s σ H o i v ov iv u Q I ro ri rv h
  obtain⟨p,xs,k,j,rfl,rfl,hp,hj,q⟩:=h
  cases ro
  obtain⟨t,rfl⟩:=ri
  obtain⟨its,n,r,ho,hz⟩:=I.lst hp
  obtain⟨h1,h2,h3,h4⟩:=N9 hj
  have hl:=r.length
  have hn:=line63
  have I':Inv X pins σ (upd H p (.lst (xs.set j v))) {s with heap:=s.heap.update p (Obj.mapSeq (·.setIfInBounds j u))}:=
    I.lstUpd hp ho (NW its n j u) (r.set rv j) (by rw [List.length_set];exact hz) s.toks
  by_cases h0:0<=k
  · have hk:k.toNat=j:=by
      rw [seqIndex_of h0 h4] at h1
      exact Option.some.inj h1
    exact PySem.W.ki_setAt ho h0 (by omega) (by rw [List.size_toArray,<-hl];exact h4) (by rw [hk];exact⟨_,I',q⟩)
  · have hk:(k+(its.toArray.size:Int)).toNat=j:=by
      rw [seqIndex_neg (by omega) h3] at h1
      rw [List.size_toArray,<-hl]
      exact Option.some.inj h1
    exact PySem.W.ki_setBack ho (by omega) (by rw [List.size_toArray,<-hl];exact h3) (by omega) (by rw [hk];exact⟨_,I',q⟩)
theorem Ul (lo hi:Option Int) (n:Nat):(sliceBounds lo hi none n).1=((HT.sIx n 0 lo:Nat):Int)/\(sliceBounds lo hi none n).2.1=((HT.sIx n n hi:Nat):Int)/\(sliceBounds lo hi none n).2.2=1:=by
  refine⟨?_,?_,rfl⟩
  · cases lo with
    | none=>simp [sliceBounds,HT.sIx]
    | some i=>
      simp only [sliceBounds,HT.sIx,Option.getD_none,show(1:Int) > 0 by decide,if_true]
      by_cases h:i<0
      · simp only [h,if_true] <;> omega
      · simp only [h,if_false] <;> omega
  · cases hi with
    | none=>simp [sliceBounds,HT.sIx]
    | some i=>
      simp only [sliceBounds,HT.sIx,Option.getD_none,show(1:Int) > 0 by decide,if_true]
      by_cases h:i<0
      · simp only [h,if_true] <;> omega
      · simp only [h,if_false] <;> omega
theorem Vt (its:List Value) (lo hi:Option Int):slicePick its.toArray lo hi none=((its.drop (HT.sIx its.length 0 lo)).take (HT.sIx its.length its.length hi - HT.sIx its.length 0 lo)).toArray:=by
  obtain⟨h1,h2,h3⟩:=Ul lo hi its.toArray.size
  unfold slicePick
  rw [h1,h2,h3]
  simp only [sliceRange_one,pick_run,List.size_toArray] <;> rfl
def rSlL (K:PySem.W.Frag):V->Option Int->Option Int->Hp->VK->Prop:=fun x lo hi H Q=>∃a xs,x=.ref a/\SqL K H a xs/\∀p,H p=none->Q (.ref p) (upd H p (.lst (jR xs lo hi)))
theorem qX:SlR X (rSlL X.K):=by
  intro pins s σ H x v vl vu lo hi sl Q I rx hs pl pu h
  obtain⟨a,xs,rfl,hx,q⟩:=h
  cases rx
  obtain⟨its,r,ht,hz⟩:=I.list hx
  have hlen:=r.length
  refine⟨"list",_,slot_list_getitem.lookup,ht.isList.typeIs,?_⟩
  refine wpAny_getItem_list_slice ht.isList hs pl pu .none (by simp) ?_ (by rw [List.size_toArray] <;> omega)
  rw [Vt,<-hlen]
  refine⟨.ref s.heap.objs.size,_,I.laid (t':=s.toks) (o:=.lst (jR xs lo hi)) (fun b ob q=>Heap.get?_push_of_some _ q) (Nat.le_refl _) ?_,rfl,q _ (I.hok.fresh (Nat.le_refl _))⟩
  exact⟨Nat.le_trans (UC xs lo hi) hz,_,0,(r.drop (HT.sIx xs.length 0 lo)).take (HT.sIx xs.length xs.length hi - HT.sIx xs.length 0 lo),Heap.get?_push_size _ rfl⟩
def Jj:V->Bool
  | .non=>true
  | .bl _=>true
  | .int _=>true
  | .str _=>true
  | _=>false
def eqV:V->V->Bool
  | .non,.non=>true
  | .bl a,.bl b=>a == b
  | .bl a,.int b=>(if a then 1 else 0) == b
  | .int a,.bl b=>a == (if b then 1 else 0)
  | .int a,.int b=>a == b
  | .str a,.str b=>a == b
  | _,_=>false
theorem zcv {A:Around} {s:Shared} {y x:V} {u v:Value} (ry:zQ y u) (rx:zQ x v) (fy:Jj y=true) (fx:Jj x=true):SeqAt.EqAt A s u v (eqV y x):=by
  cases y with
  | non=>
    cases ry
    cases x with
    | non=>cases rx;exact SeqAt.EqAt.same _
    | bl b=>cases rx;exact SeqAt.EqAt.none_bool b
    | int b=>obtain⟨t,rfl⟩:=rx;exact SeqAt.EqAt.none_int b t
    | str b=>obtain⟨t,rfl⟩:=rx;exact SeqAt.EqAt.none_str b t
    | _=>exact absurd (show false=true from fx) Bool.false_ne_true
  | bl a=>
    cases ry
    cases x with
    | non=>cases rx;exact SeqAt.EqAt.bool_none a
    | bl b=>cases rx;exact SeqAt.EqAt.bool_bool a b
    | int b=>obtain⟨t,rfl⟩:=rx;exact SeqAt.EqAt.bool_int a b t
    | str b=>obtain⟨t,rfl⟩:=rx;exact SeqAt.EqAt.bool_str a b t
    | _=>exact absurd (show false=true from fx) Bool.false_ne_true
  | int a=>
    obtain⟨t',rfl⟩:=ry
    cases x with
    | non=>cases rx;exact SeqAt.EqAt.int_none a t'
    | bl b=>cases rx;exact SeqAt.EqAt.int_bool a t' b
    | int b=>obtain⟨t,rfl⟩:=rx;exact SeqAt.EqAt.int_int a t' b t
    | str b=>obtain⟨t,rfl⟩:=rx;exact SeqAt.EqAt.int_str a t' b t
    | _=>exact absurd (show false=true from fx) Bool.false_ne_true
  | str a=>
    obtain⟨t',rfl⟩:=ry
    cases x with
    | non=>cases rx;exact SeqAt.EqAt.str_none a t'
    | bl b=>cases rx;exact SeqAt.EqAt.str_bool a t' b
    | int b=>obtain⟨t,rfl⟩:=rx;exact SeqAt.EqAt.str_int a t' b t
    | str b=>obtain⟨t,rfl⟩:=rx;exact SeqAt.EqAt.str_str a t' b t
    | _=>exact absurd (show false=true from fx) Bool.false_ne_true
  | _=>exact absurd (show false=true from fy) Bool.false_ne_true
def eqU (x:V) (u:Value):Bool:=match u with
  | .none=>eqV .non x
  | .bool b=>eqV (.bl b) x
  | .int i _=>eqV (.int i) x
  | .str z _=>eqV (.str z) x
  | _=>false
theorem Oo {x y:V} {u:Value} (r:zQ y u) (f:Jj y=true):eqU x u=eqV y x:=by
  cases y with
  | non=>cases r;rfl
  | bl b=>cases r;rfl
  | int i=>obtain⟨t,rfl⟩:=r;rfl
  | str z=>obtain⟨t,rfl⟩:=r;rfl
  | _=>exact absurd (show false=true from f) Bool.false_ne_true
theorem JE {x:V}:∀{xs:List V} {us:List Value},zH xs us->xs.all Jj=true->us.any (eqU x)=xs.any fun y=>eqV y x
  | _,_,.nil,_=>rfl
  | y::xs,u::us,.cons r t,f=>by
    rw [List.all_cons,Bool.and_eq_true] at f
    rw [List.any_cons,List.any_cons,Oo r f.1,JE t f.2]
theorem Jb {A:Around} {s:Shared} {x:V} {v:Value} (rx:zQ x v) (fx:Jj x=true):∀{xs:List V} {us:List Value},zH xs us->xs.all Jj=true->∀u∈us,SeqAt.EqAt A s u v (eqU x u)
  | _,_,.nil,_=>fun u hu=>by cases hu
  | y::xs,u::us,.cons r t,f=>fun u' hu=>by
    rw [List.all_cons,Bool.and_eq_true] at f
    rcases List.mem_cons.mp hu with rfl | hu
    · rw [Oo r f.1];exact zcv r rx f.1 fx
    · exact Jb rx fx t f.2 u' hu
def inV (x:V) (xs:List V):Bool:=xs.any fun y=>eqV y x
def rIn (K:PySem.W.Frag) (neg:Bool):R2:=fun x y H Q=>∃p xs,y=.ref p/\(SqL K H p xs\/SqT K H p xs)/\Jj x=true/\xs.all Jj=true/\Q (.bl (if neg then !inV x xs else inV x xs)) H
theorem ZW:OpR X (compareOp .In) (rIn X.K false):=by
  intro pins s σ H x y v u Q I rx ry h
  obtain⟨p,xs,rfl,hq,fx,fs,q⟩:=h
  cases ry
  rcases hq with hq | hq
  · obtain⟨its,r,pl,hz⟩:=I.list hq
    refine SeqAt.in_listAt (eqU x) pl.isList (fun w hw=>Jb rx fx r fs w (by simpa using hw)) ⟨.bl _,H,I,rfl,?_⟩
    rw [show its.toArray.any (eqU x)=its.any (eqU x) by simp,JE r fs]
    exact q
  · obtain⟨its,r,pl,hz⟩:=I.tuple hq
    refine SeqAt.in_tupleAt (eqU x) pl (fun w hw=>Jb rx fx r fs w (by simpa using hw)) ⟨.bl _,H,I,rfl,?_⟩
    rw [show its.toArray.any (eqU x)=its.any (eqU x) by simp,JE r fs]
    exact q
theorem J2:OpR X (compareOp .NotIn) (rIn X.K true):=by
  intro pins s σ H x y v u Q I rx ry h
  obtain⟨p,xs,rfl,hq,fx,fs,q⟩:=h
  cases ry
  rcases hq with hq | hq
  · obtain⟨its,r,pl,hz⟩:=I.list hq
    refine SeqAt.notIn_listAt (eqU x) pl.isList (fun w hw=>Jb rx fx r fs w (by simpa using hw)) ⟨.bl _,H,I,rfl,?_⟩
    rw [show its.toArray.any (eqU x)=its.any (eqU x) by simp,JE r fs]
    exact q
  · obtain⟨its,r,pl,hz⟩:=I.tuple hq
    refine SeqAt.notIn_tupleAt (eqU x) pl (fun w hw=>Jb rx fx r fs w (by simpa using hw)) ⟨.bl _,H,I,rfl,?_⟩
    rw [show its.toArray.any (eqU x)=its.any (eqU x) by simp,JE r fs]
    exact q
theorem zF:CallR X (.builtin "len") (fun xs H Q=>∃p ys,xs=[.ref p]/\(SqL X.K H p ys\/SqT X.K H p ys)/\Q (.int ys.length) H):=by
  intro pins s σ H xs us Q I r h
  obtain⟨p,ys,rfl,hq,q⟩:=h
  obtain⟨u,rfl,rx⟩:=vals1 r
  cases rx
  have hn:=line63
  rcases hq with hq | hq
  · obtain⟨its,r',pl,hz⟩:=I.list hq
    have hlen:=r'.length
    exact Calls.call_len_list pl.isList (by simp only [List.size_toArray] <;> omega) ⟨.int ys.length,H,I.tok _,⟨s.toks+1,by rw [List.size_toArray,hlen]⟩,q⟩
  · obtain⟨its,r',pl,hz⟩:=I.tuple hq
    have hlen:=r'.length
    exact len_tuple pl (by simp only [List.size_toArray] <;> omega) ⟨.int ys.length,H,I.tok _,⟨s.toks+1,by rw [List.size_toArray,hlen]⟩,q⟩
def tyV (K:PySem.W.Frag) (T:String) (x:V) (H:Hp):Prop:=match x with
  | .str _=>T="str"
  | .int _=>T="int"
  | .ref p=>(T="list"/\∃xs,SqL K H p xs)\/(T="tuple"/\∃o,K.lookup p=some o/\o.cls=.type "tuple"/\o.dict=none) \/
      (T="dict"/\((∃kvs,H p=some (.dK kvs))\/∃kvs,H p=some (.dT kvs)))\/(T="set"/\∃S n,H p=some (.set S n))
  | _=>False
theorem OF {pins:List (Addr×Obj)} {σ:St} {H:Hp} {s:Shared} {T:String} {x:V} {v:Value} (I:Inv X pins σ H s) (r:zQ x v) (ty:tyV X.K T x H) :
    s.TypeIs v T/\∀a,v=.ref a->∃ob,s.heap.get? a=some ob/\ob.dict=none:=by
  cases x with
  | str z=>
    obtain⟨t,rfl⟩:=r
    cases (show T="str" from ty)
    exact⟨typeIs_str s z t,fun _ e=>nomatch e⟩
  | int i=>
    obtain⟨t,rfl⟩:=r
    cases (show T="int" from ty)
    exact⟨typeIs_int s i t,fun _ e=>nomatch e⟩
  | ref p=>
    cases r
    rcases ty with ⟨rfl,xs,hq⟩ | ⟨rfl,o,hk,hc,hd⟩ | ⟨rfl,hk⟩ | ⟨rfl,S,n,hk⟩
    · obtain⟨its,_,pl,_⟩:=I.list hq
      refine⟨pl.isList.typeIs,fun a e=>?_⟩
      cases e
      obtain⟨o,n,e,c,hd,_⟩:=pl
      exact⟨o,e,hd⟩
    · refine⟨⟨o,I.kIn p o hk,hc⟩,fun a e=>?_⟩
      cases e
      exact⟨o,I.kIn _ o hk,hd⟩
    · have z:∃o,s.heap.get? p=some o/\o.ExactDict:=by
        rcases hk with ⟨kvs,hk⟩ | ⟨kvs,hk⟩
        · obtain⟨_,_,_,_,o,_,_,e,ex,_⟩:=I.hok p _ hk
          exact⟨o,e,ex⟩
        · obtain⟨_,_,_,_,o,_,_,e,ex,_⟩:=I.hok p _ hk
          exact⟨o,e,ex⟩
      obtain⟨o,e,ex⟩:=z
      refine⟨⟨o,e,ex.1⟩,fun a e2=>?_⟩
      cases e2
      exact⟨o,e,ex.2.1⟩
    · obtain⟨o,_,_,_,e,ex,_⟩:=I.hok p _ hk
      refine⟨⟨o,e,ex.1⟩,fun a e2=>?_⟩
      cases e2
      exact⟨o,e,ex.2.1⟩
  | _=>exact False.elim ty
def tBM0 (K:PySem.W.Frag) (T:String) (r:V->List V->Hp->VK->Prop) (to:TE):TE:=fun σ H Q=>to σ H fun x H1=>tyV K T x H1/\r x [] H1 Q
def tBM (K:PySem.W.Frag) (T:String) (r:V->List V->Hp->VK->Prop) (to:TE) (t:TA):TE:=fun σ H Q=>to σ H fun x H1=>tyV K T x H1/\t σ H1 fun xs H2=>r x xs H2 Q
variable {o e:Expr} {es:List Expr} {to:TE} {t:TA} {name:Str} {apos cpos:Pos} {T id:String} {r:V->List V->Hp->VK->Prop}
theorem Ub (pa:PlainAttrs T) (slot:Slot T name id) (hty:typeOf (.builtin id)=pure (.type "method_descriptor")) (hm:MtR X id r) (ho:PE X o to)
    (hbase:attributeBase o name X.env (eval o X.env)=eval o X.env:=by rfl) (hline:(apos.endLine == cpos.line)=true:=by rfl):PE X (.Call (.Attribute o name apos) [] [] cpos) (tBM0 X.K T r to):=by
  intro pins s σ H Q I h
  refine wpAny_Call_method0_late hbase hline (thn (ho pins s σ H _ I h) fun v s1 ⟨x,H1,I1,r1,ty,q1⟩=>?_)
  obtain⟨h1,h2⟩:=OF I1 r1 ty
  exact⟨T,id,pa,slot,hty,h1,h2,Calls.callWith_builtin rfl (PySem.evalArgs_none (hm pins s1 σ H1 x [] v [] Q I1 r1 .nil q1))⟩
theorem yK (pa:PlainAttrs T) (slot:Slot T name id) (hty:typeOf (.builtin id)=pure (.type "method_descriptor")) (hm:MtR X id r) (ho:PE X o to) (ha:PA X (e::es) t)
    (hbase:attributeBase o name X.env (eval o X.env)=eval o X.env:=by rfl)
    (hfew:((backTo cpos (starEach (e::es) X.env)).all (fun x=>!x.1) && (backToKw cpos (keywordEach [] X.env)).all (fun x=>x.1.isSome)
      && decide ((e::es).length+([]:List Keyword).length+(if ([]:List Keyword).isEmpty then 0 else 1)<30))=true:=by rfl)
    (hline:(apos.endLine == cpos.line)=true:=by rfl) (hs:starEach (e::es) X.env=(false,eval e X.env)::starEach es X.env:=by rfl) (hplain:(backTo cpos (starEach es X.env)).any (·.1)=false:=by rfl) :
    PE X (.Call (.Attribute o name apos) (e::es) [] cpos) (tBM X.K T r to t):=by
  intro pins s σ H Q I h
  refine wpAny_Call_method_late hbase hfew hline rfl (thn (ho pins s σ H _ I h) fun v s1 ⟨x,H1,I1,r1,ty,q1⟩=>?_)
  obtain⟨h1,h2⟩:=OF I1 r1 ty
  refine⟨T,id,pa,slot,hty,h1,h2,?_⟩
  have hA:=ha cpos pins s1 σ H1 _ I1 q1
  rw [hs] at hA ⊢
  refine Calls.callWith_builtin (by show(false || (backTo cpos (starEach es X.env)).any (·.1))=false;rw [hplain] <;> rfl) (Calls.evalArgs_plain ?_)
  exact thn hA fun us s2 ⟨vs,H2,I2,r2,q2⟩=>hm pins s2 σ H2 x vs v us Q I2 r1 r2 q2
end
end L2
namespace L2
open PySem PySem.Spec PyProof.Rows
def MtM (X:Cx) (id:String) (r:V->List V->Hp->VK->Prop):Prop:=
  ∀(pins:List (Addr×Obj)) (s:Shared) (σ:St) (H:Hp) (x:V) (xs:List V) (v:Value) (us:List Value) (Q:VK),Inv X pins σ H s->zQ x v->zH xs us->r x xs H Q ->
    wpAny (model X.prog X.w) X.A (call (.builtin id) (v::us)) (EP X pins σ Q) X.xe s
theorem zH.one:∀{x:V} {us:List Value},zH [x] us->∃u,us=[u]/\zQ x u
  | _,_,.cons r .nil=>⟨_,rfl,r⟩
theorem zH.zero:∀{us:List Value},zH [] us->us=[]
  | _,.nil=>rfl
theorem zH.dropLast {xs:List V} {us:List Value} (h:zH xs us):zH xs.dropLast us.dropLast:=by
  induction h with
  | nil=>exact .nil
  | cons r t ih=>
    cases t with
    | nil=>exact .nil
    | cons q t'=>exact .cons r ih
theorem zH.rep {xs:List V} {us:List Value} (h:zH xs us):∀k:Nat,zH (List.replicate k xs).flatten (List.replicate k us).flatten
  | 0=>.nil
  | k+1=>by
    rw [List.replicate_succ,List.replicate_succ,List.flatten_cons,List.flatten_cons]
    exact zH.append h (zH.rep h k)
theorem NB {α:Type} (l:List α):l.eraseIdx (l.length - 1)=l.dropLast:=by
  induction l with
  | nil=>rfl
  | cons a r ih=>
    cases r with
    | nil=>rfl
    | cons b r=>
      have e:(a::b::r).length - 1=((b::r).length - 1)+1:=by
        have h1:(a::b::r).length=r.length+2:=rfl
        have h2:(b::r).length=r.length+1:=rfl
        omega
      rw [e,List.eraseIdx_cons_succ,ih]
      all_goals rfl
theorem V2 (its:List Value):∀(k:Nat) (acc:List Value),
    List.foldl (fun x1 x2=>x1++x2) acc.toArray (List.replicate k its.toArray)=(acc++(List.replicate k its).flatten).toArray
  | 0,acc=>by simp
  | k+1,acc=>by
    have e:acc.toArray++its.toArray=(acc++its).toArray:=by simp
    have e2:(acc++its)++(List.replicate k its).flatten=acc++(List.replicate (k+1) its).flatten:=by
      rw [List.replicate_succ,List.flatten_cons,List.append_assoc]
    rw [<-e2,<-V2 its k (acc++its),<-e,List.replicate_succ,List.foldl_cons]
section
variable {X:Cx} {pins:List (Addr×Obj)} {σ:St} {H:Hp} {s:Shared} {l b:Addr} {xs ys zs:List V}
theorem Inv.lset {its its':List Value} {n:Nat} {f:Array Value->Array Value} {t':Nat} (I:Inv X pins σ H s) (hH:H l=some (.lst xs))
    (e:s.heap.get? l=some {cls:=.type "list",data:=.seq its.toArray n}) (hf:f its.toArray=its'.toArray) (hv:zH ys its') (hz:ys.length<=sizeLine) :
    Inv X pins σ (upd H l (.lst ys)) {s with heap:=s.heap.update l (Obj.mapSeq f),toks:=t'}:=by
  have q:=PySem.IsL.update e f
  rw [hf] at q
  refine I.write (x:=l) (e:=l) (by rw [hH];exact trivial) (.inl rfl) (fun b' u hb hu=>(Heap.get?_update_other s.heap (Obj.mapSeq f) (Ne.symm hb)).trans hu) ⟨_,q⟩ ?_
  exact⟨hz,its',_,hv,q⟩
theorem Inv.lnew {its:List Value} {t':Nat} (I:Inv X pins σ H s) (hv:zH ys its) (hz:ys.length<=sizeLine) :
    Inv X pins σ (upd H s.heap.objs.size (.lst ys)) {s with heap:=s.heap.push {cls:=.type "list",data:=.seq its.toArray},toks:=t'}:=
  I.laid (fun _ _ q=>Heap.get?_push_of_some _ q) (Nat.le_refl _) ⟨hz,its,0,hv,Heap.get?_push_size _ rfl⟩
theorem Inv.fresh (I:Inv X pins σ H s):H s.heap.objs.size=none:=I.hok.fresh (Nat.le_refl _)
theorem Inv.lstM (I:Inv X pins σ H s) (hH:H l=some (.lst xs)):xs.length<=sizeLine/\∃(its:List Value) (n:Nat),zH xs its/\xs.length=its.length/\s.heap.get? l=some {cls:=.type "list",data:=.seq its.toArray n}:=by
  obtain⟨z,its,n,r,e⟩:=I.hok l _ hH
  exact⟨z,its,n,r,r.length,e⟩
theorem notLongL {n:Nat} (h:n<=sizeLine):Builtin.List.listTooLong n=false:=by
  unfold Builtin.List.listTooLong
  exact decide_eq_false (by omega)
end
section
variable {X:Cx}
def rAppend:V->List V->Hp->VK->Prop:=fun x vs H Q=>∃l xs y,x=.ref l/\vs=[y]/\H l=some (.lst xs)/\xs.length<sizeLine/\Q .non (upd H l (.lst (xs++[y])))
theorem yc:MtM X "list.append" rAppend:=by
  intro pins s σ H x vs v us Q I rx rv h
  obtain⟨l,xs,y,rfl,rfl,hH,hz,q⟩:=h
  cases rx
  obtain⟨u,rfl,ru⟩:=rv.one
  obtain⟨z,its,n,r,hl,e⟩:=I.lstM hH
  refine call_meets F.slot_list_append ⟨_,e,rfl⟩ F.entry_list_append (F.args_list_append_2 _ _) (PySem.list_append l its.toArray n u (by rw [List.size_toArray];omega)) ⟨e,?_⟩
  refine⟨.non,_,I.lset (its':=its++[u]) hH e (by simp) (r.append (.cons ru .nil)) ?_,rfl,q⟩
  rw [List.length_append,List.length_singleton]
  omega
def rExtend:V->List V->Hp->VK->Prop:=fun x vs H Q=>∃l b xs zs,x=.ref l/\vs=[.ref b]/\H l=some (.lst xs)/\H b=some (.lst zs)/\xs.length+zs.length<=sizeLine/\Q .non (upd H l (.lst (xs++zs)))
theorem qD:MtM X "list.extend" rExtend:=by
  intro pins s σ H x vs v us Q I rx rv h
  obtain⟨l,b,xs,zs,rfl,rfl,hH,hB,hz,q⟩:=h
  cases rx
  obtain⟨u,rfl,ru⟩:=rv.one
  cases ru
  obtain⟨z,its,n,r,hl,e⟩:=I.lstM hH
  obtain⟨z2,its2,n2,r2,hl2,e2⟩:=I.lstM hB
  have hsz:its.toArray.size+its2.toArray.size<=sizeLine:=by rw [List.size_toArray,List.size_toArray];omega
  have hlong:¬(!its.toArray.isEmpty && Builtin.List.listTooLong (its.toArray.size+its2.toArray.size))=true:=by
    rw [notLongL hsz,Bool.and_false]
    exact Bool.false_ne_true
  refine call_meets F.slot_list_extend ⟨_,e,rfl⟩ F.entry_list_extend (F.args_list_extend_2 _ _)
    (AutoSeq1.list_extend_list_list_0 l its.toArray n b its2.toArray n2 hlong (by rw [List.size_toArray];omega) (by omega)) ⟨e,e2,?_⟩
  refine⟨.non,_,I.lset (its':=its++its2) hH e (by simp) (r.append r2) ?_,rfl,q⟩
  rw [List.length_append]
  omega
def rPop:V->List V->Hp->VK->Prop:=fun x vs H Q=>∃l xs y,x=.ref l/\vs=[]/\H l=some (.lst xs)/\xs[xs.length - 1]? = some y/\Q y (upd H l (.lst xs.dropLast))
theorem Uu:MtM X "list.pop" rPop:=by
  intro pins s σ H x vs v us Q I rx rv h
  obtain⟨l,xs,y,rfl,rfl,hH,hy,q⟩:=h
  cases rx
  have hus:=rv.zero
  subst hus
  obtain⟨z,its,n,r,hl,e⟩:=I.lstM hH
  obtain⟨u,hu,ru⟩:=r.get hy
  have hy':its.toArray[its.toArray.size - 1]? = some u:=by
    show its.toArray[its.length - 1]? = some u
    rw [<-Array.getElem?_toList,<-hl]
    exact hu
  refine call_meets F.slot_list_pop ⟨_,e,rfl⟩ F.entry_list_pop (F.args_list_pop_1 _) (MeetsSeq.list_pop_last l its.toArray n u hy' (by rw [List.size_toArray];omega)) ⟨e,?_⟩
  refine⟨y,_,I.lset (its':=its.dropLast) hH e ?_ r.dropLast ?_,ru,q⟩
  · show its.toArray.eraseIdxIfInBounds (its.toArray.size - 1)=its.dropLast.toArray
    rw [List.size_toArray,List.eraseIdxIfInBounds_toArray,NB]
  · rw [List.length_dropLast]
    omega
def rCat:R2:=fun x y H Q=>∃l b xs zs,x=.ref l/\y=.ref b/\H l=some (.lst xs)/\H b=some (.lst zs)/\xs.length+zs.length<=sizeLine/\∀p,H p=none->Q (.ref p) (upd H p (.lst (xs++zs)))
theorem Zi:OpR X (binaryOp .Add) rCat:=by
  intro pins s σ H x y v u Q I rx ry h
  obtain⟨l,b,xs,zs,rfl,rfl,hH,hB,hz,q⟩:=h
  cases rx
  cases ry
  obtain⟨z,its,n,r,hl,e⟩:=I.lstM hH
  obtain⟨z2,its2,n2,r2,hl2,e2⟩:=I.lstM hB
  refine PySem.P.add_list e e2 ?_ (by rw [List.size_toArray,List.size_toArray];omega)
  have ea:its.toArray++its2.toArray=(its++its2).toArray:=by simp
  rw [ea]
  exact⟨.ref _,_,I.lnew (t':=s.toks) (r.append r2) (by rw [List.length_append];omega),rfl,q _ I.fresh⟩
def rRep:R2:=fun x y H Q=>∃l k xs,x=.ref l/\y=.int k/\H l=some (.lst xs)/\-(2 ^ 63)<=k/\k<2 ^ 63/\xs.length*k.toNat<=sizeLine /\
  ∀p,H p=none->Q (.ref p) (upd H p (.lst (List.replicate k.toNat xs).flatten))
theorem YB {α:Type} (xs:List α) (k:Nat):(List.replicate k xs).flatten.length=k*xs.length:=by
  induction k with
  | zero=>simp
  | succ k ih=>rw [List.replicate_succ,List.flatten_cons,List.length_append,ih,Nat.succ_mul,Nat.add_comm]
theorem U2:OpR X (binaryOp .Mult) rRep:=by
  intro pins s σ H x y v u Q I rx ry h
  obtain⟨l,k,xs,rfl,rfl,hH,h1,h2,hz,q⟩:=h
  cases rx
  obtain⟨t,rfl⟩:=ry
  obtain⟨z,its,n,r,hl,e⟩:=I.lstM hH
  have hlen:its.toArray.size*k.toNat<=sizeLine:=by rw [List.size_toArray,<-hl];exact hz
  have hcap:¬its.toArray.size*k.toNat > (2 ^ 63 - 1) / 8:=by
    have:(sizeLine:Nat)<=(2 ^ 63 - 1) / 8:=by decide
    omega
  have hfit:¬(!Builtin.List.listFitsIndex k)=true:=by
    rw [fitsIndex_both h1 h2]
    exact Bool.false_ne_true
  have hlong:¬Builtin.List.listTooLong (its.toArray.size*k.toNat)=true:=by
    rw [notLongL hlen]
    exact Bool.false_ne_true
  have hnew:List.foldl (fun x1 x2=>x1++x2) #[] (List.replicate (if its.toArray.isEmpty=true then 0 else k.toNat) its.toArray)=(List.replicate k.toNat its).flatten.toArray:=by
    have f0:∀m:Nat,List.foldl (fun x1 x2=>x1++x2) #[] (List.replicate m its.toArray)=(List.replicate m its).flatten.toArray:=fun m=>by
      have:=V2 its m []
      rw [List.nil_append] at this
      exact this
    rw [f0]
    cases its with
    | nil=>simp
    | cons a r'=>rw [if_neg (by simp)]
  refine wpAny_binaryOp_repeat_ref (T:="list") (U:="int") (by decide) ⟨_,e,rfl⟩ (fun s'=>typeIs_int s' k t) noFill_list_mul F.fills_int_mul F.slot_int_rmul repeat_list F.slot_int_index.lookup
    (call_meets F.slot_int_rmul (typeIs_int s k t) F.entry_int_rmul (F.args_int_rmul_2 _ _) (int___rmul___int_list k t l its.toArray n)
      ⟨e,rfl,⟨_,e,rfl⟩,call_meets F.slot_list_mul ⟨_,e,rfl⟩ F.entry_list_mul (F.args_list_mul_2 _ _) (AutoListH.list___mul___list_int_3 l its.toArray n k t hfit hcap hlong) ⟨e,?_⟩⟩)
  rw [hnew]
  exact⟨.ref _,_,I.lnew (t':=s.toks) (r.rep k.toNat) (by rw [YB,Nat.mul_comm];exact hz),rfl,q _ I.fresh⟩
end
section
variable {prog:Program} {w:World} {A:Around} {E:Value->Shared->Prop} {s:Shared}
set_option maxRecDepth 100000 in
end
section
variable {X:Cx}
end
end L2
namespace L2
open PySem PySem.Spec PyProof.Rows
theorem zH.ints:∀{ns:List Int} {us:List Value},zH (ns.map V.int) us->IntsAre us ns
  | [],us,h=>by
    rw [List.map_nil] at h
    cases h
    exact IntsAre.nil
  | n::ns,us,h=>by
    rw [List.map_cons] at h
    cases h with
    | cons r t=>
      obtain⟨k,rfl⟩:=r
      exact IntsAre.cons n k (zH.ints t)
theorem zH.ref1 {a:Addr} {us:List Value} (r:zH [V.ref a] us):us=[Value.ref a]:=by
  cases r with
  | cons r t=>
    cases t
    cases r
    rfl
section
variable {prog:Program} {w:World} {A:Around} {E:Value->Shared->Prop} {s:Shared} {l:Addr} {its:List Value} {ns:List Int} {Q:Value->Shared->Prop}
theorem zbh (hh:A.handled=none) (hl:s.heap.IsList l its.toArray) (hi:IntsAre its ns)
    (h:∀h' tk t',(∀b o,s.heap.get? b=some o->h'.get? b=some o)->Q (.int ns.sum t') {s with heap:=h',toks:=tk}):wpAny (model prog w) A (call (.builtin "sum") [.ref l]) Q E s:=by
  obtain⟨xs,e⟩:=hi.allInts.items
  have hn:numsOf (intItems xs).toList=ns:=by rw [<-e];exact hi.numsOf
  rw [nums_intItems] at hn
  rw [e] at hl
  refine PySem.sum_intListG hh hl fun h' tk t' hk=>?_
  have:=h h' tk t' hk
  rw [preSum_eq,List.take_of_length_le (by simp),hn];exact this
end
section
variable {X:Cx}
def rSum (K:PySem.W.Frag):List V->Hp->VK->Prop:=fun vs H Q=>∃(a:Addr) (ns:List Int),vs=[V.ref a]/\SqL K H a (ns.map V.int)/\Q (.int ns.sum) H
theorem zcr (hc:X.calm=true):CallR X (.builtin "sum") (rSum X.K):=by
  intro pins s σ H vs us Q I r h
  obtain⟨a,ns,rfl,hs,q⟩:=h
  obtain⟨its,rv,hl,_⟩:=I.list hs
  rw [zH.ref1 r]
  exact zbh (I.ok.hd hc) hl.isList rv.ints fun h' tk t' hk=>⟨.int _,H,I.kept hk,⟨_,rfl⟩,q⟩
end
section
variable {X:Cx}
end
section
variable {X:Cx}
end
section
variable {X:Cx}
end
mutual
inductive Dp (K:PySem.W.Frag) (H:Hp):V->PyData->Prop
  | non:Dp K H .non .none
  | bl (b:Bool):Dp K H (.bl b) (.bool b)
  | int (i:Int):Dp K H (.int i) (.int i)
  | str (x:Str):Dp K H (.str x) (.str x)
  | lst {a:Addr} {xs:List V} {ds:List PyData}:SqL K H a xs->JK K H xs ds->Dp K H (.ref a) (.list ds)
  | tup {a:Addr} {xs:List V} {ds:List PyData}:SqT K H a xs->JK K H xs ds->Dp K H (.ref a) (.tuple ds)
inductive JK (K:PySem.W.Frag) (H:Hp):List V->List PyData->Prop
  | nil:JK K H [] []
  | cons {v:V} {vs:List V} {d:PyData} {ds:List PyData}:Dp K H v d->JK K H vs ds->JK K H (v::vs) (d::ds)
end
section
variable {X:Cx} {pins:List (Addr×Obj)} {σ:St} {H:Hp} {s:Shared}
mutual
theorem Dp.reads (I:Inv X pins σ H s):∀(d:PyData) (v:V) (u:Value),Dp X.K H v d->zQ v u->∃as,Reads s.heap u d as
  | .none,_,_,h,r=>by
    cases h
    cases r
    exact⟨_,Reads.none⟩
  | .bool b,_,_,h,r=>by
    cases h
    cases r
    exact⟨_,Reads.bool b⟩
  | .int i,_,_,h,r=>by
    cases h
    obtain⟨t,rfl⟩:=r
    exact⟨_,Reads.int i t⟩
  | .str x,_,_,h,r=>by
    cases h
    obtain⟨t,rfl⟩:=r
    exact⟨_,Reads.str x t⟩
  | .list ds,_,_,h,r=>by
    cases h with
    | lst hs ha=>
      cases r
      obtain⟨its,rv,⟨o,n,ho,hc,_,hd⟩,_⟩:=I.list hs
      obtain⟨as,hr⟩:=Dp.readsAll I ds _ its ha rv
      exact⟨_,Reads.list ho hc hd hr⟩
  | .tuple ds,_,_,h,r=>by
    cases h with
    | tup hs ha=>
      cases r
      obtain⟨its,rv,⟨o,ho,hc,n,hd⟩,_⟩:=I.tuple hs
      obtain⟨as,hr⟩:=Dp.readsAll I ds _ its ha rv
      exact⟨_,Reads.tuple ho hc hd hr⟩
  | .dict _,_,_,h,_=>by cases h
theorem Dp.readsAll (I:Inv X pins σ H s):∀(ds:List PyData) (vs:List V) (us:List Value),JK X.K H vs ds->zH vs us->∃as,ReadsAll s.heap us ds as
  | [],_,_,h,r=>by
    cases h
    cases r
    exact⟨_,ReadsAll.nil⟩
  | d::ds,_,_,h,r=>by
    cases h with
    | cons h1 h2=>
      cases r with
      | cons r1 r2=>
        obtain⟨as,q1⟩:=Dp.reads I d _ _ h1 r1
        obtain⟨bs,q2⟩:=Dp.readsAll I ds _ _ h2 r2
        exact⟨_,ReadsAll.cons q1 q2⟩
end
end
section
variable {X:Cx}
def rEqD (K:PySem.W.Frag):R2:=fun x y H Q=>∃d e,Dp K H x d/\Dp K H y e/\SeqAt.shaped d=true/\SeqAt.shaped e=true/\Q (.bl (PyData.eqv d e)) H
def rNeD (K:PySem.W.Frag):R2:=fun x y H Q=>∃d e,Dp K H x d/\Dp K H y e/\SeqAt.shaped d=true/\SeqAt.shaped e=true/\Q (.bl (!PyData.eqv d e)) H
theorem zbv (hu:X.A.units+64<cLine):OpR X (compareOp .Eq) (rEqD X.K):=by
  intro pins s σ H x y v u Q I rx ry h
  obtain⟨d,e,hd,he,sd,se,q⟩:=h
  obtain⟨as,r1⟩:=Dp.reads I d x v hd rx
  obtain⟨bs,r2⟩:=Dp.reads I e y u he ry
  exact SeqAt.compareEq_shaped r1 r2 sd se hu ⟨.bl _,H,I,rfl,q⟩
theorem Uk (hu:X.A.units+64<cLine):OpR X (compareOp .NotEq) (rNeD X.K):=by
  intro pins s σ H x y v u Q I rx ry h
  obtain⟨d,e,hd,he,sd,se,q⟩:=h
  obtain⟨as,r1⟩:=Dp.reads I d x v hd rx
  obtain⟨bs,r2⟩:=Dp.reads I e y u he ry
  exact SeqAt.compareNe_shaped r1 r2 sd se hu ⟨.bl _,H,I,rfl,q⟩
end
end L2
namespace L2
open PySem PySem.Spec PyProof.Rows
abbrev CellAt (h:Heap) (c:Addr) (v:Option Value):Prop:=h.IsCell c v
def relS (scope sc:Scope):Scope:=
  {scope with names:=scope.names.map fun(n,k)=>if (k == .free && sc.kind == .function && sc.names.lookup n == some .cell) then (n,.cell) else (n,k)}
def yt (cells:List (Str×Addr)):List (Str×NameKind)->List (Str×Addr)->List (Str×Addr)
  | [],acc=>acc
  | (n,k)::r,acc=>if k == .free then yt cells r ((n,(cells.lookup n).getD 0)::acc) else yt cells r acc
theorem Yq (env:Env) (f:Str×NameKind->List (Str×Addr)->Sem (ForInStep (List (Str×Addr))))
    (hf:∀n k c,f (n,k) c=if k == .free then (do let a <-cellOf env n;pure (.yield ((n,a)::c))) else pure (.yield c)) :
    ∀(names:List (Str×NameKind)) (acc:List (Str×Addr)),(∀y∈names,y.2=.free->∃c,env.cells.lookup y.1=some c)->forIn names acc f=pure (yt env.cells names acc)
  | [],acc,_=>by rw [List.forIn_nil];rfl
  | (n,k)::r,acc,h=>by
    rw [List.forIn_cons,hf]
    have ih:=fun acc=>Yq env f hf r acc fun y hy=>h y (List.mem_cons_of_mem _ hy)
    unfold yt
    by_cases hk:(k == NameKind.free)=true
    · rw [if_pos hk,if_pos hk]
      obtain⟨c,hc⟩:=h (n,k) List.mem_cons_self (by simpa using hk)
      have e:cellOf env n=pure c:=by unfold cellOf;rw [hc]
      rw [e]
      have e2:(env.cells.lookup n).getD 0=c:=by rw [hc];rfl
      rw [e2]
      exact ih _
    · rw [if_neg hk,if_neg hk]
      exact ih _
theorem ND {scope:Scope} {env:Env} (h:∀y∈scope.names,y.2=.free->∃c,env.cells.lookup y.1=some c):closureFor scope env=pure (yt env.cells scope.names []):=by
  simp only [closureFor]
  rw [Yq env _ (fun n k c=>rfl) scope.names [] h]
  rfl
theorem JQ {α:Type}:∀{l:List (Str×α)} {n:Str} {c:α},(n,c)∈l->∃c',l.lookup n=some c'
  | (k,v)::r,n,c,h=>by
    rw [List.lookup_cons]
    cases hb:n == k with
    | true=>exact⟨_,rfl⟩
    | false=>
      rcases List.mem_cons.mp h with e | h
      · cases e;simp at hb
      · exact JQ h
theorem qo {cells:List (Str×Addr)}:∀{names:List (Str×NameKind)} {acc:List (Str×Addr)} {n:Str} {c:Addr},(n,c)∈yt cells names acc->(n,c)∈acc\/((n,.free)∈names/\c=(cells.lookup n).getD 0)
  | [],_,_,_,h=>.inl h
  | (m,k)::r,acc,n,c,h=>by
    unfold yt at h
    split at h
    · rename_i hk
      have hk:k=.free:=by simpa using hk
      rcases qo h with h | ⟨h1,h2⟩
      · rcases List.mem_cons.mp h with e | h
        · cases e;exact .inr ⟨hk ▸ List.mem_cons_self,rfl⟩
        · exact .inl h
      · exact .inr ⟨List.mem_cons_of_mem _ h1,h2⟩
    · rcases qo h with h | ⟨h1,h2⟩
      · exact .inl h
      · exact .inr ⟨List.mem_cons_of_mem _ h1,h2⟩
theorem Jx {cells:List (Str×Addr)}:∀{names:List (Str×NameKind)} {acc:List (Str×Addr)} {p:Str×Addr},p∈acc->p∈yt cells names acc
  | [],_,_,h=>h
  | (m,k)::r,acc,p,h=>by
    unfold yt
    split
    · exact Jx (List.mem_cons_of_mem _ h)
    · exact Jx h
theorem Jt {cells:List (Str×Addr)}:∀{names:List (Str×NameKind)} {acc:List (Str×Addr)} {n:Str},(n,.free)∈names->(n,(cells.lookup n).getD 0)∈yt cells names acc
  | (m,k)::r,acc,n,h=>by
    unfold yt
    rcases List.mem_cons.mp h with e | h
    · cases e
      exact Jx List.mem_cons_self
    · split
      · exact Jt h
      · exact Jt h
theorem qC:∀{names:List (Str×NameKind)} {h:Heap} {acc:List (Str×Addr)} {x:Str} {c:Addr},(x,c)∈cellsFrom h.objs.size names acc ->
    (x,c)∈acc\/((x,.cell)∈names/\h.objs.size<=c/\CellAt (pushCells h names) c none)
  | [],_,_,_,_,h=>.inl h
  | (n,k)::r,h,acc,x,c,hm=>by
    unfold cellsFrom at hm
    unfold pushCells
    split at hm
    · rename_i hk
      rw [if_pos hk]
      have hk:k=.cell:=by simpa using hk
      rw [<-Heap.size_push h {cls:=.type "cell",data:=.cell none}] at hm
      rcases qC hm with hm | ⟨h1,h2,h3⟩
      · rcases List.mem_cons.mp hm with e | hm
        · cases e
          exact .inr ⟨hk ▸ List.mem_cons_self,Nat.le_refl _,_,pushCells_keeps r _ _ _ (Heap.get?_push_size _ rfl),rfl⟩
        · exact .inl hm
      · rw [Heap.size_push] at h2
        exact .inr ⟨List.mem_cons_of_mem _ h1,Nat.le_of_succ_le h2,h3⟩
    · rename_i hk
      rw [if_neg hk]
      rcases qC hm with hm | ⟨h1,h2,h3⟩
      · exact .inl hm
      · exact .inr ⟨List.mem_cons_of_mem _ h1,h2,h3⟩
theorem Ji:∀{names:List (Str×NameKind)} {n:Nat} {acc:List (Str×Addr)} {p:Str×Addr},p∈acc->p∈cellsFrom n names acc
  | [],_,_,_,h=>h
  | (m,k)::r,n,acc,p,h=>by
    unfold cellsFrom
    split
    · exact Ji (List.mem_cons_of_mem _ h)
    · exact Ji h
theorem Yl:∀{names:List (Str×NameKind)} {n:Nat} {acc:List (Str×Addr)} {x:Str},(x,.cell)∈names->∃c,(x,c)∈cellsFrom n names acc
  | (m,k)::r,n,acc,x,h=>by
    unfold cellsFrom
    rcases List.mem_cons.mp h with e | h
    · cases e
      exact⟨n,Ji List.mem_cons_self⟩
    · split
      · exact Yl h
      · exact Yl h
theorem Ys:∀{names:List (Str×NameKind)} {h:Heap} {acc:List (Str×Addr)} {x y:Str} {c:Addr},(∀p∈acc,p.2<h.objs.size)->(∀x y c,(x,c)∈acc->(y,c)∈acc->x=y) ->
    (x,c)∈cellsFrom h.objs.size names acc->(y,c)∈cellsFrom h.objs.size names acc->x=y
  | [],_,_,_,_,_,_,hi,h1,h2=>hi _ _ _ h1 h2
  | (n,k)::r,h,acc,x,y,c,hl,hi,h1,h2=>by
    unfold cellsFrom at h1 h2
    split at h1
    · rename_i hk
      rw [if_pos hk] at h2
      rw [<-Heap.size_push h {cls:=.type "cell",data:=.cell none}] at h1 h2
      refine Ys (h:=h.push _) (fun p hp=>?_) (fun x y c a b=>?_) h1 h2
      · rw [Heap.size_push]
        rcases List.mem_cons.mp hp with rfl | hp
        · exact Nat.lt_succ_self _
        · exact Nat.lt_succ_of_lt (hl p hp)
      · rcases List.mem_cons.mp a with e | a <;> rcases List.mem_cons.mp b with e' | b
        · cases e;cases e';rfl
        · cases e;exact absurd (hl _ b) (Nat.lt_irrefl _)
        · cases e';exact absurd (hl _ a) (Nat.lt_irrefl _)
        · exact hi _ _ _ a b
    · rename_i hk
      rw [if_neg hk] at h2
      exact Ys hl hi h1 h2
theorem Uz {M:Model} {A:Around} {E:Value->Shared->Prop} {s:Shared} {scope:Scope} {globals:Addr} {closure:List (Str×Addr)} {qual:Str} {func:Option Addr} {code:Value} {around:Env} {builtins:Addr} {Q:Env->Shared->Prop}
    (h:Q (newEnv scope s.heap.objs.size globals (cellsFrom (s.heap.objs.size+1) scope.names closure) qual func code (some around) builtins)
      {s with heap:=pushCells (s.heap.push {cls:=.type "dict",data:=.dict #[]}) scope.names}) :
    wpAny M A (newFunctionEnv scope globals closure [] qual func code (some around) builtins) Q E s:=by
  simp only [newFunctionEnv,Option.isSome_some,if_true]
  refine wpAny_bind (wpAny_alloc ?_)
  refine wpAny_bind (wpAny_layCells _ (fun n k c=>rfl) scope.names closure _ _ ?_)
  rw [show({s with heap:=s.heap.push {cls:=.type "dict",data:=.dict #[]}}:Shared).heap.objs.size=s.heap.objs.size+1 from Heap.size_push ..]
  rw [List.forIn_nil]
  exact wpAny_bind (wpAny_pure (wpAny_pure h))
theorem Jq {sc:Scope}:∀{names:List (Str×NameKind)} {x:Str} {k:NameKind},
    (names.map fun(n,k)=>if (k == NameKind.free && sc.kind == .function && sc.names.lookup n == some .cell) then (n,NameKind.cell) else (n,k)).lookup x=some k ->
    ∃k',names.lookup x=some k'/\(k=k'\/(k'=.free/\k=.cell))
  | [],_,_,h=>by simp at h
  | (n,k₀)::r,x,k,h=>by
    have ih:=@Jq sc r x k
    have h':List.lookup x ((if (k₀ == NameKind.free && sc.kind == .function && sc.names.lookup n == some .cell)=true then (n,NameKind.cell) else (n,k₀))::(r.map _))=some k:=h
    cases hx:x == n with
    | true=>
      simp only [List.lookup_cons,hx]
      by_cases hc:(k₀ == NameKind.free && sc.kind == .function && sc.names.lookup n == some .cell)=true
      · rw [if_pos hc] at h'
        simp only [List.lookup_cons,hx] at h'
        cases h'
        simp only [Bool.and_eq_true,beq_iff_eq] at hc
        exact⟨k₀,rfl,.inr ⟨hc.1.1,rfl⟩⟩
      · rw [if_neg hc] at h'
        simp only [List.lookup_cons,hx] at h'
        cases h'
        exact⟨_,rfl,.inl rfl⟩
    | false=>
      simp only [List.lookup_cons,hx]
      by_cases hc:(k₀ == NameKind.free && sc.kind == .function && sc.names.lookup n == some .cell)=true
      · rw [if_pos hc] at h'
        simp only [List.lookup_cons,hx] at h'
        exact ih h'
      · rw [if_neg hc] at h'
        simp only [List.lookup_cons,hx] at h'
        exact ih h'
structure BlkOk (N:List Str) (sc scope:Scope) (own:List (Str×Nat)):Prop where
  kind:scope.kind=.function
  uniq:∀y∈scope.names,scope.names.lookup y.1=some y.2
  ix:∀p∈own,N[p.2]? = some p.1
  free:∀y∈scope.names,y.2=.free->sc.names.lookup y.1=some .cell\/sc.names.lookup y.1=some .free
  own:∀y∈scope.names,y.2=.local\/y.2=.cell->y.1∈own.map (·.1)\/y.1∉N
def jb (σ:St):List Nat->St
  | []=>σ
  | v::vs=>(jb σ vs).set v none
theorem Jr (σ:St):∀vs:List Nat,(jb σ vs).length=σ.length
  | []=>rfl
  | v::vs=>by unfold jb;rw [List.length_set,Jr σ vs]
theorem Y9 {σ:St} {i:Nat} {x:V}:∀{vs:List Nat},(jb σ vs)[i]? = some (some x)->σ[i]? = some (some x)/\i∉vs
  | [],h=>⟨h,by simp⟩
  | v::vs,h=>by
    unfold jb at h
    by_cases hi:v=i
    · subst hi
      by_cases hv:v<(jb σ vs).length
      · rw [List.getElem?_set_self hv] at h;cases h
      · rw [List.getElem?_eq_none (by simpa using hv)] at h;cases h
    · rw [List.getElem?_set_ne hi] at h
      obtain⟨h1,h2⟩:=Y9 h
      exact⟨h1,by simp only [List.mem_cons,not_or];exact⟨fun e=>hi e.symm,h2⟩⟩
abbrev Cx.blk (X:Cx) (s:Shared) (H:Hp) (scope:Scope) (cenv:Env) (fp:List Addr):Cx:={X with s_0:=s,H_0:=H,env:=cenv,outer:=X.stack,ex:=fp,fn:=fun x=>scope.names.lookup x == some .cell,pn:=[],xe:=fun _ _=>False}
section
variable {X:Cx} {pins:List (Addr×Obj)} {σ:St} {H:Hp} {s:Shared}
theorem UB {scope:Scope} {own:List (Str×Nat)} {fp:List Addr} (I:Inv X pins σ H s) (ok:BlkOk X.N X.env.scope scope own) (hN:X.N.Nodup) (hfp:∀b∈fp,J4 X pins H b/\b<s.heap.objs.size) :
    Inv (X.blk s H scope (compEnvC scope (cellsFrom (s.heap.objs.size+1) scope.names (yt X.env.cells scope.names [])) s.heap.objs.size X.env) fp) [] (jb σ (own.map (·.2))) H {s with heap:=pushCells (s.heap.push {cls:=.type "dict",data:=.dict #[]}) scope.names}:=by
  have hfree:∀y∈scope.names,y.2=.free->∃c,X.env.cells.lookup y.1=some c:=fun y hy e=>by
    rcases ok.free y hy e with k | k
    · exact I.ok.has _ (.inl k)
    · exact I.ok.has _ (.inr k)
  generalize hcenv:compEnvC scope (cellsFrom (s.heap.objs.size+1) scope.names (yt X.env.cells scope.names [])) s.heap.objs.size X.env=cenv
  have kp:∀b o,s.heap.get? b=some o->(pushCells (s.heap.push {cls:=.type "dict",data:=.dict #[]}) scope.names).get? b=some o:=fun b o e=>pushCells_keeps _ _ _ _ (Heap.get?_push_of_some _ e)
  have hL:cenv.locals=s.heap.objs.size:=by rw [<-hcenv];rfl
  have hcl:cenv.cells=cellsFrom (s.heap.objs.size+1) scope.names (yt X.env.cells scope.names []):=by rw [<-hcenv];rfl
  have hsc:cenv.scope=relS scope X.env.scope:=by rw [<-hcenv];rfl
  rw [<-Heap.size_push s.heap {cls:=.type "dict",data:=.dict #[]}] at hcl
  have cm:∀{y c},(y,c)∈yt X.env.cells scope.names []->X.env.cells.lookup y=some c/\c<s.heap.objs.size:=fun {y c} hm=>by
    rcases qo hm with hm | ⟨h1,rfl⟩
    · cases hm
    · obtain⟨c,hc⟩:=hfree _ h1 rfl
      rw [hc]
      obtain⟨w,z⟩:=I.cell _ _ hc
      exact⟨rfl,z.lt⟩
  have mem:∀{y c},cenv.cells.lookup y=some c->(X.env.cells.lookup y=some c/\c<s.heap.objs.size)\/(s.heap.objs.size+1<=c/\CellAt (pushCells (s.heap.push {cls:=.type "dict",data:=.dict #[]}) scope.names) c none):=fun {y c} e=>by
    rw [hcl] at e
    rcases qC (PySem.mem_of_lookup e) with hm | ⟨_,h2,h3⟩
    · exact .inl (cm hm)
    · rw [Heap.size_push] at h2;exact .inr ⟨h2,h3⟩
  have look:∀{y},scope.names.lookup y=some .free->∃c,cenv.cells.lookup y=some c/\X.env.cells.lookup y=some c:=fun {y} hl=>by
    have hy:(y,NameKind.free)∈scope.names:=PySem.mem_of_lookup hl
    obtain⟨c',e'⟩:=JQ (Ji (names:=scope.names) (n:=(s.heap.push {cls:=.type "dict",data:=.dict #[]}).objs.size) (Jt (cells:=X.env.cells) (acc:=[]) hy))
    rw [<-hcl] at e'
    refine⟨c',e',?_⟩
    rw [hcl] at e'
    rcases qC (PySem.mem_of_lookup e') with hm | ⟨h1,_,_⟩
    · exact(cm hm).1
    · have:=ok.uniq _ h1
      rw [hl] at this;cases this
  have okB:(X.blk s H scope cenv fp).Ok:=by
    refine⟨I.ok.mod,by show cenv.scope.kind=_;rw [hsc];exact ok.kind,by show cenv.globals=_;rw [<-hcenv];exact I.ok.glob,by show cenv.builtins=_;rw [<-hcenv];exact I.ok.blt,by show s.heap.objs.size<=cenv.locals;rw [hL];exact Nat.le_refl _,
      fun y z c e1 e2=>?_,fun y hy=>?_,fun y c z e=>?_,I.ok.hd,I.ok.frames,.inl rfl,fun b hb=>⟨?_,fun y c e z=>?_⟩,I.bs,Nat.le_trans I.ok.bsz I.sz,fun b o e hb=>?_,fun b hb z=>?_,I.stack,I.stkFree⟩
    · have e1:cenv.cells.lookup y=some c:=e1
      have e2:cenv.cells.lookup z=some c:=e2
      rw [hcl] at e1 e2
      refine Ys (fun p hp=>?_) (fun y z c a b=>I.ok.inj y z c (cm a).1 (cm b).1) (PySem.mem_of_lookup e1) (PySem.mem_of_lookup e2)
      rw [Heap.size_push]
      exact Nat.lt_succ_of_lt (cm (y:=p.1) (c:=p.2) hp).2
    · show ∃c,cenv.cells.lookup y=some c
      have key:∀k,cenv.kindOf y=some k->(k=.cell\/k=.free)->∃c,cenv.cells.lookup y=some c:=fun k hk hk'=>by
        unfold Env.kindOf at hk
        rw [hsc] at hk
        obtain⟨k',e,r⟩:=Jq hk
        have:k'=.cell\/k'=.free:=by
          rcases r with rfl | ⟨rfl,_⟩
          · exact hk'
          · exact .inr rfl
        rcases this with rfl | rfl
        · obtain⟨c,hm⟩:=Yl (n:=(s.heap.push {cls:=.type "dict",data:=.dict #[]}).objs.size) (acc:=yt X.env.cells scope.names []) (PySem.mem_of_lookup e)
          obtain⟨c',e'⟩:=JQ hm
          exact⟨c',by rw [hcl];exact e'⟩
        · obtain⟨c,h1,_⟩:=look e
          exact⟨c,h1⟩
      rcases hy with hy | hy
      · exact key _ hy (.inl rfl)
      · exact key _ hy (.inr rfl)
    · have z:(scope.names.lookup y == some NameKind.cell)=true:=z
      have z:scope.names.lookup y=some .cell:=by simpa using z
      have e:cenv.cells.lookup y=some c:=e
      rw [hcl] at e
      rcases qC (PySem.mem_of_lookup e) with hm | ⟨_,h2,_⟩
      · rcases qo hm with hm | ⟨h1,_⟩
        · cases hm
        · have q:=ok.uniq _ h1
          rw [z] at q;cases q
      · rw [Heap.size_push] at h2
        exact Nat.le_of_succ_le h2
    · show b≠cenv.locals
      rw [hL];exact Nat.ne_of_lt (hfp b hb).2
    · have e:cenv.cells.lookup y=some c:=e
      rcases mem e with ⟨h1,_⟩ | ⟨h1,_⟩
      · exact(hfp b hb).1.2.2.2.2.1 y c h1 z
      · have h2:s.heap.objs.size+1<=b:=by rw [<-z];exact h1
        exact absurd (Nat.lt_of_lt_of_le (hfp b hb).2 (Nat.le_of_succ_le h2)) (Nat.lt_irrefl _)
    · rcases (hfp b hb).1.2.2.2.1 with z | z
      · exact I.ok.noex b o e z
      · exact absurd (Nat.lt_of_lt_of_le (Heap.lt_size e) (Nat.le_trans I.ok.bsz z)) (Nat.lt_irrefl _)
    · rcases List.mem_cons.mp (I.stkSub b z) with z | z
      · exact(hfp b hb).1.2.1 z
      · exact(hfp b hb).1.2.2.1 z
  refine⟨okB,rfl,I.bare,Un.kept kp,⟨fun _=>none,?_,fun i y av e1 e2 e3=>?_⟩,fun y c e=>?_,?_,fun y c e=>?_,fun p hp=>?_,I.hok.kept kp,by rw [Jr];exact I.len⟩
  · show Heap.Ns _ cenv.locals _
    rw [hL]
    exact Heap.Ns.keeps (Heap.Ns.new ..) fun b o e=>pushCells_keeps _ _ _ _ e
  · obtain⟨e2,hne⟩:=Y9 e2
    have hfr:scope.names.lookup y=some .free/\(cenv.kindOf y=some .cell\/cenv.kindOf y=some .free):=by
      have key:∀k,cenv.scope.names.lookup y=some k->k=.local\/k=.cell\/k=.free->scope.names.lookup y=some .free/\(cenv.kindOf y=some .cell\/cenv.kindOf y=some .free):=fun k hk hk'=>by
        have hk0:=hk
        rw [hsc] at hk
        obtain⟨k',e,r⟩:=Jq hk
        have no:¬(k'=.local\/k'=.cell):=fun hh=>by
          rcases ok.own _ (PySem.mem_of_lookup e) hh with e' | e'
          · obtain⟨p,hp,hpy⟩:=List.mem_map.mp e'
            have e3:=ok.ix p hp
            have:p.1=y:=hpy
            rw [this] at e3
            exact hne (List.mem_map.mpr ⟨p,hp,YU hN e3 e1⟩)
          · exact e' (List.mem_of_getElem? e1)
        rcases r with rfl | ⟨rfl,rfl⟩
        · rcases hk' with rfl | rfl | rfl
          · exact absurd (.inl rfl) no
          · exact absurd (.inr rfl) no
          · exact⟨e,.inr hk0⟩
        · exact⟨e,.inl hk0⟩
      have e3:Vis cenv.scope y:=e3
      rcases e3 with e3 | e3 | e3
      · exact key _ e3 (.inl rfl)
      · exact key _ e3 (.inr (.inl rfl))
      · exact key _ e3 (.inr (.inr rfl))
    obtain⟨m,hn,hl⟩:=I.loc
    have hvis:Vis X.env.scope y:=(ok.free _ (PySem.mem_of_lookup hfr.1) rfl).elim (fun k=>.inr (.inl k)) (fun k=>.inr (.inr k))
    obtain⟨w,r,q⟩:=hl i y av e1 e2 hvis
    refine⟨w,r,.inr ⟨hfr.2,?_⟩⟩
    obtain⟨c,h1,h2⟩:=look hfr.1
    rcases q with ⟨k,_⟩ | ⟨_,c',e',z⟩
    · have k:X.env.scope.names.lookup y=some .local:=k
      rcases ok.free _ (PySem.mem_of_lookup hfr.1) rfl with k' | k' <;> rw [show X.env.scope.names.lookup y=_ from k'] at k <;> cases k
    · rw [h2] at e';cases e'
      exact⟨c,h1,z.keeps kp⟩
  · have e:cenv.cells.lookup y=some c:=e
    rcases mem e with ⟨h1,_⟩ | ⟨_,z⟩
    · obtain⟨w,z⟩:=I.cell y c h1
      exact⟨w,z.keeps kp⟩
    · exact⟨_,z⟩
  · show H cenv.locals=none
    rw [hL];exact I.hok.fresh (Nat.le_refl _)
  · have e:cenv.cells.lookup y=some c:=e
    rcases mem e with ⟨h1,_⟩ | ⟨h1,_⟩
    · exact I.freeC y c h1
    · exact I.hok.fresh (Nat.le_of_succ_le h1)
  · exact absurd (show p∈([]:List (Addr×Obj))++[] from hp) (by simp)
theorem zcm {E:Value->Shared->Prop} {D:Addr} {xs:List V} {y:V} {v:Value} {Q:Value->Shared->Prop} (I:Inv X pins σ H s) (hD:H D=some (.lst xs)) (hz:xs.length<sizeLine) (r:zQ y v)
    (h:∀s',Inv X pins σ (upd H D (.lst (xs++[y]))) s'->Q .none s'):wpAny (model X.prog X.w) X.A (call (.builtin "list.append") [.ref D,v]) Q E s:=by
  obtain⟨hz',its,n,ri,e⟩:=I.hok D _ hD
  have hl:=ri.length
  refine append_at (hsz:=by rw [List.size_toArray];omega) e fun h' sb ho'=>?_
  refine h {s with heap:=h'} (I.write (t':=s.toks) (by rw [hD];trivial) (.inl rfl) (fun b u hb q=>(sb.2 b hb).trans q) ⟨_,ho'⟩ ⟨by rw [List.length_append];exact hz,its++[v],n+1,ri.append (.cons r .nil),?_⟩)
  rw [ho']
  simp
def PTs (X:Cx) (ifs:List Expr) (t:TT):Prop:=
  ∀(pins:List (Addr×Obj)) (s:Shared) (σ:St) (H:Hp) (Q:Bool->Hp->Prop),Inv X pins σ H s->t σ H Q ->
    wpAny (model X.prog X.w) X.A (forIn ifs true fun c r=>if r=true then do let ok <-isTrue c X.env (eval c X.env);pure (ForInStep.yield ok) else pure (ForInStep.yield r)) (TP X pins σ Q) X.xe s
def tYes:TT:=fun _ H Q=>Q true H
theorem Na:PTs X [] tYes:=fun _ _ _ H _ I h=>wpAny_tests_nil ⟨H,I,h⟩
end
theorem thnF {α:Type} {t:Sem α} {Q Q':α->Shared->Prop} {M:Model} {A:Around} {E:Value->Shared->Prop} {s:Shared} (h:wpAny M A t Q (fun _ _=>False) s) (hQ:∀a s,Q a s->Q' a s):wpAny M A t Q' E s:=wpAny_mono h hQ fun _ _ z=>False.elim z
theorem Ua {prog:Program} {w:World} {A:Around} {R:Result->Shared->Prop} {s:Shared} {elt target iter:Expr} {ifs:List Expr} {scope:Scope} {pos:Pos} {it acc:Value} {env:Env} (I:Nat->Shared->Prop)
    (turn:∀n s,I n s->wpAny (model prog w) A (pyNext it) (fun r s₁=>match r with
      | none=>R (.ok .next) s₁
      | some v=>wpAny (model prog w) A (letOwnedTupleGo target it v) (fun _ s₁'=>wpAny (model prog w) A (assign target env v) (fun _ s₂=>
          wpAny (model prog w) A (forIn ifs true fun c r=>if r=true then do let ok <-isTrue c env (eval c env);pure (ForInStep.yield ok) else pure (ForInStep.yield r)) (fun ok s₃=>
            if ok=true then wpAny (model prog w) A (eval elt env) (fun x s₄=>
              wpAny (model prog w) A (call (.builtin "list.append") [acc,x]) (fun _ s₅=>∃m,m<n/\I m s₅) (notedBy (model prog w) A env fun e s'=>R (.error e) s') s₄) (notedBy (model prog w) A env fun e s'=>R (.error e) s') s₃
            else ∃m,m<n/\I m s₃) (notedBy (model prog w) A env fun e s'=>R (.error e) s') s₂) (notedBy (model prog w) A env fun e s'=>R (.error e) s') s₁') (notedBy (model prog w) A env fun e s'=>R (.error e) s') s₁) (notedBy (model prog w) A env fun e s'=>R (.error e) s') s)
    (n:Nat) (h:I n s) :
    codeAny (model prog w) A (.compLoop (.ListComp elt [⟨target,iter,ifs,0⟩] scope pos) 0 it acc env) R s:=by
  refine codeAny_loop rfl I (fun n s hI=>?_) n h
  show wpAny _ A ((compTurn (.ListComp elt [⟨target,iter,ifs,0⟩] scope pos) 0 it acc env).onRaise (fun x=>do noteFrame x env;theTreesLotGoes x)) _ _ s
  refine wpAny_noted ?_
  rw [compTurn_list]
  refine wpAny_bind (wpAny_standAt (wpAny_bind (wpAny_mono (turn n s hI) (fun r s₁ h₁=>?_) fun _ _ h'=>h')))
  cases r with
  | none=>exact wpAny_pure h₁
  | some v=>
    refine wpAny_bind (wpAny_mono h₁ (fun _ s₁' h₁'=>?_) fun _ _ h'=>h')
    refine wpAny_bind (wpAny_mono h₁' (fun _ s₂ h₂=>wpAny_bind (wpAny_mono h₂ (fun ok s₃ h₃=>?_) fun _ _ h'=>h')) fun _ _ h'=>h')
    cases ok with
    | false=>exact wpAny_pure ⟨rfl,h₃⟩
    | true=>
      exact wpAny_bind (wpAny_bind (wpAny_mono h₃ (fun x s₄ h₄=>wpAny_bind (wpAny_mono h₄ (fun _ s₅ h₅=>wpAny_pure (wpAny_pure ⟨rfl,h₅⟩)) fun _ _ h'=>h')) fun _ _ h'=>h'))
section
variable {X:Cx}
def tLc (wi:TI) (g:TG) (tt:TT) (te:TE) (vs:List Nat):TE:=fun σ H Q=>wi σ H fun J H1=>∀D,H1 D=none->∃W:Nat->Nat->Hp->Prop,(∃m,W 0 m (upd H1 D (.lst [])))/\∀i m H,W i m H ->
  (J.stop i H/\Q (.ref D) H)\/(J.go i H/\∃Nx:Hp->Prop,(∀H',Nx H'->∃m',m'<m/\W (i+1) m' H')/\∀x H',J.yld i H x H'->g x (jb σ vs) H' fun σ2 H2=>jb σ2 vs=jb σ vs/\tt σ2 H2 fun b H3=>
    if b=true then te σ2 H3 fun y H4=>∃acc,H4 D=some (.lst acc)/\acc.length<sizeLine/\Nx (upd H4 D (.lst (acc++[y]))) else Nx H3)
theorem zbk {pins:List (Addr×Obj)} {s:Shared} {σ:St} {H:Hp} {Q:VK} {elt tg iter:Expr} {ifs:List Expr} {scope:Scope} {own:List (Str×Nat)} {pos pos':Pos} {wi:TI} {g:TG} {tt:TT} {te:TE} {use:Option (Value->Sem Unit)} {Qf:Value->Shared->Prop}
    (hc:X.calm=true) (hN:X.N.Nodup) (I:Inv X pins σ H s) (hi:PI X tg iter wi) (ok:BlkOk X.N X.env.scope scope own)
    (hg:∀(s:Shared) (H:Hp) (C:Addr) (cl:List (Str×Addr)) (fp:List Addr),PG (X.blk s H scope (compEnvC scope cl C X.env) fp) tg g) (ht:∀(s:Shared) (H:Hp) (C:Addr) (cl:List (Str×Addr)) (fp:List Addr),PTs (X.blk s H scope (compEnvC scope cl C X.env) fp) ifs tt)
    (he:∀(s:Shared) (H:Hp) (C:Addr) (cl:List (Str×Addr)) (fp:List Addr),PE (X.blk s H scope (compEnvC scope cl C X.env) fp) elt te) (hs:∀x,foldedSetIterable iter X.env x=pure x)
    (h:tLc wi g tt te (own.map (·.2)) σ H Q)
    (hRR:∀D C s' m H',Inv X pins σ H' s'->Q (.ref D) H'->s'.heap.Ns C m->J4 X pins H' C->compPost (model X.prog X.w) X.A X.xe use Qf (.ref D) C (.ok .next) s') :
    wpAny (model X.prog X.w) X.A (comprehension (.ListComp elt [⟨tg,iter,ifs,0⟩] scope pos) scope X.env pos' (newList []) false (eval iter X.env) use) Qf X.xe s:=by
  have hfree:∀y∈scope.names,y.2=.free->∃c,X.env.cells.lookup y.1=some c:=fun y hy e=>by
    rcases ok.free y hy e with k | k
    · exact I.ok.has _ (.inl k)
    · exact I.ok.has _ (.inr k)
  refine wpAny_comprehension_free (use:=use) rfl hs (ND hfree) ok.kind (fun y hy e=>by rw [ok.uniq y hy,e])
    (thn (hi pins s σ H _ I h) fun xv s1 hx=>thn hx fun itv s2 h2=>?_)
  obtain⟨it,fp,tn,J,H2,e,I2,T,st2,f2,q⟩:=h2
  subst e
  refine wpAny_newObj_type (Uz ?_) (by show 0<=sizeLine;decide)
  generalize hD:s2.heap.objs.size=D
  have hDn:H2 D=none:=I2.hok.fresh (Nat.le_of_eq hD)
  obtain⟨W,⟨m0,w0⟩,turn⟩:=q D hDn
  generalize hs3:({s2 with heap:=s2.heap.push {cls:=.type "list",data:=.seq ([]:List Value).toArray}}:Shared)=s3
  have I3:Inv X pins σ (upd H2 D (.lst [])) s3:=by
    rw [<-hs3]
    refine I2.laid (t':=s2.toks) (fun b o e=>Heap.get?_push_of_some _ e) (Nat.le_of_eq hD) ⟨Nat.zero_le _,[],0,.nil,?_⟩
    rw [<-hD]
    exact Heap.get?_push_size _ rfl
  have h3:s3.heap=s2.heap.push {cls:=.type "list",data:=.seq ([]:List Value).toArray}:=by rw [<-hs3]
  have sz:∀b∈fp,b<s2.heap.objs.size:=fun b hb=>by
    obtain⟨o,e,_⟩:=T.obj _ _ st2 b hb
    exact Heap.lt_size e
  have f3:∀b∈fp,J4 X pins (upd H2 D (.lst [])) b/\b<s3.heap.objs.size:=fun b hb=>by
    have hlt:=sz b hb
    refine⟨⟨?_,(f2 b hb).2⟩,by rw [h3,Heap.size_push];exact Nat.lt_succ_of_lt hlt⟩
    rw [z8 (by rw [<-hD];exact Nat.ne_of_lt hlt)]
    exact(f2 b hb).1
  have st3:tn 0 s3.heap:=T.keep _ _ _ st2 fun b _ o e=>by rw [h3];exact Heap.get?_push_of_some _ e
  have I4:=UB I3 ok hN f3
  have pg:=hg s3 (upd H2 D (.lst [])) s3.heap.objs.size (cellsFrom (s3.heap.objs.size+1) scope.names (yt X.env.cells scope.names [])) fp
  have pt:=ht s3 (upd H2 D (.lst [])) s3.heap.objs.size (cellsFrom (s3.heap.objs.size+1) scope.names (yt X.env.cells scope.names [])) fp
  have pe:=he s3 (upd H2 D (.lst [])) s3.heap.objs.size (cellsFrom (s3.heap.objs.size+1) scope.names (yt X.env.cells scope.names [])) fp
  show codeAny _ _ (.compStart (.ListComp elt [⟨tg,iter,ifs,0⟩] scope pos) 0 (.ref it) (.ref D) (compEnvC scope (cellsFrom (s3.heap.objs.size+1) scope.names (yt X.env.cells scope.names [])) s3.heap.objs.size X.env)) (compPost (model X.prog X.w) X.A X.xe use Qf (.ref D) s3.heap.objs.size) {s3 with heap:=pushCells (s3.heap.push {cls:=.type "dict",data:=.dict #[]}) scope.names}
  have nfp:∀b∈fp,(upd H2 D (.lst [])) b=none:=fun b hb=>(f3 b hb).1.1
  generalize hce:compEnvC scope (cellsFrom (s3.heap.objs.size+1) scope.names (yt X.env.cells scope.names [])) s3.heap.objs.size X.env=ce at I4 pg pt pe ⊢
  have cL:ce.locals=s3.heap.objs.size:=by subst hce;rfl
  generalize hH3:upd H2 D (.lst [])=H3 at I3 I4 pg pt pe w0 nfp f3
  generalize hs4:({s3 with heap:=pushCells (s3.heap.push {cls:=.type "dict",data:=.dict #[]}) scope.names}:Shared)=s4 at I4 ⊢
  have st4:tn 0 s4.heap:=T.keep _ _ _ st3 fun b _ o e=>by rw [<-hs4];exact pushCells_keeps _ _ _ _ (Heap.get?_push_of_some _ e)
  have stat:∀{σ':St} {H':Hp} {s':Shared},Inv (X.blk s3 H3 scope ce fp) [] σ' H' s'->(∀b∈fp,H' b=none)->∀b∈fp,J4 (X.blk s3 H3 scope ce fp) [] H' b:=fun {σ' H' s'} I' hn b hb=>
    ⟨hn b hb,(I'.ok.exf b hb).1,I'.ok.exfs b hb,.inl hb,fun x c e=>(I'.ok.exf b hb).2 x c e,fun p hp=>absurd (show p∈([]:List (Addr×Obj))++[] from hp) (by simp)⟩
  have loop:codeAny (model X.prog X.w) X.A (.compLoop (.ListComp elt [⟨tg,iter,ifs,0⟩] scope pos) 0 (.ref it) (.ref D) ce) (compPost (model X.prog X.w) X.A X.xe use Qf (.ref D) s3.heap.objs.size) s4:=by
    refine Ua (fun n s'=>∃i H',Inv (X.blk s3 H3 scope ce fp) [] (jb σ (own.map (·.2))) H' s'/\tn i s'.heap/\(∀b∈fp,H' b=none)/\W i n H') ?_ m0 ⟨0,H3,I4,st4,nfp,w0⟩
    rintro n s5 ⟨i,H5,I5,st5,n5,w5⟩
    rcases turn i n H5 w5 with ⟨stop,qq⟩ | ⟨go,Nx,hNx,step⟩
    · have td:=T.done (X.blk s3 H3 scope ce fp) rfl rfl rfl hc i [] s5 _ H5 (fun _ _=>False) I5 (stat I5 n5) st5 stop
      refine thnF td fun r s6 ⟨hr,I6⟩=>?_
      subst hr
      have I7:Inv X pins σ H5 s6:=I3.call' (ch:=fp) I6.os I6.base I6.hok I6.bare fun b hb=>⟨(f3 b hb).1.2.2.2.1,(f3 b hb).1.2.1,(f3 b hb).1.2.2.2.2.1,(f3 b hb).1.2.2.2.2.2⟩
      have nC:H5 s3.heap.objs.size=none:=by
        have z:H5 ce.locals=none:=I6.free
        rw [cL] at z
        exact z
      obtain⟨m,hn,_⟩:=I6.loc
      have hn:s6.heap.Ns ce.locals m:=hn
      rw [cL] at hn
      exact hRR D s3.heap.objs.size s6 m H5 I7 qq hn (I3.fpOk (Nat.le_refl _) nC)
    · have ti:=T.item (X.blk s3 H3 scope ce fp) rfl rfl rfl hc i [] s5 _ H5 (fun _ _=>False) I5 (stat I5 n5) st5 go
      refine thnF ti fun r s6 ⟨u,hr,h6⟩=>?_
      subst hr
      refine thnF h6 fun _ s7 ⟨x,H7,I7,r7,y7,st7,n7⟩=>?_
      have I7':=I7.pinned (stat I7 n7) (T.obj _ _ st7)
      refine thnF (pg _ s7 _ H7 x u _ I7' r7 (step x H7 y7)) fun _ s8 ⟨σ8,H8,I8,hw8,q8⟩=>?_
      refine thnF (pt _ s8 σ8 H8 _ I8 q8) fun b s9 ⟨H9,I9,q9⟩=>?_
      have fin:∀{s':Shared} {H':Hp},Inv (X.blk s3 H3 scope ce fp) ([]++pinsAt fp s7.heap) σ8 H' s'->Nx H'->∃m,m<n/\∃i H',Inv (X.blk s3 H3 scope ce fp) [] (jb σ (own.map (·.2))) H' s'/\tn i s'.heap/\(∀b∈fp,H' b=none)/\W i m H':=fun {s' H'} I' nx=>by
        obtain⟨m',hm,w'⟩:=hNx H' nx
        have pin':∀b∈fp,∀o,s7.heap.get? b=some o->s'.heap.get? b=some o/\H' b=none:=fun b hb o e=>
          let z:=I'.pin (b,o) (List.mem_append_right _ (List.mem_append_right _ (JS hb e)))
          ⟨z.1,z.2.1⟩
        have hl:(jb σ (own.map (·.2))).length=σ8.length:=by rw [<-hw8,Jr]
        refine⟨m',hm,i+1,H',(I'.unpinned (pins:=[])).weak hl (fun j v e=>?_),T.keep _ _ _ st7 fun b hb o e=>(pin' b hb o e).1,fun b hb=>?_,w'⟩
        · rw [<-hw8] at e
          exact(Y9 e).1
        · obtain⟨o,e,_⟩:=T.obj _ _ st7 b hb
          exact(pin' b hb o e).2
      cases b with
      | false=>
        simp only [Bool.false_eq_true,if_false] at q9 ⊢
        exact fin I9 q9
      | true=>
        simp only [if_true] at q9 ⊢
        refine thnF (pe _ s9 σ8 H9 _ I9 q9) fun z s10 ⟨yv,H10,I10,r10,acc,hD10,hz10,nx⟩=>?_
        exact zcm (X:=X.blk s3 H3 scope ce fp) I10 hD10 hz10 r10 fun s11 I11=>fin I11 nx
  exact codeAny_compStart_list loop (T.self X.A 0 _ _ _ st4 loop)
theorem zap {elt tg iter:Expr} {ifs:List Expr} {scope:Scope} {own:List (Str×Nat)} {pos:Pos} {wi:TI} {g:TG} {tt:TT} {te:TE} (hc:X.calm=true) (hN:X.N.Nodup) (hi:PI X tg iter wi) (ok:BlkOk X.N X.env.scope scope own)
    (hg:∀(s:Shared) (H:Hp) (C:Addr) (cl:List (Str×Addr)) (fp:List Addr),PG (X.blk s H scope (compEnvC scope cl C X.env) fp) tg g) (ht:∀(s:Shared) (H:Hp) (C:Addr) (cl:List (Str×Addr)) (fp:List Addr),PTs (X.blk s H scope (compEnvC scope cl C X.env) fp) ifs tt)
    (he:∀(s:Shared) (H:Hp) (C:Addr) (cl:List (Str×Addr)) (fp:List Addr),PE (X.blk s H scope (compEnvC scope cl C X.env) fp) elt te) (hs:∀x,foldedSetIterable iter X.env x=pure x:=by intro _;rfl) :
    PE X (.ListComp elt [⟨tg,iter,ifs,0⟩] scope pos) (tLc wi g tt te (own.map (·.2))):=by
  intro pins s σ H Q I h
  rw [eval_ListComp]
  refine zbk hc hN I hi ok hg ht he hs h fun D C s' m H' I' q hn f=>⟨m,hn,fun h'' sb=>?_⟩
  obtain⟨f0,f1,f2,f3,f4,f5⟩:=f
  exact⟨.ref D,H',I'.turned (t':=s'.toks) (fun b o hb e=>(sb.2 b hb).trans e) f0 f1 f3 f4 f5,rfl,q⟩
end
theorem N3 {K:PySem.W.Frag} {a:Addr} {xs:List V} {g:TG} {tt:TT} {te:TE} {vs:List Nat} {σ:St} {H1:Hp} {D:Addr} {Qd:Hp->Prop} (Pv:Nat->Hp->Prop) (h0:Pv 0 (upd H1 D (.lst []))) (hl:∀i H,i<=xs.length->Pv i H->SqL K H a xs)
    (hs:∀i x H,xs[i]? = some x->Pv i H->g x (jb σ vs) H fun σ2 H2=>jb σ2 vs=jb σ vs/\tt σ2 H2 fun b H3=>
      if b=true then te σ2 H3 fun y H4=>∃acc,H4 D=some (.lst acc)/\acc.length<sizeLine/\Pv (i+1) (upd H4 D (.lst (acc++[y]))) else Pv (i+1) H3) (hd:∀H,Pv xs.length H->Qd H) :
    ∃W:Nat->Nat->Hp->Prop,(∃m,W 0 m (upd H1 D (.lst [])))/\∀i m H,W i m H ->
      ((Itl K a).stop i H/\Qd H)\/((Itl K a).go i H/\∃Nx:Hp->Prop,(∀H',Nx H'->∃m',m'<m/\W (i+1) m' H')/\∀x H',(Itl K a).yld i H x H'->g x (jb σ vs) H' fun σ2 H2=>jb σ2 vs=jb σ vs/\tt σ2 H2 fun b H3=>
        if b=true then te σ2 H3 fun y H4=>∃acc,H4 D=some (.lst acc)/\acc.length<sizeLine/\Nx (upd H4 D (.lst (acc++[y]))) else Nx H3):=by
  refine⟨fun i m H=>m=xs.length - i/\i<=xs.length/\Pv i H,⟨xs.length,by simp,Nat.zero_le _,h0⟩,?_⟩
  rintro i m H ⟨rfl,hi,p⟩
  have q:=hl i H hi p
  by_cases hlt:i<xs.length
  · refine .inr ⟨⟨xs,xs[i],q,by simp [hlt]⟩,Pv (i+1),fun H' p'=>⟨xs.length - (i+1),by omega,rfl,hlt,p'⟩,fun x H' y=>?_⟩
    obtain⟨e,y⟩:=y
    subst e
    exact hs i x _ (y xs q) p
  · have e:i=xs.length:=by omega
    subst e
    exact .inl ⟨⟨xs,q,Nat.le_refl _⟩,hd H p⟩
def blkC (N:List Str) (sc scope:Scope) (own:List (Str×Nat)):Bool:=
  (match scope.kind with | .function=>true | _=>false) && (scope.names.all fun y=>decide (scope.names.lookup y.1=some y.2)) && (own.all fun p=>decide (N[p.2]? = some p.1)) &&
    (scope.names.all fun y=>match y.2 with
      | .free=>(match sc.names.lookup y.1 with | some .cell=>true | some .free=>true | _=>false)
      | .local=>decide (y.1∈own.map (·.1)) || decide (y.1∉N)
      | .cell=>decide (y.1∈own.map (·.1)) || decide (y.1∉N)
      | _=>true)
theorem VS {N:List Str} {sc scope:Scope} {own:List (Str×Nat)} (h:blkC N sc scope own=true):BlkOk N sc scope own:=by
  unfold blkC at h
  simp only [Bool.and_eq_true,List.all_eq_true,decide_eq_true_eq] at h
  obtain⟨⟨⟨h1,h2⟩,h3⟩,h4⟩:=h
  refine⟨?_,h2,h3,fun y hy e=>?_,fun y hy e=>?_⟩
  · split at h1
    · assumption
    · cases h1
  · have q:=h4 y hy
    simp only [e] at q
    split at q <;> first | exact .inl (by assumption) | exact .inr (by assumption) | cases q
  · have q:=h4 y hy
    rcases e with e | e <;> (simp only [e,Bool.or_eq_true,decide_eq_true_eq] at q;exact q)
end L2
namespace L2
open PySem PySem.Spec PyProof.Rows
section
variable {prog:Program} {w:World} {A:Around} {R:Result->Shared->Prop} {s:Shared} {elt t0 i0 t1 i1:Expr} {ifs0 ifs1:List Expr} {scope:Scope} {pos:Pos} {it acc:Value} {env:Env}
end
section
variable {X:Cx}
end
end L2
namespace L2
open PySem PySem.Spec PyProof.Rows
section
variable {κ:Type} [DecidableEq κ]
def yL (kvs:List (κ×V)) (k:κ):Option V:=(kvs.find? fun kv=>decide (kv.1=k)).map (·.2)
def yR (kvs:List (κ×V)) (k:κ) (v:V):List (κ×V):=
  if (kvs.any fun kv=>decide (kv.1=k))=true then kvs.map (fun kv=>if kv.1=k then (kv.1,v) else kv) else kvs++[(k,v)]
theorem xf {p:κ×V} {r:List (κ×V)} {k:κ} (e:p.1=k):yL (p::r) k=some p.2:=by simp [yL,List.find?_cons,e]
theorem xg {p:κ×V} {r:List (κ×V)} {k:κ} (e:¬p.1=k):yL (p::r) k=yL r k:=by simp [yL,List.find?_cons,e]
theorem jJ (k:κ):∀kvs:List (κ×V),(kvs.any fun kv=>decide (kv.1=k))=(yL kvs k).isSome
  | []=>rfl
  | p::r=>by
    rw [List.any_cons]
    by_cases e:p.1=k
    · simp only [xf e,decide_eq_true e,Bool.true_or,Option.isSome_some]
    · rw [xg e,decide_eq_false e,Bool.false_or];exact jJ k r
theorem Ux (k j:κ) (y:V):∀kvs:List (κ×V),yL (kvs.map fun kv=>if kv.1=k then (kv.1,y) else kv) j=(yL kvs j).map fun x=>if j=k then y else x
  | []=>rfl
  | p::r=>by
    have ih:=Ux k j y r
    rw [List.map_cons]
    by_cases h:p.1=k
    · rw [if_pos h]
      by_cases e:p.1=j
      · rw [xf (p:=(p.1,y)) e,xf e,Option.map_some,if_pos (e.symm.trans h)]
      · rw [xg (p:=(p.1,y)) e,xg e,ih]
    · rw [if_neg h]
      by_cases e:p.1=j
      · rw [xf (p:=p) e,xf e,Option.map_some,if_neg (fun z=>h (e.trans z))]
      · rw [xg (p:=p) e,xg e,ih]
theorem Vi (k j:κ) (y:V):∀kvs:List (κ×V),yL kvs k=none->yL (kvs++[(k,y)]) j=if j=k then some y else yL kvs j
  | [],_=>by
    by_cases e:k=j
    · rw [if_pos e.symm];exact xf (p:=(k,y)) e
    · rw [if_neg (fun z=>e z.symm)];exact xg (p:=(k,y)) e
  | p::r,hn=>by
    rw [List.cons_append]
    have hk:¬p.1=k:=fun z=>by rw [xf z] at hn;cases hn
    rw [xg hk] at hn
    have ih:=Vi k j y r hn
    by_cases e:p.1=j
    · rw [xf e,xf e,if_neg (fun z=>hk (e.trans z))]
    · rw [xg e,xg e,ih]
theorem IA (kvs:List (κ×V)) (k j:κ) (y:V):yL (yR kvs k y) j=if j=k then some y else yL kvs j:=by
  unfold yR
  by_cases a:(kvs.any fun kv=>decide (kv.1=k))=true
  · rw [if_pos a,Ux]
    rw [jJ] at a
    by_cases e:j=k
    · obtain⟨x,hx⟩:=Option.isSome_iff_exists.mp a
      rw [if_pos e,e,hx,Option.map_some,if_pos rfl]
    · rw [if_neg e]
      cases yL kvs j with
      | none=>rfl
      | some x=>rw [Option.map_some,if_neg e]
  · rw [if_neg a]
    refine Vi k j y kvs ?_
    rw [jJ] at a
    cases q:yL kvs k with
    | none=>rfl
    | some x=>rw [q] at a;exact(a rfl).elim
theorem Jp (kvs:List (κ×V)) (k:κ) (v:V):(yR kvs k v).length<=kvs.length+1:=by
  unfold yR
  split
  · rw [List.length_map];omega
  · rw [List.length_append,List.length_cons,List.length_nil];omega
theorem Uo {kvs:List (κ×V)} {k:κ} (v:V) (h:yL kvs k=none):yR kvs k v=kvs++[(k,v)]:=by
  unfold yR
  rw [jJ,h]
  exact if_neg (by decide)
theorem jz.isSome_eq {o:Option V} {u:Option Value} (r:jz o u):o.isSome=u.isSome:=by
  cases o with
  | none=>cases u with
    | none=>rfl
    | some _=>exact(show False from r).elim
  | some _=>cases u with
    | none=>exact(show False from r).elim
    | some _=>rfl
theorem KV.val {kvs:List (κ×V)} {vs:List (κ×Value)} (r:KV kvs vs) (k:κ):jz (yL kvs k) (valueAt vs k):=by
  unfold KV at r
  induction r with
  | nil=>exact True.intro
  | @cons p q ps qs h t ih=>
    obtain⟨h1,h2⟩:=h
    by_cases e:p.1=k
    · have e':q.1=k:=h1.symm.trans e
      have b:valueAt (q::qs) k=some q.2:=by simp [valueAt,List.find?_cons,e']
      rw [xf e,b];exact h2
    · have e':¬q.1=k:=fun z=>e (h1.trans z)
      have b:valueAt (q::qs) k=valueAt qs k:=by simp [valueAt,List.find?_cons,e']
      rw [xg e,b];exact ih
theorem KV.any {kvs:List (κ×V)} {vs:List (κ×Value)} (r:KV kvs vs) (k:κ):(kvs.any fun kv=>decide (kv.1=k))=vs.any fun kv=>decide (kv.1=k):=by
  unfold KV at r
  induction r with
  | nil=>rfl
  | cons h t ih=>rw [List.any_cons,List.any_cons,ih,h.1]
theorem KV.repl {kvs:List (κ×V)} {vs:List (κ×Value)} (r:KV kvs vs) (k:κ) {y:V} {u:Value} (ry:zQ y u) :
    KV (kvs.map fun kv=>if kv.1=k then (kv.1,y) else kv) (vs.map fun kv=>if kv.1=k then (kv.1,u) else kv):=by
  unfold KV at r ⊢
  induction r with
  | nil=>exact .nil
  | @cons p q ps qs h t ih=>
    rw [List.map_cons,List.map_cons]
    refine .cons ?_ ih
    obtain⟨h1,h2⟩:=h
    by_cases e:p.1=k
    · rw [if_pos e,if_pos (h1.symm.trans e)];exact⟨h1,ry⟩
    · rw [if_neg e,if_neg (fun z=>e (h1.trans z))];exact⟨h1,h2⟩
theorem KV.put {kvs:List (κ×V)} {vs:List (κ×Value)} (r:KV kvs vs) (k:κ) {y:V} {u:Value} (ry:zQ y u):KV (yR kvs k y) (stored vs k u):=by
  unfold yR stored
  rw [r.any k]
  by_cases e:(vs.any fun kv=>decide (kv.1=k))=true
  · rw [if_pos e,if_pos e];exact r.repl k ry
  · rw [if_neg e,if_neg e];exact Paired.snoc r ⟨rfl,ry⟩
theorem KV.length {kvs:List (κ×V)} {vs:List (κ×Value)} (r:KV kvs vs):kvs.length=vs.length:=Paired.length r
end
theorem Vx {P:Program} {w:World} {k:Key} {u:Value} (r:zQ (kV k) u):(yW P w).is k u=true:=by
  cases k with
  | inl i=>obtain⟨t,e⟩:=(show ∃t,u=Value.int i t from r);subst e;exact UK P w i t
  | inr x=>obtain⟨t,e⟩:=(show ∃t,u=Value.str x t from r);subst e;exact UF P w x t
theorem V6 {P:Program} {w:World}:∀{ks:List Key} {us:List Value},zH (ks.map kV) us->ItemsAre (yW P w) ks us
  | [],_,r=>by rw [List.map_nil] at r;cases r;exact .nil
  | k::ks,_,r=>by
    rw [List.map_cons] at r
    cases r with
    | cons h t=>exact .cons (Vx h) (V6 t)
abbrev KT (H:Hp):List (List Key×V)->List (List Key×Addr×Value)->Prop:=Paired fun p q=>p.1=q.1/\H q.2.1=some (.tup (p.1.map kV))/\zQ p.2 q.2.2
theorem KT.val {H:Hp} {kvs:List (List Key×V)} {xs:List (List Key×Addr×Value)} (r:KT H kvs xs) (k:List Key):jz (yL kvs k) ((atKey xs k).map (·.2)):=by
  induction r with
  | nil=>exact True.intro
  | @cons p q ps qs h t ih=>
    obtain⟨h1,_,h2⟩:=h
    by_cases e:p.1=k
    · have e':q.1=k:=h1.symm.trans e
      have b:atKey (q::qs) k=some q.2:=by simp [atKey,List.find?_cons,e']
      rw [xf e,b];exact h2
    · have e':¬q.1=k:=fun z=>e (h1.trans z)
      have b:atKey (q::qs) k=atKey qs k:=by simp [atKey,List.find?_cons,e']
      rw [xg e,b];exact ih
theorem KT.repl {H:Hp} {kvs:List (List Key×V)} {xs:List (List Key×Addr×Value)} (r:KT H kvs xs) (k:List Key) {y:V} {u:Value} (ry:zQ y u) :
    KT H (kvs.map fun kv=>if kv.1=k then (kv.1,y) else kv) (xs.map (putAt k u)):=by
  induction r with
  | nil=>exact .nil
  | @cons p q ps qs h t ih=>
    rw [List.map_cons,List.map_cons]
    refine .cons ?_ ih
    obtain⟨h1,h2,h3⟩:=h
    unfold putAt
    by_cases e:p.1=k
    · rw [if_pos e,if_pos (h1.symm.trans e)];exact⟨h1,h2,ry⟩
    · rw [if_neg e,if_neg (fun z=>e (h1.trans z))];exact⟨h1,h2,h3⟩
theorem KT.put {H:Hp} {kvs:List (List Key×V)} {xs:List (List Key×Addr×Value)} (r:KT H kvs xs) (k:List Key) {b:Addr} {y:V} {u:Value} (hb:H b=some (.tup (k.map kV))) (ry:zQ y u) :
    KT H (yR kvs k y) (storedH xs k b u):=by
  have e:(kvs.any fun kv=>decide (kv.1=k))=(atKey xs k).isSome:=by
    rw [jJ,(r.val k).isSome_eq,Option.isSome_map]
  unfold yR storedH
  rw [e]
  by_cases q:(atKey xs k).isSome=true
  · rw [if_pos q,if_pos q];exact r.repl k ry
  · rw [if_neg q,if_neg q];exact Paired.snoc r ⟨rfl,hb,ry⟩
theorem KT.keeps {H H':Hp} {kvs:List (List Key×V)} {xs:List (List Key×Addr×Value)} (r:KT H kvs xs) (ht:∀b ys,H b=some (.tup ys)->H' b=some (.tup ys)):KT H' kvs xs:=
  Paired.mapP r fun _ _ z=>⟨z.1,ht _ _ z.2.1,z.2.2⟩
section
variable {P:Program} {w:World} {H:Hp} {h:Heap} {a:Addr}
theorem zao {u:HO} (ok:HOk P w H h) (e:Rd H a u):yF P w H h a u:=e.ok ok
theorem Vy {kvs:List (Key×V)} (ok:HOk P w H h) (e:Rd H a (.dK kvs)):kvs.length<=sizeLine/\(a == sysModules)=false/\∃vs,KV kvs vs/\h.DictOf (yW P w) a vs:=
  show yF P w H h a (.dK kvs) from zao ok e
theorem zd6 {kvs:List (Key×V)} (ok:HOk P w H h) (e:H a=some (.dK kvs)):kvs.length<=sizeLine/\(a == sysModules)=false/\∃vs,KV kvs vs/\h.DictOf (yW P w) a vs:=Vy ok (.inl e)
theorem ZD {ks:List Key} (ok:HOk P w H h) (e:H a=some (.tup (ks.map kV))):(tupleKind (yW P w)).is h ks a:=by
  obtain⟨_,its,r,o,h1,h2,n,h3⟩:=(show yF P w H h a (.tup (ks.map kV)) from ok a _ e)
  exact⟨o,its.toArray,n,h1,h2,h3,by simpa using V6 r⟩
theorem VA {kvs:List (List Key×V)} (ok:HOk P w H h) (e:Rd H a (.dT kvs)):kvs.length<=sizeLine/\(a == sysModules)=false /\
    ∃xs,KT H kvs xs/\h.DictOfH (tupleKind (yW P w)) a xs:=by
  obtain⟨z,y,xs,r,o,es,ep,h1,h2,h3,h4,h5⟩:=(show yF P w H h a (.dT kvs) from zao ok e)
  refine⟨z,y,xs,r,o,es,ep,h1,h2,h3,h4,fun x hx=>?_,h5⟩
  have all:∀{l:List (List Key×V)} {m:List (List Key×Addr×Value)},KT H l m->∀x∈m,(tupleKind (yW P w)).is h x.1 x.2.1:=by
    intro l m q
    induction q with
    | nil=>intro x hx;exact nomatch hx
    | @cons p q ps qs hq t ih=>
      intro x hx
      rcases List.mem_cons.mp hx with e | hx
      · subst e
        exact ZD ok (by rw [<-hq.1];exact hq.2.1)
      · exact ih x hx
  exact all r x hx
theorem zd4 {kvs:List (List Key×V)} (ok:HOk P w H h) (e:H a=some (.dT kvs)):kvs.length<=sizeLine/\(a == sysModules)=false /\
    ∃xs,KT H kvs xs/\h.DictOfH (tupleKind (yW P w)) a xs:=VA ok (.inl e)
end
def qe (H:Hp) (a:Addr) (y:V) (r:Option V):Prop:=
  (∃kvs k,Rd H a (.dK kvs)/\y=kV k/\r=yL kvs k)\/∃kvs k b,Rd H a (.dT kvs)/\y=.ref b/\H b=some (.tup (k.map kV))/\r=yL kvs k
def DPut (H:Hp) (a:Addr) (y v:V) (H':Hp):Prop:=
  (∃kvs k,H a=some (.dK kvs)/\y=kV k/\kvs.length<sizeLine/\H'=upd H a (.dK (yR kvs k v))) \/
  ∃kvs k b,H a=some (.dT kvs)/\y=.ref b/\H b=some (.tup (k.map kV))/\kvs.length<sizeLine/\H'=upd H a (.dT (yR kvs k v))
theorem qe.t {H:Hp} {a b:Addr} {kvs:List (List Key×V)} {k:List Key} (e:H a=some (.dT kvs)) (eb:H b=some (.tup (k.map kV))):qe H a (.ref b) (yL kvs k):=.inr ⟨kvs,k,b,.inl e,rfl,eb,rfl⟩
theorem DPut.t {H:Hp} {a b:Addr} {kvs:List (List Key×V)} {k:List Key} {v:V} (e:H a=some (.dT kvs)) (eb:H b=some (.tup (k.map kV))) (hl:kvs.length<sizeLine) :
    DPut H a (.ref b) v (upd H a (.dT (yR kvs k v))):=.inr ⟨kvs,k,b,e,rfl,eb,hl,rfl⟩
section
variable {X:Cx} {pins:List (Addr×Obj)} {σ:St} {H:Hp} {s:Shared} {a:Addr} {y v:V} {u r:Value} {o:Option V} {A:Around} {E:Value->Shared->Prop}
theorem Inv.big (I:Inv X pins σ H s):sysModules<s.heap.objs.size:=by
  have h:mainGlobals<s.heap.objs.size:=(I.mod.glob.keeps I.bk).lt
  exact Nat.lt_trans (by decide) h
theorem OD {Q:Value->Shared->Prop} (hu:A.units+1<cLine) (I:Inv X pins σ H s) (g:qe H a y (some v)) (ry:zQ y u) (h:∀w' s',Inv X pins σ H s'->zQ v w'->Q w' s') :
    wpAny (model X.prog X.w) A (getItem (.ref a) u) Q E s:=by
  rcases g with ⟨kvs,k,e,ey,l⟩ | ⟨kvs,k,b,e,ey,eb,l⟩
  · subst ey
    obtain⟨z,hd,vs,rel,dd⟩:=Vy I.hok e
    obtain⟨w',hw,rw'⟩:=jz.some_of (v:=v) (o:=valueAt vs k) (by rw [l];exact rel.val k)
    exact wpAny_getItem_of (Vx ry) dd.mapOf hw (h w' _ (I.tok _) rw')
  · subst ey
    cases (show u=Value.ref b from ry)
    obtain⟨z,hd,xs,rel,dd⟩:=VA I.hok e
    obtain⟨w',hw,rw'⟩:=jz.some_of (v:=v) (o:=(atKey xs k).map (·.2)) (by rw [l];exact rel.val k)
    obtain⟨p,hp,hp2⟩:=Option.map_eq_some_iff.mp hw
    refine wpAny_getItem_heap (tupleKind_room_in1 hu) (ZD I.hok eb) dd hp ?_
    rw [hp2]
    exact h w' _ (I.tok _) rw'
theorem zb1 {Q:Value->Shared->Prop} (hu:A.units+1<cLine) (I:Inv X pins σ H s) (g:qe H a y o) (ry:zQ y u) (h:∀s',Inv X pins σ H s'->Q (.bool (!o.isSome)) s') :
    wpAny (model X.prog X.w) A (compareOp .NotIn u (.ref a)) Q E s:=by
  rcases g with ⟨kvs,k,e,ey,l⟩ | ⟨kvs,k,b,e,ey,eb,l⟩
  · subst ey
    obtain⟨z,hd,vs,rel,dd⟩:=Vy I.hok e
    refine wpAny_notIn_of (Vx ry) hd dd.mapOf ?_
    rw [<-(rel.val k).isSome_eq,<-l]
    exact h _ (I.tok _)
  · subst ey
    cases (show u=Value.ref b from ry)
    obtain⟨z,hd,xs,rel,dd⟩:=VA I.hok e
    refine wpAny_notIn_heap (tupleKind_room_in1 hu) (ZD I.hok eb) hd dd ?_
    have q:=(rel.val k).isSome_eq
    rw [Option.isSome_map] at q
    rw [<-q,<-l]
    exact h _ (I.tok _)
theorem N0 {h':Heap} {t':Nat} {ob:HO} (I:Inv X pins σ H s) (mu:Mut (H a)) (hs:Heap.SameBut a s.heap h') (he:∃q,h'.get? a=some q) (new:yF X.prog X.w (upd H a ob) h' a ob) :
    Inv X pins σ (upd H a ob) {s with heap:=h',toks:=t'}:=
  I.write (x:=a) (e:=a) mu (.inl rfl) (fun b q hb z=>(hs.2 b hb).trans z) he new
theorem zcs {P:Program} {w:World} {H':Hp} {h':Heap} {kvs:List (Key×V)} {vs:List (Key×Value)} (z:kvs.length<=sizeLine) (hd:(a == sysModules)=false) (rel:KV kvs vs) (dd:h'.DictOf (yW P w) a vs) :
    yF P w H' h' a (.dK kvs):=⟨z,hd,vs,rel,dd⟩
theorem Ov {H':Hp} {Q:Unit->Shared->Prop} (hu:A.units+1<cLine) (I:Inv X pins σ H s) (g:DPut H a y v H') (ry:zQ y u) (rv:zQ v r) (h:∀s',Inv X pins σ H' s'->Q () s') :
    wpAny (model X.prog X.w) A (setItem (.ref a) u r) Q E s:=by
  rcases g with ⟨kvs,k,e,ey,l,eH⟩ | ⟨kvs,k,b,e,ey,eb,l,eH⟩
  · subst ey eH
    obtain⟨z,hd,vs,rel,dd⟩:=zd6 I.hok e
    have hz:vs.length<=sizeLine:=by rw [<-rel.length];exact z
    have hl:(yR kvs k v).length<=sizeLine:=by have:=Jp kvs k v;omega
    refine wpAny_setItem_pairs (hsz:=hz) (Vx ry) dd fun h' dd' hs=>h _ ?_
    have he:∃q,h'.get? a=some q:=let ⟨q,_,_,hq,_⟩:=dd';⟨q,hq⟩
    exact N0 I (by rw [e];exact True.intro) hs he (zcs hl hd (rel.put k rv) dd')
  · subst ey eH
    cases (show u=Value.ref b from ry)
    obtain⟨z,hd,xs,rel,dd⟩:=zd4 I.hok e
    have hz:xs.length<=sizeLine:=by rw [<-Paired.length rel];exact z
    have hl:(yR kvs k v).length<=sizeLine:=by have:=Jp kvs k v;omega
    refine wpAny_setItem_heap (hsz:=hz) (tupleKind_room_in1 hu) (ZD I.hok eb) dd fun h' dd' hs=>h _ ?_
    obtain⟨q,es,ep,hq,h2,h3,h4,_,h5⟩:=dd'
    refine N0 I (by rw [e];exact True.intro) hs ⟨q,hq⟩ ⟨hl,hd,_,(rel.put k eb rv).keeps fun c ys ec=>?_,q,es,ep,hq,h2,h3,h4,h5⟩
    rw [z8 (zd2 ec e (fun z=>nomatch z))]
    exact ec
end
section
variable {X:Cx} {pins:List (Addr×Obj)} {σ:St} {H:Hp} {s:Shared} {a:Addr} {kvs:List (Key×V)} {k:Key} {u:Value} {A:Around} {E:Value->Shared->Prop}
end
def NoSl (i:Expr):Prop:=∀ov iv,subscripted i false ov iv=operate [ov,iv] (getItem ov iv)
theorem Nl {prog:Program} {w:World} {A:Around} {E:Value->Shared->Prop} {s:Shared} {env:Env} {value slice:Expr} {pos:Pos} {T id:String} {Q:Value->Shared->Prop}
    (hl:typeLookup (.type T) "__getitem__"=pure (some (.builtin id))) (hs:NoSl slice)
    (h:wpAny (model prog w) A (eval value env) (fun o s₁=>wpAny (model prog w) A (eval slice env) (fun i s₂=>s₂.TypeIs o T/\wpAny (model prog w) A (getItem o i) Q E s₂) E s₁) E s) :
    wpAny (model prog w) A (eval (.Subscript value slice pos) env) Q E s:=by
  refine Subscript_ (wpAny_mono h (fun o s₁ h₁=>wpAny_mono h₁ (fun i s₂ h₂=>?_) fun _ _ x=>x) fun _ _ x=>x)
  obtain⟨hT,h₂⟩:=h₂
  unfold subscriptTail
  refine wpAny_bind ?_
  rw [getitemInPython_of_ne hT.not_modules]
  refine wpAny_bind (wpAny_specialOf hT hl ?_)
  have fin:wpAny (model prog w) A (subscripted slice false o i) (fun r s₃=>wpAny (model prog w) A (letTemporaryGo value o r >>= fun _=>pure r) Q E s₃) E s₂:=by
    rw [hs o i]
    exact wpAny_operating (wpAny_mono h₂ (fun r s₃ h₃=>wpAny_bind (wpAny_letTemporaryGo (wpAny_pure h₃))) fun _ _ x=>x)
  first
    | exact wpAny_pure (wpAny_bind fin)
    | exact wpAny_bind (wpAny_pure (wpAny_bind fin))
    | exact wpAny_bind fin
theorem UG {X:Cx} {pins:List (Addr×Obj)} {σ:St} {H:Hp} {s:Shared} {a:Addr} {y:V} {o:Option V} (I:Inv X pins σ H s) (g:qe H a y o):s.TypeIs (.ref a) "dict":=by
  rcases g with ⟨kvs,k,e,_,_⟩ | ⟨kvs,k,b,e,_,_,_⟩
  · obtain⟨_,_,vs,_,dd⟩:=Vy I.hok e
    exact dd.typeIs
  · obtain⟨_,_,xs,_,dd⟩:=VA I.hok e
    exact dd.typeIs
def tDGet (td ty:TE):TE:=fun σ H Q=>td σ H fun x H1=>ty σ H1 fun y H2=>∃a v,x=.ref a/\qe H2 a y (some v)/\Q v H2
def tDNotIn (ty td:TE):TE:=fun σ H Q=>ty σ H fun y H1=>td σ H1 fun x H2=>∃a o,x=.ref a/\qe H2 a y o/\Q (.bl (!o.isSome)) H2
def sDPut (td ty tv:TE):TS:=fun D σ H=>tv σ H fun v H1=>td σ H1 fun x H2=>ty σ H2 fun y H3=>∃a H4,x=.ref a/\DPut H3 a y v H4/\D.nx σ H4
section
variable {X:Cx} {o i e value:Expr} {pos pos' tpos:Pos} {td ty tv:TE}
theorem N4 (hu:X.A.units+1<cLine) (ho:PE X o td) (hi:PE X i ty) (hs:NoSl i):PE X (.Subscript o i pos) (tDGet td ty):=by
  intro pins s σ H Q I h
  refine Nl PySem.F.slot_dict_getitem.lookup hs (thn (ho pins s σ H _ I h) fun u s1 ⟨x,H1,I1,rx,q1⟩=>thn (hi pins s1 σ H1 _ I1 q1) fun iv s2 ⟨y,H2,I2,ry,a,v,ex,g,q2⟩=>?_)
  subst ex
  obtain rfl:u=Value.ref a:=rx
  exact⟨UG I2 g,OD hu I2 g ry fun w' s3 I3 rw'=>⟨v,H2,I3,rw',q2⟩⟩
theorem Ol (hu:X.A.units+1<cLine) (hi:PE X i ty) (ho:PE X o td):PC X .NotIn i o (tDNotIn ty td):=by
  intro pins s σ H Q I h
  refine thn (hi pins s σ H _ I h) fun iv s1 ⟨y,H1,I1,ry,q1⟩=>thn (ho pins s1 σ H1 _ I1 q1) fun u s2 ⟨x,H2,I2,rx,a,ov,ex,g,q2⟩=>?_
  subst ex
  obtain rfl:u=Value.ref a:=rx
  exact zb1 hu I2 g ry fun s3 I3=>⟨.bl (!ov.isSome),H2,I3,rfl,q2⟩
theorem UR (hu:X.A.units+1<cLine) (ho:PE X o td) (hi:PE X i ty) (hv:PE X value tv) (hs:swapsWith value (some (.Subscript o i pos')) pos.line X.env=pure false) :
    PS X (.Assign [.Subscript o i pos'] value pos) (sDPut td ty tv):=by
  intro pins s σ H D I h
  refine wpAny_Assign_Subscript (thn (hv pins s σ H _ I h) fun r s1 ⟨v,H1,I1,rv,q1⟩=>thn (ho pins s1 σ H1 _ I1 q1) fun u s2 ⟨x,H2,I2,rx,q2⟩=>thn (hi pins s2 σ H2 _ I2 q2) fun iv s3 ⟨y,H3,I3,ry,a,H4,ex,g,q3⟩=>?_) hs
  subst ex
  obtain rfl:u=Value.ref a:=rx
  exact Ov hu I3 g ry rv fun s4 I4=>⟨σ,H4,I4,q3⟩
end
theorem za8 {P:Program} {w:World} {H:Hp} (h:Heap) (hb:sysModules<h.objs.size):yF P w H (h.push {cls:=.type "dict",data:=.dict #[]}) h.objs.size (.dT []):=
  ⟨Nat.zero_le _,beq_eq_false_iff_ne.mpr (Ne.symm (Nat.ne_of_lt hb)),[],.nil,_,#[],0,Heap.get?_push_size _ rfl,⟨rfl,rfl,rfl⟩,rfl,rfl,List.nodup_nil⟩
def tDNewT:TE:=fun _ H Q=>∀p,H p=none->Q (.ref p) (upd H p (.dT []))
section
variable {X:Cx} {pos:Pos}
theorem YV:PE X (.Dict [] [] pos) tDNewT:=fun pins s σ H Q I h=>
  wpAny_Dict_empty ⟨.ref s.heap.objs.size,_,I.laid (a:=s.heap.objs.size) (o:=.dT []) (t':=s.toks) (fun _ _ q=>Heap.get?_push_of_some _ q) (Nat.le_refl _) (za8 s.heap I.big),rfl,h _ (I.hok.fresh (Nat.le_refl _))⟩
end
section
variable {X:Cx} {pins:List (Addr×Obj)} {σ:St} {H:Hp} {s:Shared} {a:Addr} {y d:V} {u r:Value} {o:Option V} {A:Around} {E:Value->Shared->Prop}
end
section
variable {X:Cx} {o e f:Expr} {apos cpos:Pos} {td ty tx:TE}
end
section
variable {X:Cx} {pins:List (Addr×Obj)} {σ:St} {H:Hp} {s:Shared} {a:Addr} {kvs:List (Key×V)} {A:Around} {E:Value->Shared->Prop}
end
section
variable {X:Cx} {pins:List (Addr×Obj)} {σ:St} {H:Hp} {s:Shared} {a:Addr} {y:V} {u:Value} {A:Around} {E:Value->Shared->Prop}
end
end L2
namespace L2
open PySem PySem.Spec PyProof.Rows
section
variable {prog:Program} {w:World} {A:Around} {E:Value->Shared->Prop}
end
section
variable {X:Cx}
end
end L2
namespace L2
open PySem PySem.Spec PyProof.Rows
section
variable {X:Cx} {pins:List (Addr×Obj)} {σ:St} {H:Hp} {s:Shared} {h':Heap}
theorem Inv.turnedNew {t':Nat} {ch:List Addr} {T:Addr} {ob:HO} (I:Inv X pins σ H s) (k:∀b o,b∉ch->s.heap.get? b=some o->h'.get? b=some o) (hf:∀b∈ch,J4 X pins H b) (hT:s.heap.objs.size<=T)
    (new:yF X.prog X.w (upd H T ob) h' T ob):Inv X pins σ (upd H T ob) {s with heap:=h',toks:=t'}:=by
  have hn:H T=none:=I.hok.fresh hT
  have nit:∀b u,H b=some u->b∉ch:=fun b u e z=>by
    have q:=(hf b z).1
    rw [q] at e;cases e
  refine I.step (g':=s.gens) (d':=s.drawn) (ch:=ch) (fun b hb=>⟨(hf b hb).2.2.2.1,(hf b hb).2.1,(hf b hb).2.2.2.2.1,(hf b hb).2.2.2.2.2⟩) (fun b o _ _ hc e _=>k b o hc e) (fun b o _ _ hc e _=>⟨o.slots,k b o hc e⟩)
    (fun b o _ e n=>?_) (fun b o hc e=>⟨o,k b o hc e⟩) (fun b xs e=>?_) (fun b o u e=>?_) (fun b ps e=>⟨#[],?_⟩) (fun m hm=>?_) (fun b u e=>?_) I.bare
  · rw [z8 (Nat.ne_of_lt (Nat.lt_of_lt_of_le (Heap.lt_size e) hT))];exact n
  · rw [z8 (za e hn)];exact e
  · rw [z8 (za e hn)];exact e
  · rw [z8 (za e hn),e];simp
  · obtain⟨o,es,ep,ho,r⟩:=hm
    exact⟨o,es,ep,k _ o (fun z=>(hf _ z).2.1 rfl) ho,r⟩
  · by_cases hb:b=T
    · subst hb
      rw [z7] at e
      cases e
      exact new
    · rw [z8 hb] at e
      refine(I.hok b u e).stay (fun c v hc q=>k c v ?_ q) (fun c q=>by rw [z8 (za q hn)];exact q) fun c xs q=>by rw [z8 (za q hn)];exact q
      rcases hc with z | z
      · rw [z];exact nit b u e
      · exact nit c _ z
theorem Inv.lock {d:Addr} {u:HO} (I:Inv X pins σ H s) (h:H d=some u) (mu:Mut (some u)):∃od,Inv X pins σ (upd H d (.frz od u)) s:=by
  have x:=I.hok d u h
  have ex:∃od,s.heap.get? d=some od:=by
    cases u with
    | lst xs=>obtain⟨_,_,_,_,e⟩:=x;exact⟨_,e⟩
    | dK kvs=>obtain⟨_,_,_,_,o,_,_,e,_⟩:=x;exact⟨o,e⟩
    | dT kvs=>obtain⟨_,_,_,_,o,_,_,e,_⟩:=x;exact⟨o,e⟩
    | set S n=>obtain⟨o,_,_,_,e,_⟩:=x;exact⟨o,e⟩
    | ins C dx fs=>obtain⟨_,_,_,e,_⟩:=x;exact⟨_,e⟩
    | ext φ=>obtain⟨_,⟨_,e⟩,_⟩:=x;exact⟨_,e⟩
    | _=>exact False.elim mu
  obtain⟨od,e⟩:=ex
  have new:yF X.prog X.w (upd H d (.frz od u)) s.heap d (.frz od u):=by
    refine⟨e,x.stay (fun b v _ q=>q) (fun b q=>?_) fun b xs q=>?_⟩
    · rw [z8 (fun z=>by rw [z,h] at q;cases q;exact mu)];exact q
    · rw [z8 (fun z=>by rw [z,h] at q;cases q;exact mu)];exact q
  exact⟨od,I.write (x:=d) (e:=d) (t':=s.toks) (h':=s.heap) (by rw [h];exact mu) (.inl rfl) (fun b v _ q=>q) ⟨od,e⟩ new⟩
theorem Inv.nofrz {d:Addr} {u:HO} (I:Inv X pins σ H s) (h:H d=some u) (mu:Mut (some u)):∀o' u',X.H_0 d≠some (.frz o' u'):=fun o' u' e=>by
  have q:=I.base.frzs d o' u' e
  rw [h] at q
  cases q
  exact mu
theorem Inv.unlock {d:Addr} {od:Obj} {u:HO} (I:Inv X pins σ H s) (h:H d=some (.frz od u)) (hn:∀o' u',X.H_0 d≠some (.frz o' u')):Inv X pins σ (upd H d u) s:=by
  have neH:∀b o,H b=some o->(∀o' u',o≠.frz o' u')->b≠d:=fun b o e hne z=>by
    rw [z,h] at e
    cases e
    exact hne _ _ rfl
  have neN:∀b,H b=none->b≠d:=fun b e z=>by rw [z,h] at e;cases e
  refine⟨I.ok,I.os,I.bare,⟨I.base.keep,I.base.slot,fun b o e n hx=>?_,I.base.there,fun b xs e=>?_,fun b o x e=>?_,fun b ps e=>?_⟩,I.loc,I.cell,?_,fun x c e=>?_,fun p hp=>?_,fun b o e=>?_,I.len⟩
  · rw [z8 (neN b (I.base.free b o e n hx))];exact I.base.free b o e n hx
  · have q:=I.base.tups b xs e
    rw [z8 (neH b _ q (fun _ _ z=>nomatch z))];exact q
  · have q:=I.base.frzs b o x e
    rw [z8 (fun z=>by rw [z] at e;exact hn _ _ e)];exact q
  · obtain⟨m,q⟩:=I.base.tbls b ps e
    exact⟨m,by rw [z8 (neH b _ q (fun _ _ z=>nomatch z))];exact q⟩
  · rw [z8 (neN _ I.free)];exact I.free
  · rw [z8 (neN c (I.freeC x c e))];exact I.freeC x c e
  · obtain⟨e,n,r⟩:=I.pin p hp
    exact⟨e,by rw [z8 (neN _ n)];exact n,r⟩
  · by_cases hb:b=d
    · rw [hb,z7] at e
      cases e
      rw [hb]
      obtain⟨_,x⟩:=I.hok d _ h
      exact x.stay (fun c v _ q=>q) (fun c q=>by rw [z8 (neH c _ q (fun _ _ z=>nomatch z))];exact q) fun c xs q=>by rw [z8 (neH c _ q (fun _ _ z=>nomatch z))];exact q
    · rw [z8 hb] at e
      exact(I.hok b o e).stay (fun c v _ q=>q) (fun c q=>by rw [z8 (neH c _ q (fun _ _ z=>nomatch z))];exact q) fun c xs q=>by rw [z8 (neH c _ q (fun _ _ z=>nomatch z))];exact q
end
def tLock (t:TS):TS:=fun D σ H=>∃d u,H d=some u/\Mut (some u)/\∀od,t ⟨fun σ' H'=>H' d=some (.frz od u)/\D.nx σ' (upd H' d u),fun v H'=>H' d=some (.frz od u)/\D.rt v (upd H' d u),fun σ' H'=>H' d=some (.frz od u)/\D.bk σ' (upd H' d u),fun σ' H'=>H' d=some (.frz od u)/\D.ct σ' (upd H' d u)⟩ σ (upd H d (.frz od u))
section
variable {X:Cx}
theorem zb4 {st:Stmt} {t:TS} (h:PS X st t):PS X st (tLock t):=by
  intro pins s σ H D I hw
  obtain⟨d,u,hd,mu,hw⟩:=hw
  obtain⟨od,I1⟩:=I.lock hd mu
  refine thn (h pins s σ _ _ I1 (hw od)) fun f s1 q=>?_
  cases f with
  | next=>obtain⟨σ',H',I2,e,q⟩:=q;exact⟨σ',_,I2.unlock e (I.nofrz hd mu),q⟩
  | brk=>obtain⟨σ',H',I2,e,q⟩:=q;exact⟨σ',_,I2.unlock e (I.nofrz hd mu),q⟩
  | cont=>obtain⟨σ',H',I2,e,q⟩:=q;exact⟨σ',_,I2.unlock e (I.nofrz hd mu),q⟩
  | ret v=>obtain⟨x,σ',H',I2,r,e,q⟩:=q;exact⟨x,σ',_,I2.unlock e (I.nofrz hd mu),r,q⟩
theorem VV {tg:Expr} {pins:List (Addr×Obj)} {σ:St} {H:Hp} {s:Shared} {R:It->Hp->Prop} {J:It} {tn:Nat->Heap->Prop} {tk:Nat} (I:Inv X pins σ H s) (o:Obj)
    (T:Z3 X.prog X.w X.K tg J [s.heap.objs.size] s.heap.objs.size tn) (st:tn 0 (s.heap.push o)) (q:R J H):PIE X pins σ tg R (.ref s.heap.objs.size) {s with heap:=s.heap.push o,toks:=tk}:=by
  refine⟨s.heap.objs.size,[s.heap.objs.size],tn,J,H,rfl,I.kept fun b ob e=>Heap.get?_push_of_some _ e,T,st,fun b hb=>?_,q⟩
  have e:b=s.heap.objs.size:=by simpa using hb
  subst e
  exact I.fpOk (Nat.le_refl _) (I.hok.fresh (Nat.le_refl _))
end
def Itc (lo c:Int) (n:Nat):It:=⟨fun i _=>i<n,fun i H x H'=>H'=H/\x=.int (lo+(i:Nat)*c),fun i _=>n<=i⟩
theorem UH {P:Program} {w:World} {K:PySem.W.Frag} {tg:Expr} (it:Addr) (lo c:Int) (n:Nat):Z3 P w K tg (Itc lo c n) [it] it (fun i h=>IsRangeIter h it (lo+(i:Nat)*c) ((n:Int) - (i:Nat)) c) where
  mem:=by simp
  obj:=fun i h st b hb=>by
    have e:b=it:=by simpa using hb
    subst e
    exact⟨_,st,fun v z=>nomatch z⟩
  keep:=fun i h h' st k=>k it (by simp) _ st
  item:=by
    intro X hP hw hK hc i pins s σ H E I hf st hg
    subst hP hw hK
    obtain⟨f0,f1,f2,f3,f4,f5⟩:=hf it (by simp)
    have W:=Walks.range (prog:=X.prog) (w:=X.w) (I.ok.hd hc) it lo c n
    refine W.item i s _ _ hg st fun v h' tk hv st' kk=>?_
    obtain⟨t,rfl⟩:=hv
    have I1:Inv X pins σ H {s with heap:=h',toks:=tk}:=I.turned (fun b o hb e=>kk b o (by simpa using hb) e) f0 f1 f3 f4 f5
    exact⟨_,rfl,Vz (s:={s with heap:=h',toks:=tk}) (n:="range_iterator") st' rfl rfl (by decide) ⟨.int (lo+(i:Nat)*c),H,I1,⟨t,rfl⟩,⟨rfl,rfl⟩,st',fun b hb=>(hf b hb).1⟩⟩
  done:=by
    intro X hP hw hK hc i pins s σ H E I hf st hg
    subst hP hw hK
    obtain⟨f0,f1,f2,f3,f4,f5⟩:=hf it (by simp)
    exact wpAny_pyNext_range_end (I.ok.hd hc) st (by have:n<=i:=hg;omega) fun h' eb=>⟨rfl,I.turned (t':=s.toks) (fun b o hb e=>eb b o hb e) f0 f1 f3 f4 f5⟩
  self:=fun A i s Q E st h=>wpAny_pyIter_rangeiter st h
def RgC (i j c:Int) (n:Nat):Prop:=c≠0/\c.natAbs<1073741824/\Builtin.Range.small i j c=true/\Builtin.Range.rangeSize i j c=n
theorem RgC.neg {i j:Int} (ha:-(2 ^ 62)<=i) (ha':i<2 ^ 62) (hb:-(2 ^ 62)<=j) (hb':j<2 ^ 62):RgC i j (-1) (i - j).toNat:=
  ⟨by decide,by decide,PySem.W.small_down ha ha' hb hb',PySem.W.rangeSize_downNat i j⟩
def iRng3 (ta:TA):TI:=fun σ H R=>ta σ H fun vs H1=>∃(i j c:Int) (n:Nat),vs=[.int i,.int j,.int c]/\RgC i j c n/\R (Itc i c n) H1
section
variable {X:Cx} {tg:Expr}
theorem Yv {a b c:Expr} {ta:TA} {p pos:Pos} (hg:Gl X "range") (hm:X.mg "range"=none) (ha:PA X [a,b,c] ta)
    (hs:starEach [a,b,c] X.env=(false,eval a X.env)::starEach [b,c] X.env:=by rfl) (hpl:(backTo pos (starEach [b,c] X.env)).any (·.1)=false:=by rfl) :
    PI X tg (.Call (.Name "range" p) [a,b,c] [] pos) (iRng3 ta):=by
  intro pins s σ H R I h
  refine Call_ (U8 I hg hm boot_range (PyProof.Rows.callWith_type1 (thn (ha pos pins s σ H _ I h) fun us s1 ⟨vs,H1,I1,r1,q1⟩=>?_) hs hpl))
  obtain⟨i,j,k,n,e,⟨c0,c1,c2,c3⟩,q⟩:=q1
  subst e
  cases r1 with
  | cons r rr=>
    cases rr with
    | cons r' rr=>
      cases rr with
      | cons r'' rr=>
        cases rr
        obtain⟨t,rfl⟩:=r
        obtain⟨t',rfl⟩:=r'
        obtain⟨t'',rfl⟩:=r''
        refine call_range_3 c0 ?_ (.inl (PyProof.noPylong_small c1))
        refine wpAny_pyIter_range (IsRange.new ..) c2 ?_
        have I2:Inv X pins σ H1 {s1 with heap:=s1.heap.push {cls:=.type "range",data:=.fields #[.int i t,.int j t',.int k t'']}}:=I1.kept (t':=s1.toks) fun b o e=>Heap.get?_push_of_some _ e
        refine VV (tk:=s1.toks) I2 _ (UH _ i k n) ?_ q
        have e1:i+((0:Nat):Int)*k=i:=by simp
        have e2:(n:Int) - ((0:Nat):Int)=Builtin.Range.rangeSize i j k:=by rw [c3];simp
        show IsRangeIter _ _ (i+((0:Nat):Int)*k) ((n:Int) - ((0:Nat):Int)) k
        rw [e1,e2]
        exact Heap.get?_push_size _ rfl
end
theorem Y0 {lo c:Int} {n:Nat} {g:TG} {tb:TS} {D:Jl} {σ:St} {H:Hp} (Pv:Nat->St->Hp->Prop) (h0:Pv 0 σ H)
    (hs:∀i σ H,i<n->Pv i σ H->g (.int (lo+(i:Nat)*c)) σ H fun σ2 H2=>tb {D with nx:=Pv (i+1),ct:=Pv (i+1),bk:=D.nx} σ2 H2) (hd:∀σ H,Pv n σ H->D.nx σ H) :
    ∃W:Nat->Nat->St->Hp->Prop,(∃m,W 0 m σ H)/\∀i m σ H,W i m σ H ->
      ((Itc lo c n).stop i H/\D.nx σ H)\/((Itc lo c n).go i H/\∃N:St->Hp->Prop,(∀σ' H',N σ' H'->∃m',m'<m/\W (i+1) m' σ' H')/\∀x H',(Itc lo c n).yld i H x H'->g x σ H' fun σ2 H2=>tb {D with nx:=N,ct:=N,bk:=D.nx} σ2 H2):=by
  refine⟨fun i m σ H=>m=n - i/\i<=n/\Pv i σ H,⟨n,by simp,Nat.zero_le _,h0⟩,?_⟩
  rintro i m σ H ⟨rfl,hi,p⟩
  by_cases hlt:i<n
  · refine .inr ⟨hlt,Pv (i+1),fun σ' H' p'=>⟨n - (i+1),by omega,rfl,hlt,p'⟩,fun x H' y=>?_⟩
    obtain⟨e,y⟩:=y
    subst e y
    exact hs i σ _ hlt p
  · have e:i=n:=by omega
    subst e
    exact .inl ⟨Nat.le_refl _,hd σ H p⟩
section
variable {X:Cx} {tg:Expr}
end
section
variable {prog:Program} {w:World} {A:Around} {E:Value->Shared->Prop} {s:Shared}
theorem Vn {d:Addr} {o:Obj} {es:Array DictEntry} {ep:Nat} {Q:Value->Shared->Prop} (hd:(d == sysModules)=false) (ho:s.heap.get? d=some o) (hc:o.ExactDict) (hdat:o.data=.dict es ep)
    (hQ:Q (.ref s.heap.objs.size) {s with heap:=s.heap.push {cls:=.type "dict_keyiterator",data:=.fields #[.ref d,.int 0 0,.int es.size 0,.int ep 0]}}) :
    wpAny (model prog w) A (pyIter (.ref d)) Q E s:=by
  have hT:s.TypeIs (.ref d) "dict":=⟨o,ho,hc.1⟩
  refine wpAny_pyIter_slot hT F.slot_dict_iter (wpAny_call_entry F.slot_dict_iter hT F.entry_dict_iter ?_ (F.args_dict_iter_1 _))
  unfold Builtin.«dict.__iter__»
  refine wpAny_bind ?_
  unfold Builtin.Dict.dictSlotNone
  refine wpAny_bind (wpAny_notOrdered_dict hT ?_)
  show wpAny _ _ (pure (Value.ref d)) _ _ s
  refine wpAny_pure ?_
  show wpAny _ _ (Builtin.Dict.showsAll d >>= _) _ _ s
  unfold Builtin.Dict.showsAll
  rw [if_neg (by rw [hd];exact Bool.false_ne_true)]
  refine wpAny_bind (wpAny_pure ?_)
  refine wpAny_bind (wpAny_dictEntries ho hdat ?_)
  refine wpAny_bind (wpAny_dictEpoch ho hdat ?_)
  refine wpAny_bind (wpAny_newObj_type (wpAny_pure ⟨_,rfl,"dict_keyiterator",_,⟨_,Heap.get?_push_size _ rfl,rfl⟩,F.slot_dict_keyiterator_next.lookup,?_⟩))
  simpa [rawInt] using hQ
theorem Vv {it d:Addr} {i n ep:Nat} {od:Obj} {es:Array DictEntry} {en:DictEntry} {Q:Option Value->Shared->Prop} (hit:s.heap.IsKeyIter it d i n ep) (hod:s.heap.get? d=some od) (hdd:od.data=.dict es ep)
    (hsz:es.size=n) (hx:es[i]? = some en) (hQ:∀h',h'.IsKeyIter it d (i+1) n ep->Heap.SameBut it s.heap h'->Q (some en.key) {s with heap:=h'}):wpAny (model prog w) A (pyNext (.ref it)) Q E s:=by
  obtain⟨o,ho,hc,hd⟩:=id hit
  unfold pyNext
  refine wpAny_bind (wpAny_attempt (wpAny_callSpecial?_slot (name:=Str.ofString "__next__") hit.typeIs F.slot_dict_keyiterator_next
    (wpAny_call_entry F.slot_dict_keyiterator_next hit.typeIs F.entry_dict_keyiterator_next ?_ (F.args_dict_keyiterator_next_1 _))))
  refine wpAny_bind (wpAny_pure ?_)
  refine wpAny_bind ?_
  refine wpAny_bind ?_
  first | refine wpAny_bind (wpAny_typeNameOfWhole_keyiter hit.typeIs (wpAny_pure ?_)) | refine wpAny_bind (wpAny_typeNameOf_keyiter hit.typeIs (wpAny_pure ?_))
  refine wpAny_bind (wpAny_fieldsOf ho hd ?_)
  have hown:Builtin.Dict_items.ownsTuple "dict_keyiterator"=false:=by decide
  simp only [hown,Bool.false_eq_true,if_false]
  show wpAny _ _ (if (Value.ref d == Value.none)=true then _ else _) _ _ s
  rw [if_neg (show ¬((Value.ref d == Value.none)=true) from Bool.false_ne_true)]
  refine wpAny_bind (wpAny_pure ?_)
  refine wpAny_bind (wpAny_dictEntries hod hdd ?_)
  rw [if_neg (by rw [hsz];simp)]
  refine wpAny_bind (wpAny_pure ?_)
  refine wpAny_bind (wpAny_dictEpoch hod hdd ?_)
  rw [if_neg (by simp)]
  refine wpAny_pure ?_
  obtain⟨hlt',hen⟩:=Array.getElem?_eq_some_iff.mp hx
  simp only [show ¬((i:Int)<0) from by omega,if_false,Int.toNat_natCast,Array.getElem?_eq_getElem hlt']
  refine wpAny_bind ?_
  first | refine wpAny_bind (wpAny_typeNameOfWhole_keyiter hit.typeIs (wpAny_pure ?_)) | refine wpAny_bind (wpAny_typeNameOf_keyiter hit.typeIs (wpAny_pure ?_))
  refine wpAny_bind (wpAny_isOneOf_keyiter hit.typeIs ?_)
  show wpAny _ _ (setField (.ref it) 1 (rawInt ((i:Int)+1)) >>= _) _ _ s
  refine wpAny_bind (wpAny_setField ho hd (by simp) ?_)
  have hit':(s.heap.update it (Obj.mapFields (·.setIfInBounds 1 (rawInt ((i:Int)+1))))).IsKeyIter it d (i+1) n ep:=
    ⟨_,Heap.get?_update_self _ ho (Obj.isFreed_of_fields (Obj.data_mapFields hd _)),(Obj.cls_mapFields ..).trans hc,by rw [Obj.data_mapFields hd];simp [rawInt]⟩
  refine wpAny_bind (wpAny_holding ?_)
  refine wpAny_bind (wpAny_isOneOf_keyiter (s:={s with heap:=s.heap.update it (Obj.mapFields (·.setIfInBounds 1 (rawInt ((i:Int)+1))))}) hit'.typeIs ?_)
  show wpAny _ _ (pure es[i].key) _ _ _
  rw [hen]
  exact wpAny_pure (wpAny_pure ⟨_,rfl,wpAny_pure (hQ _ hit' (Heap.SameBut.update ..))⟩)
theorem Yf {it d:Addr} {i n ep:Nat} {od:Obj} {es:Array DictEntry} {Q:Option Value->Shared->Prop} (hh:A.handled=none) (hit:s.heap.IsKeyIter it d i n ep) (hod:s.heap.get? d=some od) (hdd:od.data=.dict es ep)
    (hsz:es.size=n) (hge:n<=i) (hQ:∀h',Heap.ExtBut it s.heap h'->Q none {s with heap:=h'}):wpAny (model prog w) A (pyNext (.ref it)) Q E s:=by
  obtain⟨o,ho,hc,hd⟩:=id hit
  unfold pyNext
  refine wpAny_bind (wpAny_attempt (wpAny_callSpecial?_slot (name:=Str.ofString "__next__") hit.typeIs F.slot_dict_keyiterator_next
    (wpAny_call_entry F.slot_dict_keyiterator_next hit.typeIs F.entry_dict_keyiterator_next ?_ (F.args_dict_keyiterator_next_1 _))))
  refine wpAny_bind (wpAny_pure ?_)
  refine wpAny_bind ?_
  refine wpAny_bind ?_
  first | refine wpAny_bind (wpAny_typeNameOfWhole_keyiter hit.typeIs (wpAny_pure ?_)) | refine wpAny_bind (wpAny_typeNameOf_keyiter hit.typeIs (wpAny_pure ?_))
  refine wpAny_bind (wpAny_fieldsOf ho hd ?_)
  have hown:Builtin.Dict_items.ownsTuple "dict_keyiterator"=false:=by decide
  simp only [hown,Bool.false_eq_true,if_false]
  show wpAny _ _ (if (Value.ref d == Value.none)=true then _ else _) _ _ s
  rw [if_neg (show ¬((Value.ref d == Value.none)=true) from Bool.false_ne_true)]
  refine wpAny_bind (wpAny_pure ?_)
  refine wpAny_bind (wpAny_dictEntries hod hdd ?_)
  rw [if_neg (by rw [hsz];simp)]
  refine wpAny_bind (wpAny_pure ?_)
  refine wpAny_bind (wpAny_dictEpoch hod hdd ?_)
  rw [if_neg (by simp)]
  refine wpAny_pure ?_
  have hge':es.size<=i:=by rw [hsz];exact hge
  simp only [show ¬((i:Int)<0) from by omega,if_false,Int.toNat_natCast,Array.getElem?_eq_none hge']
  refine wpAny_bind ?_
  first | refine wpAny_bind (wpAny_typeNameOfWhole_keyiter hit.typeIs (wpAny_pure ?_)) | refine wpAny_bind (wpAny_typeNameOf_keyiter hit.typeIs (wpAny_pure ?_))
  show wpAny _ _ (setField (.ref it) 0 .none >>= _) _ _ s
  refine wpAny_bind (wpAny_setField ho hd (by simp) ?_)
  show wpAny _ _ (newExc (.type "StopIteration") [] >>= _) _ _ _
  refine wpAny_bind ?_
  simp only [newExc,newTuple]
  refine wpAny_bind (wpAny_newObj_type ?_ (by size_fits))
  refine wpAny_bind (m:=firstArgMember _ _) (wpAny_of_eq (a:=Value.none) (by first | rfl | (simp only [firstArgMember];rfl)) ?_)
  refine wpAny_newObj_type ?_ (by size_fits)
  simp only [raiseNew]
  refine wpAny_bind (wpAny_handled ?_)
  rw [show A.in1.handled=none from hh]
  refine wpAny_bind (wpAny_pure (wpAny_throw ?_))
  refine wpAny_bind (wpAny_isInstance (T:="StopIteration") (b:=true) ⟨_,Heap.get?_push_size _ rfl,rfl⟩ isSubtype_stop ?_)
  exact wpAny_pure (hQ _ (((Heap.SameBut.update ..).extBut.push _).push _))
end
theorem zci {κ:Type} {kvs:List (κ×V)} {vs:List (κ×Value)} (h:KV kvs vs):∀{i:Nat} {k:κ} {v:V},kvs[i]? = some (k,v)->∃u,vs[i]? = some (k,u)/\zQ v u:=by
  unfold KV at h
  induction h with
  | nil=>intro i k v e;simp at e
  | @cons a b l₁ l₂ r t ih=>
    intro i k v e
    cases i with
    | zero=>
      simp only [List.getElem?_cons_zero,Option.some.injEq] at e
      subst e
      refine⟨b.2,?_,r.2⟩
      simp only [List.getElem?_cons_zero]
      exact congrArg some (Prod.ext r.1.symm rfl)
    | succ j=>
      simp only [List.getElem?_cons_succ] at e ⊢
      exact ih e
theorem NJ {α β:Type} {G:α->β->Prop} {l₁:List α} {l₂:List β} (h:Paired G l₁ l₂):∀{i:Nat} {a:α},l₁[i]? = some a->∃b,l₂[i]? = some b/\G a b:=by
  induction h with
  | nil=>intro i a e;simp at e
  | @cons a b l₁ l₂ r t ih=>
    intro i a' e
    cases i with
    | zero=>
      simp only [List.getElem?_cons_zero,Option.some.injEq] at e
      subst e
      exact⟨b,rfl,r⟩
    | succ j=>
      simp only [List.getElem?_cons_succ] at e ⊢
      exact ih e
theorem zak {k:Key} {u:Value} (h:Jh k u=true):zQ (kV k) u:=by
  rcases yM h with ⟨i,t,rfl,rfl⟩ | ⟨x,t,rfl,rfl⟩
  · exact⟨t,rfl⟩
  · exact⟨t,rfl⟩
section
variable {X:Cx} {pins:List (Addr×Obj)} {σ:St} {H:Hp} {s:Shared} {d:Addr} {o:Obj}
theorem Inv.frzK {kvs:List (Key×V)} (I:Inv X pins σ H s) (h:H d=some (.frz o (.dK kvs))) :
    (d == sysModules)=false/\s.heap.get? d=some o/\o.ExactDict/\∃(es:Array DictEntry) (ep:Nat) (vs:List (Key×Value)),o.data=.dict es ep/\es.size=kvs.length/\KV kvs vs/\s.heap.DictAt (yW X.prog X.w) d vs ep:=by
  obtain⟨hd,z,hs,vs,kv,o',es,ep,ho,hx,hdt,r⟩:=I.hok d _ h
  rw [hd] at ho
  cases ho
  refine⟨hs,hd,hx,es,ep,vs,hdt,?_,kv,o,es,hd,hx,hdt,r⟩
  have l1:=r.2.1.length
  have l2:kvs.length=vs.length:=Paired.length kv
  rw [Array.length_toList] at l1
  omega
theorem Inv.frzT {kvs:List (List Key×V)} (I:Inv X pins σ H s) (h:H d=some (.frz o (.dT kvs))) :
    (d == sysModules)=false/\s.heap.get? d=some o/\o.ExactDict/\∃(es:Array DictEntry) (ep:Nat),o.data=.dict es ep/\es.size=kvs.length /\
      ∀(i:Nat) (k:List Key) (v:V),kvs[i]? = some (k,v)->∃(en:DictEntry) (q:Addr),es[i]? = some en/\en.key=.ref q/\H q=some (.tup (k.map kV)):=by
  obtain⟨hd,z,hs,xs,pr,o',es,ep,ho,hx,hdt,he,_⟩:=I.hok d _ h
  rw [hd] at ho
  cases ho
  refine⟨hs,hd,hx,es,ep,hdt,?_,fun i k v e=>?_⟩
  · have l1:es.size=xs.length:=size_of_entries he
    have l2:kvs.length=xs.length:=Paired.length pr
    omega
  · obtain⟨b,hb,e1,e2,_⟩:=NJ pr e
    have q:=entry_at he i
    rw [hb] at q
    exact⟨_,b.2.1,q,rfl,e2⟩
end
def Itk (d:Addr) (o:Obj) (kvs:List (Key×V)):It:=
  ⟨fun i H=>H d=some (.frz o (.dK kvs))/\i<kvs.length,fun i H x H'=>H'=H/\∃k v,kvs[i]? = some (k,v)/\x=kV k,fun i H=>H d=some (.frz o (.dK kvs))/\kvs.length<=i⟩
def Itkt (d:Addr) (o:Obj) (kvs:List (List Key×V)):It:=
  ⟨fun i H=>H d=some (.frz o (.dT kvs))/\i<kvs.length,fun i H x H'=>H'=H/\∃(k:List Key) (v:V) (q:Addr),kvs[i]? = some (k,v)/\x=.ref q/\H q=some (.tup (k.map kV)),fun i H=>H d=some (.frz o (.dT kvs))/\kvs.length<=i⟩
theorem YK {o:Obj} {es es':Array DictEntry} {ep ep':Nat} (h:o.data=.dict es ep) (h':o.data=.dict es' ep'):es'=es/\ep'=ep:=by
  rw [h] at h'
  cases h'
  exact⟨rfl,rfl⟩
section
variable {P:Program} {w:World} {K:PySem.W.Frag} {tg:Expr} {d:Addr} {o:Obj} {es:Array DictEntry} {ep:Nat}
theorem Os {kvs:List (Key×V)} (it:Addr) (hod:o.data=.dict es ep):Z3 P w K tg (Itk d o kvs) [it] it (fun i h=>h.IsKeyIter it d i kvs.length ep) where
  mem:=by simp
  obj:=fun i h st b hb=>by
    have e:b=it:=by simpa using hb
    subst e
    obtain⟨oi,e,c,dd⟩:=st
    exact⟨oi,e,fun v z=>by rw [dd] at z;cases z⟩
  keep:=fun i h h' st k=>st.at fun oi e=>k it (by simp) oi e
  item:=by
    intro X hP hw hK hc i pins s σ H E I hf st hg
    subst hP hw hK
    obtain⟨hd,hi⟩:=hg
    obtain⟨f0,f1,f2,f3,f4,f5⟩:=hf it (by simp)
    obtain⟨hs,hgd,hx,es',ep',vs,hdt,hsz,kv,hm⟩:=I.frzK hd
    obtain⟨rfl,rfl⟩:=YK hod hdt
    obtain⟨⟨k,v⟩,hkv⟩:∃p,kvs[i]? = some p:=⟨kvs[i],List.getElem?_eq_getElem hi⟩
    obtain⟨u,hu,ru⟩:=zci kv hkv
    have hl:kvs.length=vs.length:=Paired.length kv
    rw [hl] at st
    refine wpAny_pyNext_dict_item st hm hu fun key h' hkey st' sb=>?_
    have I1:Inv X pins σ H {s with heap:=h'}:=I.turned (t':=s.toks) (fun b ob hb e=>(sb.2 b hb).trans e) f0 f1 f3 f4 f5
    obtain⟨oi,e,c,dd⟩:=id st'
    refine⟨key,rfl,Vz (s:={s with heap:=h'}) e c dd (by decide) ⟨kV k,H,I1,zak (show Jh k key=true from hkey),⟨rfl,k,v,hkv,rfl⟩,?_,fun b hb=>(hf b hb).1⟩⟩
    show h'.IsKeyIter it d (i+1) kvs.length _
    rw [hl]
    exact st'
  done:=by
    intro X hP hw hK hc i pins s σ H E I hf st hg
    subst hP hw hK
    obtain⟨hd,hi⟩:=hg
    obtain⟨f0,f1,f2,f3,f4,f5⟩:=hf it (by simp)
    obtain⟨hs,hgd,hx,es',ep',vs,hdt,hsz,kv,hm⟩:=I.frzK hd
    obtain⟨rfl,rfl⟩:=YK hod hdt
    exact Yf (I.ok.hd hc) st hgd hdt hsz hi fun h' eb=>⟨rfl,I.turned (t':=s.toks) (fun b ob hb e=>eb b ob hb e) f0 f1 f3 f4 f5⟩
  self:=fun A i s Q E st h=>wpAny_pyIter_keyiter st h
theorem Nw {kvs:List (List Key×V)} (it:Addr) (hod:o.data=.dict es ep):Z3 P w K tg (Itkt d o kvs) [it] it (fun i h=>h.IsKeyIter it d i kvs.length ep) where
  mem:=by simp
  obj:=fun i h st b hb=>by
    have e:b=it:=by simpa using hb
    subst e
    obtain⟨oi,e,c,dd⟩:=st
    exact⟨oi,e,fun v z=>by rw [dd] at z;cases z⟩
  keep:=fun i h h' st k=>st.at fun oi e=>k it (by simp) oi e
  item:=by
    intro X hP hw hK hc i pins s σ H E I hf st hg
    subst hP hw hK
    obtain⟨hd,hi⟩:=hg
    obtain⟨f0,f1,f2,f3,f4,f5⟩:=hf it (by simp)
    obtain⟨hs,hgd,hx,es',ep',hdt,hsz,ent⟩:=I.frzT hd
    obtain⟨rfl,rfl⟩:=YK hod hdt
    obtain⟨⟨k,v⟩,hkv⟩:∃p,kvs[i]? = some p:=⟨kvs[i],List.getElem?_eq_getElem hi⟩
    obtain⟨en,q,hen,hkey,hq⟩:=ent i k v hkv
    refine Vv st hgd hdt hsz hen fun h' st' sb=>?_
    have I1:Inv X pins σ H {s with heap:=h'}:=I.turned (t':=s.toks) (fun b ob hb e=>(sb.2 b hb).trans e) f0 f1 f3 f4 f5
    obtain⟨oi,e,c,dd⟩:=id st'
    exact⟨en.key,rfl,Vz (s:={s with heap:=h'}) e c dd (by decide) ⟨.ref q,H,I1,hkey,⟨rfl,k,v,q,hkv,rfl,hq⟩,st',fun b hb=>(hf b hb).1⟩⟩
  done:=by
    intro X hP hw hK hc i pins s σ H E I hf st hg
    subst hP hw hK
    obtain⟨hd,hi⟩:=hg
    obtain⟨f0,f1,f2,f3,f4,f5⟩:=hf it (by simp)
    obtain⟨hs,hgd,hx,es',ep',hdt,hsz,ent⟩:=I.frzT hd
    obtain⟨rfl,rfl⟩:=YK hod hdt
    exact Yf (I.ok.hd hc) st hgd hdt hsz hi fun h' eb=>⟨rfl,I.turned (t':=s.toks) (fun b ob hb e=>eb b ob hb e) f0 f1 f3 f4 f5⟩
  self:=fun A i s Q E st h=>by
    refine wpAny_pyIter_slot st.typeIs F.slot_dict_keyiterator_iter (wpAny_call_entry F.slot_dict_keyiterator_iter st.typeIs F.entry_dict_keyiterator_iter ?_ (F.args_dict_keyiterator_iter_1 _))
    show wpAny _ _ (ret (.ref it)) _ _ s
    exact wpAny_pure ⟨_,rfl,"dict_keyiterator",_,st.typeIs,F.slot_dict_keyiterator_next.lookup,h⟩
end
def iKeys (td:TE):TI:=fun σ H R=>td σ H fun x H1=>∃d o,x=.ref d/\((∃kvs,H1 d=some (.frz o (.dK kvs))/\R (Itk d o kvs) H1)\/∃kvs,H1 d=some (.frz o (.dT kvs))/\R (Itkt d o kvs) H1)
section
variable {X:Cx} {tg e:Expr} {td:TE} {apos cpos:Pos}
theorem zbr (he:PE X e td):PI X tg e (iKeys td):=by
  intro pins s σ H R I h
  refine thn (he pins s σ H _ I h) fun u s1 ⟨x,H1,I1,rx,d,o,ex,q⟩=>?_
  subst ex
  obtain rfl:u=Value.ref d:=rx
  rcases q with ⟨kvs,hd,q⟩ | ⟨kvs,hd,q⟩
  · obtain⟨hs,hgd,hx,es,ep,vs,hdt,hsz,kv,hm⟩:=I1.frzK hd
    refine Vn hs hgd hx hdt (VV (tk:=s1.toks) I1 _ (Os _ hdt) ⟨_,Heap.get?_push_size _ rfl,rfl,?_⟩ q)
    rw [hsz] <;> rfl
  · obtain⟨hs,hgd,hx,es,ep,hdt,hsz,ent⟩:=I1.frzT hd
    refine Vn hs hgd hx hdt (VV (tk:=s1.toks) I1 _ (Nw _ hdt) ⟨_,Heap.get?_push_size _ rfl,rfl,?_⟩ q)
    rw [hsz] <;> rfl
end
def Ite (K:PySem.W.Frag) (a:Addr):It:=
  ⟨fun i H=>∃(xs:List V) (x:V),SqL K H a xs/\xs[i]? = some x,fun i H v H'=>∃T x,v=.ref T/\H T=none/\H'=upd H T (.tup [.int (i:Nat),x])/\∀xs,SqL K H a xs->xs[i]? = some x,fun i H=>∃xs:List V,SqL K H a xs/\xs.length<=i⟩
theorem OY {P:Program} {w:World} {K:PySem.W.Frag} {elts:List Expr} {kk:Nat} {tpos:Pos} (a e it:Addr) :
    Z3 P w K (.Tuple elts kk tpos) (Ite K a) [e,it] e (fun i h=>(∃old,IsEnum h e it ((i:Nat):Int) old)/\h.IsListIter it a i/\e≠it) where
  mem:=by simp
  obj:=fun i h st b hb=>by
    obtain⟨⟨old,he⟩,⟨o,ho,hc,hd⟩,_⟩:=st
    have e':b=e\/b=it:=by simpa using hb
    rcases e' with z | z
    · rw [z];exact⟨_,he,fun v q=>nomatch q⟩
    · rw [z];exact⟨o,ho,fun v q=>by rw [hd] at q;cases q⟩
  keep:=fun i h h' st k=>let ⟨⟨old,he⟩,hi,hne⟩:=st;⟨⟨old,k e (by simp) _ he⟩,hi.at fun o q=>k it (by simp) o q,hne⟩
  item:=by
    intro X hP hw hK hc i pins s σ H E I hf st hg
    subst hP hw hK
    obtain⟨⟨old,he⟩,hit,hne⟩:=st
    obtain⟨xs,x,hq,hx⟩:=hg
    obtain⟨its,rv,p,hz⟩:=I.list hq
    obtain⟨u,hu,ru⟩:=rv.get hx
    have hel:e<s.heap.objs.size:=Heap.lt_size he
    have hil:it<s.heap.objs.size:=by obtain⟨_,q,_⟩:=hit;exact Heap.lt_size q
    refine wpAny_pyNext_enum_item he hit p.isList (x:=u) (by simpa using hu) hne fun h' ho hit' hT hsz hk=>?_
    refine⟨_,rfl,wpAny_letOwnedTupleGo_enum (s:={s with heap:=h',toks:=s.toks+1}) ho fun h'' he' sb=>?_⟩
    have hT2:h''.get? s.heap.objs.size=some {cls:=.type "tuple",data:=.seq #[.int i s.toks,u]}:=(sb.2 _ (Nat.ne_of_gt hel)).trans hT
    have new:yF X.prog X.w (upd H s.heap.objs.size (.tup [.int (i:Nat),x])) h'' s.heap.objs.size (.tup [.int (i:Nat),x]):=
      ⟨by show 2<=sizeLine;decide,[.int i s.toks,u],.cons ⟨_,rfl⟩ (.cons ru .nil),⟨_,hT2,rfl,_,rfl⟩⟩
    have I1:Inv X pins σ (upd H s.heap.objs.size (.tup [.int (i:Nat),x])) {s with heap:=h'',toks:=s.toks+1}:=
      I.turnedNew (ch:=[e,it]) (fun b ob hb q=>(sb.2 b (fun z=>hb (by simp [z]))).trans (hk b ob (fun z=>hb (by simp [z])) (fun z=>hb (by simp [z])) q)) hf (Nat.le_refl _) new
    refine⟨.ref s.heap.objs.size,_,I1,rfl,⟨_,x,rfl,I.hok.fresh (Nat.le_refl _),rfl,fun ys hy=>by rw [I.list_inj hy hq];exact hx⟩,⟨⟨u,?_⟩,hit'.at fun o q=>(sb.2 it (Ne.symm hne)).trans q,hne⟩,fun b hb=>?_⟩
    · have e1:((i+1:Nat):Int)=(i:Int)+1:=by omega
      rw [e1];exact he'
    · have hb':b<s.heap.objs.size:=by
        have e':b=e\/b=it:=by simpa using hb
        rcases e' with z | z
        · rw [z];exact hel
        · rw [z];exact hil
      rw [z8 (Nat.ne_of_lt hb')]
      exact(hf b hb).1
  done:=by
    intro X hP hw hK hc i pins s σ H E I hf st hg
    subst hP hw hK
    obtain⟨⟨old,he⟩,hit,hne⟩:=st
    obtain⟨xs,hq,hx⟩:=hg
    obtain⟨its,rv,p,hz⟩:=I.list hq
    obtain⟨f0,f1,f2,f3,f4,f5⟩:=hf it (by simp)
    have hl:=rv.length
    exact wpAny_pyNext_enum_end (I.ok.hd hc) he hit p.isList (by simp;omega) fun h' eb=>⟨rfl,I.turned (t':=s.toks) (fun b o hb q=>eb b o hb q) f0 f1 f3 f4 f5⟩
  self:=fun A i s Q E st h=>let ⟨⟨_,he⟩,_⟩:=st;wpAny_pyIter_enum he h
def iEnum (K:PySem.W.Frag) (ta:TA):TI:=fun σ H R=>ta σ H fun vs H1=>∃a xs,vs=[.ref a]/\SqL K H1 a xs/\R (Ite K a) H1
theorem UV {X:Cx} {e:Expr} {ta:TA} {p pos tpos:Pos} {elts:List Expr} {kk:Nat} (hg:Gl X "enumerate") (hm:X.mg "enumerate"=none) (ha:PA X [e] ta) (hs:starEach [e] X.env=[(false,eval e X.env)]:=by rfl) :
    PI X (.Tuple elts kk tpos) (.Call (.Name "enumerate" p) [e] [] pos) (iEnum X.K ta):=by
  intro pins s σ H R I h
  refine Call_ (U8 I hg hm boot_enumerate (PyProof.Rows.callWith_type1 (thn (ha pos pins s σ H _ I h) fun us s1 ⟨vs,H1,I1,r1,q1⟩=>?_) hs rfl))
  obtain⟨a,xs,ex,hq,q⟩:=q1
  subst ex
  cases r1 with
  | cons r rr=>
    cases rr
    cases r
    obtain⟨its,rv,p',hz⟩:=I1.list hq
    refine call_enumerate_list p'.isList fun h' he hit hsz hk=>wpAny_pyIter_enum he ?_
    have I2:Inv X pins σ H1 {s1 with heap:=h'}:=I1.kept (t':=s1.toks) hk
    refine⟨s1.heap.objs.size+1,[s1.heap.objs.size+1,s1.heap.objs.size],_,_,H1,rfl,I2,OY a (s1.heap.objs.size+1) s1.heap.objs.size,⟨⟨.none,he⟩,hit,Nat.succ_ne_self _⟩,fun b hb=>?_,q⟩
    have e':b=s1.heap.objs.size+1\/b=s1.heap.objs.size:=by simpa using hb
    have hle:s1.heap.objs.size<=b:=by
      rcases e' with z | z
      · rw [z];exact Nat.le_add_right _ _
      · rw [z];exact Nat.le_refl _
    exact I1.fpOk hle (I1.hok.fresh hle)
end L2
section
namespace Bits
open PySem PyProof.Rows
end Bits
end
section
namespace TL
open PySem PySem.Builtin PySem.Builtin.Str PySem.StrLaws
end TL
end
namespace L2
open PySem PySem.Spec PyProof.Rows
section
variable {X:Cx} {pins:List (Addr×Obj)} {σ:St} {H:Hp} {s:Shared} {Q:VK}
end
section
variable {X:Cx}
end
section
variable {X:Cx} {o e:Expr} {to te:TE}
end
end L2
namespace L2
open PySem PySem.Spec PyProof.Rows
section
variable {X:Cx}
end
end L2
namespace Att
open PySem PySem.W PySem.Calls PyProof.Rows
section
variable {prog:Program} {w:World} {A:Around} {E:Value->Shared->Prop} {s:Shared} {K:Frag}
end
end Att
namespace L2
open PySem PySem.Spec PyProof.Rows
end L2
namespace L2
open PySem PySem.Spec PyProof.Rows
end L2
namespace L2
open PySem PySem.Spec PyProof.Rows
def zK (s:Stmt) (j:Nat):Stmt:=match s with
  | .ClassDef _ _ _ body _ _ _ _ _ _ _=>body.getD j (.Pass ⟨0,0,0,0⟩)
  | _=>.Pass ⟨0,0,0,0⟩
def defArgs (s:Stmt):Arguments:=match s with
  | .FunctionDef _ a _ _ _ _ _ _ _ _=>a
  | _=>{posonlyargs:=[],args:=[],vararg:=none,kwonlyargs:=[],kw_defaults:=[],kwarg:=none,defaults:=[]}
def jN (s:Stmt):List Stmt:=match s with
  | .FunctionDef _ _ b _ _ _ _ _ _ _=>b
  | _=>[]
def zg (s:Stmt):Scope:=match s with
  | .FunctionDef _ _ _ _ _ _ sc _ _ _=>sc
  | _=>{kind:=.function,names:=[],isGenerator:=false,isCoroutine:=false}
abbrev CX0:CXT:=fun _ _ _ _ _ _=>False
abbrev E0:XK:=fun _ _ _=>False
theorem zk {X:Cx}:jp CX0 X E0:=fun _ _ _ _ _ _ _ h=>h.elim
structure Fun (K:PySem.W.Frag) (x qual:Str) (st:Stmt) (f:Addr) (fd:FuncData):Prop where
  ex:∃(oc:Value) (od:Option Addr) (kV doc pm:Value) (an:Option Addr) (cdv ct:Value) (osl:Array (Option Value)),
    fd=PySem.W.fnOf x qual (defArgs st) (jN st) (zg st) .none kV doc pm an cdv ct/\K.lookup f=some ⟨oc,od,.func fd,osl⟩/\PySem.W.codeIn K cdv qual=true
  kp:PySem.W.keepIn K (.ref f)=true
section
variable {P:Program} {w:World} {K:PySem.W.Frag} {mg:Str->Option Value} {base:Heap}
theorem Fun.ok {x qual:Str} {st:Stmt} {f:Addr} {fd:FuncData} {N ps:List Str} {k:Nat} {sp:Sp} (F:Fun K x qual st f fd) (S:zh N ps (zg st)) (len:∀vs H Q E,sp vs H Q E->vs.length=ps.length)
    (hbody:∀(cdv:Value) (A:Around) (outer:List Env) (s:Shared) (H:Hp) (vs:List V) (Q:VK) (E:XK),zJ k (A.deeper (envOfC qual (zg st) s.heap.objs.size f cdv))->sp vs H Q E ->
      ∃t,PSs (yP CX0 P w K mg base N qual (zg st) f cdv A outer s H E).nox (jN st) t/\t {nx:=fun _ H'=>Q .non H',rt:=Q} (start N vs) H):zj P w K mg base CX0 (k+1) f fd ps sp:=by
  obtain⟨oc,od,kV,doc,pm,an,cdv,ct,osl,rfl,lk,hcd⟩:=F.ex
  refine zaq lk hcd S len fun A outer s H vs Q E hr hsp=>?_
  obtain⟨t,h,q⟩:=hbody cdv A outer s H vs Q E hr hsp
  exact⟨t,h.nox,q⟩
theorem Fun.binds {x qual:Str} {st:Stmt} {f:Addr} {fd:FuncData} {ps:List Str} (F:Fun K x qual st f fd)
    (h:∀(kV doc pm:Value) (an:Option Addr) (cdv ct:Value) (us:List Value),us.length=ps.length->bindArgs (PySem.W.fnOf x qual (defArgs st) (jN st) (zg st) .none kV doc pm an cdv ct) ⟨us,[]⟩=pure (ps.zip us)):xS K fd ps []:=by
  obtain⟨oc,od,kV,doc,pm,an,cdv,ct,osl,rfl,lk,hcd⟩:=F.ex
  exact .all (h kV doc pm an cdv ct)
theorem zcy {x qual:Str} {st:Stmt} {f:Addr} {oc:Value} {od an:Option Addr} {osl:Array (Option Value)} {kV doc pm cdv ct:Value} (l:K.lookup f=some ⟨oc,od,.func (PySem.W.fnOf x qual (defArgs st) (jN st) (zg st) .none kV doc pm an cdv ct),osl⟩)
    (c:PySem.W.codeIn K cdv qual=true) (k:PySem.W.keepIn K (.ref f)=true):Fun K x qual st f (PySem.W.fnOf x qual (defArgs st) (jN st) (zg st) .none kV doc pm an cdv ct):=⟨⟨oc,od,kV,doc,pm,an,cdv,ct,osl,rfl,l,c⟩,k⟩
end
section
variable {X:Cx}
theorem pv (i:Nat) {x:Str} {pos:Pos} (hN:X.N[i]? = some x:=by rfl) (hv:Vis X.env.scope x:=by first | exact Or.inl rfl | exact Or.inr (Or.inl rfl) | exact Or.inr (Or.inr rfl)) (hd:(x == ("__debug__":Str))=false:=by decide)
    (hcd:(x == ("__classdict__":Str))=false:=by decide):PE X (.Name x pos) (js i):=O7 hN hv hd hcd
end
theorem zr {A B:Prop} (h:B):if false=true then A else B:=by
  rw [if_neg Bool.false_ne_true]
  exact h
theorem zu {A B:Prop} (h:A):if true=true then A else B:=by
  rw [if_pos rfl]
  exact h
def zd (H H':Hp):Prop:=∀b o,H b=some o->H' b=some o
theorem zd.refl (H:Hp):zd H H:=fun _ _ h=>h
theorem zd.trans {H H1 H2:Hp} (a:zd H H1) (b:zd H1 H2):zd H H2:=fun c o h=>b c o (a c o h)
theorem zd.free {H H':Hp} (e:zd H H') {l:Addr} (h:H' l=Option.none):H l=Option.none:=by
  cases q:H l with
  | none=>rfl
  | some o=>
    rw [e l o q] at h
    cases h
section
variable {κ:Type} [DecidableEq κ]
theorem zac {kvs:List (κ×V)} {k:κ} (h:yL kvs k=none):¬k∈kvs.map (·.1):=by
  intro m
  obtain⟨p,hp,e⟩:=List.mem_map.mp m
  have q:(kvs.any fun kv=>decide (kv.1=k))=true:=List.any_eq_true.mpr ⟨p,hp,decide_eq_true e⟩
  rw [jJ,h] at q
  exact absurd q (by simp)
theorem N1:∀{l:List κ} {k:κ},l.Nodup->¬k∈l->(l++[k]).Nodup
  | [],k,_,_=>by simp
  | a::r,k,h,hk=>by
    obtain⟨h1,h2⟩:=List.nodup_cons.mp h
    show(a::(r++[k])).Nodup
    refine List.nodup_cons.mpr ⟨fun m=>?_,N1 h2 fun m=>hk (List.mem_cons.mpr (Or.inr m))⟩
    rcases List.mem_append.mp m with q | q
    · exact h1 q
    · exact hk (List.mem_cons.mpr (Or.inl (List.mem_singleton.mp q).symm))
theorem Ng {kvs:List (κ×V)} {k:κ} (v:V) (hn:(kvs.map (·.1)).Nodup) (h:yL kvs k=none):((yR kvs k v).map (·.1)).Nodup:=by
  rw [Uo v h,List.map_append]
  exact N1 hn (zac h)
end
end L2
end
section
section
namespace L2
open PySem PySem.Spec PyProof.Rows
open PySem.W (WData Codec OpenSpec Well WellAll ReadsW ReadsAllW)
mutual
inductive Dw (K:PySem.W.Frag) (H:Hp):V->WData->Prop
 | non:Dw K H .non .none
 | bl (b:Bool):Dw K H (.bl b) (.bool b)
 | int (i:Int):Dw K H (.int i) (.int i)
 | str (x:Str):Dw K H (.str x) (.str x)
 | byt (b:Array UInt8):Dw K H (.byt b) (.bytes b.toList)
 | lst {a:Addr} {xs:List V} {ds:List WData}:SqL K H a xs->jG K H xs ds->Dw K H (.ref a) (.list ds)
 | tup {a:Addr} {xs:List V} {ds:List WData}:SqT K H a xs->jG K H xs ds->Dw K H (.ref a) (.tuple ds)
inductive jG (K:PySem.W.Frag) (H:Hp):List V->List WData->Prop
 | nil:jG K H [] []
 | cons {v:V} {vs:List V} {d:WData} {ds:List WData}:Dw K H v d->jG K H vs ds->jG K H (v::vs) (d::ds)
end
theorem dw_ints {K:PySem.W.Frag} {H:Hp}:∀ns:List Int,jG K H (ns.map V.int) (ns.map WData.int)
 | []=>.nil
 | n::r=>.cons (.int n) (dw_ints r)
theorem ints_dw {K:PySem.W.Frag} {H:Hp}:∀(ns:List Int) (xs:List V),jG K H xs (ns.map WData.int)->xs=ns.map V.int
 | [],xs,h=>by
  cases h
  rfl
 | n::r,xs,h=>by
  cases h with
  | cons h1 h2=>
   cases h1
   rw [ints_dw r _ h2] <;> rfl
section
variable {P:Program} {w:World} {K:PySem.W.Frag} {H:Hp} {h:Heap} {R:PySem.W.WRecords} {cl:Str->Option Addr}
theorem zc4 {a:Addr} {xs:List V} (hok:HOk P w H h) (KX:K.In h) (q:SqL K H a xs):∃(its:List Value) (o:Obj) (n:Nat),zH xs its/\h.get? a=some o/\o.cls=.type "list"/\o.data=.seq its.toArray n:=by
 rcases q with q | ⟨o,its,n,e,hc,_,hd,_,hv⟩
 ·obtain⟨_,its,n,hv,e⟩:=(show yF P w H h a (.lst xs) from q.ok hok)
  exact⟨its,_,n,hv,e,rfl,rfl⟩
 ·exact⟨its.toList,o,n,hv,KX _ _ e,hc,by simp [hd]⟩
theorem zc0 {a:Addr} {xs:List V} (hok:HOk P w H h) (KX:K.In h) (q:SqT K H a xs):∃(its:List Value) (o:Obj) (n:Nat),zH xs its/\h.get? a=some o/\o.cls=.type "tuple"/\o.data=.seq its.toArray n:=by
 rcases q with q | ⟨o,its,n,e,hc,hd,_,hv⟩
 ·obtain⟨_,its,hv,o,e,hc,n,hd⟩:=(show yF P w H h a (.tup xs) from q.ok hok)
  exact⟨its,o,n,hv,e,hc,hd⟩
 ·exact⟨its.toList,o,n,hv,KX _ _ e,hc,by simp [hd]⟩
mutual
theorem Dw.reads (hok:HOk P w H h) (KX:K.In h):∀(d:WData) (v:V) (u:Value),Dw K H v d->zQ v u->∃as,ReadsW R cl h u d as
 | .none,_,_,x,r=>by
  cases x
  cases r
  exact⟨_,ReadsW.none⟩
 | .bool b,_,_,x,r=>by
  cases x
  cases r
  exact⟨_,ReadsW.bool b⟩
 | .int i,_,_,x,r=>by
  cases x
  obtain⟨t,rfl⟩:=r
  exact⟨_,ReadsW.int i t⟩
 | .str s,_,_,x,r=>by
  cases x
  obtain⟨t,rfl⟩:=r
  exact⟨_,ReadsW.str s t⟩
 | .bytes b,_,_,x,r=>by
  cases x
  obtain⟨t,rfl⟩:=r
  exact⟨_,ReadsW.bytes _ t⟩
 | .list ds,_,_,x,r=>by
  cases x with
  | lst hs ha=>
   cases r
   obtain⟨its,o,n,rv,ho,hc,hd⟩:=zc4 hok KX hs
   obtain⟨as,hr⟩:=Dw.readsAll hok KX ds _ its ha rv
   exact⟨_,ReadsW.list ho hc hd hr⟩
 | .tuple ds,_,_,x,r=>by
  cases x with
  | tup hs ha=>
   cases r
   obtain⟨its,o,n,rv,ho,hc,hd⟩:=zc0 hok KX hs
   obtain⟨as,hr⟩:=Dw.readsAll hok KX ds _ its ha rv
   exact⟨_,ReadsW.tuple ho hc hd hr⟩
 | .float _,_,_,x,_=>by cases x
 | .dict _,_,_,x,_=>by cases x
 | .bytearray _,_,_,x,_=>by cases x
 | .set _,_,_,x,_=>by cases x
 | .frozenset _,_,_,x,_=>by cases x
 | .obj _ _,_,_,x,_=>by cases x
theorem Dw.readsAll (hok:HOk P w H h) (KX:K.In h):∀(ds:List WData) (vs:List V) (us:List Value),jG K H vs ds->zH vs us->∃as,ReadsAllW R cl h us ds as
 | [],_,_,x,r=>by
  cases x
  cases r
  exact⟨_,ReadsAllW.nil⟩
 | d::ds,_,_,x,r=>by
  cases x with
  | cons h1 h2=>
   cases r with
   | cons r1 r2=>
    obtain⟨as,q1⟩:=Dw.reads hok KX d _ _ h1 r1
    obtain⟨bs,q2⟩:=Dw.readsAll hok KX ds _ _ h2 r2
    exact⟨_,ReadsAllW.cons q1 q2⟩
end
end
mutual
def plW:WData->Bool
 | .none=>true
 | .bool _=>true
 | .int _=>true
 | .str _=>true
 | .bytes _=>true
 | .list xs=>qI xs
 | .tuple xs=>qI xs
 | _=>false
def qI:List WData->Bool
 | []=>true
 | x::r=>plW x && qI r
end
theorem U5 {α:Type} {f:α->WData} (h:∀a,plW (f a)=true):∀l:List α,qI (l.map f)=true
 | []=>rfl
 | x::r=>by
  show(plW (f x) && qI (r.map f))=true
  rw [h x,U5 h r] <;> rfl
theorem qz:∀(c:Codec) (a:c.denote),plW (c.enc a)=true
 | .unit,_=>rfl
 | .bool,_=>rfl
 | .int _ _,_=>rfl
 | .nat _ _,_=>rfl
 | .u8,_=>rfl
 | .bytes _ _,_=>rfl
 | .text _ _ _ _,_=>rfl
 | .list _ _ c,a=>U5 (fun x=>qz c x) a
 | .pair c d,a=>by
  show(plW (c.enc a.1) && (plW (d.enc a.2) && true))=true
  rw [qz c a.1,qz d a.2] <;> rfl
 | .triple c d e,a=>by
  show(plW (c.enc a.1) && (plW (d.enc a.2.1) && (plW (e.enc a.2.2) && true)))=true
  rw [qz c a.1,qz d a.2.1,qz e a.2.2] <;> rfl
 | .option c,none=>rfl
 | .option c,some x=>qz c x
theorem Vh:∀(cs:List Codec) (a:Codec.denoteAll cs),qI (Codec.encAll cs a)=true
 | [],_=>rfl
 | c::cs,a=>by
  show(plW (c.enc a.1) && qI (Codec.encAll cs a.2))=true
  rw [qz c a.1,Vh cs a.2] <;> rfl
theorem JW:∀{xs:List WData} {d:WData},d∈xs->d.weight<=WData.weightAll xs
 | [],d,h=>absurd h (by simp)
 | x::r,d,h=>by
  show d.weight<=x.weight+1+WData.weightAll r
  rcases List.mem_cons.mp h with e | m
  ·rw [e]
   omega
  ·have z:=JW m
   omega
def toV:Value->V
 | .none=>.non
 | .bool b=>.bl b
 | .int i _=>.int i
 | .str x _=>.str x
 | .bytes b _=>.byt b
 | .ref a=>.ref a
 | _=>.non
def OkU (A:List Addr):Value->Prop
 | .none=>True
 | .bool _=>True
 | .int _ _=>True
 | .str _ _=>True
 | .bytes _ _=>True
 | .ref a=>a∈A
 | _=>False
theorem OkU.mono {A B:List Addr} (h:∀a∈A,a∈B):∀{u:Value},OkU A u->OkU B u:=fun {u} x=>by
 cases u with
 | ref a=>exact h a x
 | none=>trivial
 | bool b=>trivial
 | int i t=>trivial
 | str s t=>trivial
 | bytes b t=>trivial
 | _=>exact False.elim x
theorem IY {A:List Addr} {u:Value} (x:OkU A u):zQ (toV u) u:=by
 cases u with
 | ref a=>rfl
 | none=>rfl
 | bool b=>rfl
 | int i t=>exact⟨t,rfl⟩
 | str s t=>exact⟨t,rfl⟩
 | bytes b t=>exact⟨t,rfl⟩
 | _=>exact False.elim x
theorem qg {A:List Addr}:∀{vs:List Value},(∀u∈vs,OkU A u)->zH (vs.map toV) vs
 | [],_=>.nil
 | u::r,h=>.cons (IY (h u (List.mem_cons_self ..))) (qg fun x hx=>h x (List.mem_cons_of_mem _ hx))
def jF (h:Heap) (A:List Addr) (a:Addr):Prop:=∃vs:List Value,vs.length<=sizeLine/\(∀u∈vs,OkU A u) /\
 (h.get? a=some {cls:=.type "list",data:=.seq vs.toArray}\/h.get? a=some {cls:=.type "tuple",data:=.seq vs.toArray})
theorem jF.mono {h:Heap} {A B:List Addr} {a:Addr} (k:∀a∈A,a∈B) (x:jF h A a):jF h B a:=by
 obtain⟨vs,h1,h2,h3⟩:=x
 exact⟨vs,h1,fun u hu=>(h2 u hu).mono k,h3⟩
theorem qt {P:Params} {h:Heap}:∀{vs:List Value} {ds:List WData},WellAll P h vs ds->vs.length=ds.length
 | _,_,.nil=>rfl
 | _,_,.cons _ b=>by
  show _+1=_+1
  rw [qt b]
theorem ZV {P:Params} {h:Heap} {v:Value} {ds:List WData} (x:Well P h v (.list ds)):∃(a:Addr) (vs:List Value),v=.ref a/\h.get? a=some {cls:=.type "list",data:=.seq vs.toArray}/\WellAll P h vs ds:=by
 cases x with
 | list ho hall=>exact⟨_,_,rfl,ho,hall⟩
theorem Zx {P:Params} {h:Heap} {v:Value} {ds:List WData} (x:Well P h v (.tuple ds)):∃(a:Addr) (vs:List Value),v=.ref a/\h.get? a=some {cls:=.type "tuple",data:=.seq vs.toArray}/\WellAll P h vs ds:=by
 cases x with
 | tuple ho hall=>exact⟨_,_,rfl,ho,hall⟩
theorem ZT {P:Params} {h:Heap} {us:List Value} {d:WData} {ds:List WData} (x:WellAll P h us (d::ds)):∃(v:Value) (vs:List Value),us=v::vs/\Well P h v d/\WellAll P h vs ds:=by
 cases x with
 | cons a b=>exact⟨_,_,rfl,a,b⟩
theorem UZ {n:Nat} (h:n<=1048576):n<=sizeLine:=Nat.le_trans h (by decide)
section
variable {P:Params} {h:Heap}
mutual
theorem za1:∀(d:WData) (v:Value),Well P h v d->plW d=true->d.weight<=1048576->∃A:List Addr,OkU A v/\∀a∈A,jF h A a
 | .none,_,x,_,_=>by
  cases x
  exact⟨[],trivial,fun a m=>absurd m (by simp)⟩
 | .bool b,_,x,_,_=>by
  cases x
  exact⟨[],trivial,fun a m=>absurd m (by simp)⟩
 | .int i,_,x,_,_=>by
  cases x
  exact⟨[],trivial,fun a m=>absurd m (by simp)⟩
 | .str s,_,x,_,_=>by
  cases x
  exact⟨[],trivial,fun a m=>absurd m (by simp)⟩
 | .bytes b,_,x,_,_=>by
  cases x
  exact⟨[],trivial,fun a m=>absurd m (by simp)⟩
 | .list ds,_,x,p,z=>by
  obtain⟨a,vs,rfl,ho,hall⟩:=ZV x
  have z2:WData.weightAll ds<=1048576:=z
  obtain⟨A,h1,h2⟩:=JX ds _ hall p fun d hd=>Nat.le_trans (JW hd) z2
  have k:∀b∈A,b∈a::A:=fun b hb=>List.mem_cons_of_mem _ hb
  refine⟨a::A,List.mem_cons_self ..,fun b hb=>?_⟩
  rcases List.mem_cons.mp hb with e | m
  ·rw [e]
   exact⟨vs,UZ (by rw [qt hall];exact Nat.le_trans (PySem.W.length_le_weightAllW ds) z2),fun u hu=>(h1 u hu).mono k,.inl ho⟩
  ·exact(h2 b m).mono k
 | .tuple ds,_,x,p,z=>by
  obtain⟨a,vs,rfl,ho,hall⟩:=Zx x
  have z2:WData.weightAll ds<=1048576:=z
  obtain⟨A,h1,h2⟩:=JX ds _ hall p fun d hd=>Nat.le_trans (JW hd) z2
  have k:∀b∈A,b∈a::A:=fun b hb=>List.mem_cons_of_mem _ hb
  refine⟨a::A,List.mem_cons_self ..,fun b hb=>?_⟩
  rcases List.mem_cons.mp hb with e | m
  ·rw [e]
   exact⟨vs,UZ (by rw [qt hall];exact Nat.le_trans (PySem.W.length_le_weightAllW ds) z2),fun u hu=>(h1 u hu).mono k,.inr ho⟩
  ·exact(h2 b m).mono k
 | .float _,_,_,p,_=>Bool.noConfusion (show false=true from p)
 | .dict _,_,_,p,_=>Bool.noConfusion (show false=true from p)
 | .bytearray _,_,_,p,_=>Bool.noConfusion (show false=true from p)
 | .set _,_,_,p,_=>Bool.noConfusion (show false=true from p)
 | .frozenset _,_,_,p,_=>Bool.noConfusion (show false=true from p)
 | .obj _ _,_,_,p,_=>Bool.noConfusion (show false=true from p)
theorem JX:∀(ds:List WData) (vs:List Value),WellAll P h vs ds->qI ds=true->(∀d∈ds,d.weight<=1048576)->∃A:List Addr,(∀u∈vs,OkU A u)/\∀a∈A,jF h A a
 | [],_,x,_,_=>by
  cases x
  exact⟨[],fun u m=>absurd m (by simp),fun a m=>absurd m (by simp)⟩
 | d::ds,_,x,p,z=>by
  obtain⟨v,vs,rfl,x1,x2⟩:=ZT x
  have q:plW d=true/\qI ds=true:=Bool.and_eq_true_iff.mp p
  obtain⟨A,a1,a2⟩:=za1 d v x1 q.1 (z d (List.mem_cons_self ..))
  obtain⟨B,b1,b2⟩:=JX ds vs x2 q.2 fun e he=>z e (List.mem_cons_of_mem _ he)
  have kA:∀b∈A,b∈A++B:=fun b hb=>List.mem_append.mpr (.inl hb)
  have kB:∀b∈B,b∈A++B:=fun b hb=>List.mem_append.mpr (.inr hb)
  refine⟨A++B,fun u hu=>?_,fun b hb=>?_⟩
  ·rcases List.mem_cons.mp hu with e | m
   ·rw [e]
    exact a1.mono kA
   ·exact(b1 u m).mono kB
  ·rcases List.mem_append.mp hb with m | m
   ·exact(a2 b m).mono kA
   ·exact(b2 b m).mono kB
end
end
def hoOf (o:Obj):Option HO:=match o.data with
 | .seq vs _=>if (o.cls == Value.type "list")=true then some (.frz o (.lst (vs.toList.map toV))) else some (.frz o (.tup (vs.toList.map toV)))
 | _=>none
def j6 (K:PySem.W.Frag) (h:Heap) (A:List Addr):Hp:=fun b=>if b∈A then (if (K.lookup b).isNone=true then (h.get? b).bind hoOf else none) else none
def OnlyF (H:Hp):Prop:=∀b,H b=none\/∃o u,H b=some (.frz o u)
theorem Ue (vs:List Value):hoOf {cls:=.type "list",data:=.seq vs.toArray}=some (.frz {cls:=.type "list",data:=.seq vs.toArray} (.lst (vs.map toV))):=by
 show(if (Value.type "list" == Value.type "list")=true then some (HO.frz {cls:=.type "list",data:=.seq vs.toArray} (.lst (vs.toArray.toList.map toV))) else some (HO.frz {cls:=.type "list",data:=.seq vs.toArray} (.tup (vs.toArray.toList.map toV))))=_
 rw [if_pos (beq_self_eq_true _)]
theorem U6 (vs:List Value):hoOf {cls:=.type "tuple",data:=.seq vs.toArray}=some (.frz {cls:=.type "tuple",data:=.seq vs.toArray} (.tup (vs.map toV))):=by
 show(if (Value.type "tuple" == Value.type "list")=true then some (HO.frz {cls:=.type "tuple",data:=.seq vs.toArray} (.lst (vs.toArray.toList.map toV))) else some (HO.frz {cls:=.type "tuple",data:=.seq vs.toArray} (.tup (vs.toArray.toList.map toV))))=_
 rw [if_neg (by decide)]
section
variable {P:Program} {w:World} {K:PySem.W.Frag} {h:Heap} {A:List Addr}
theorem YC {b:Addr} {o:Obj} (hb:b∈A) (hk:K.lookup b=none) (e:h.get? b=some o):j6 K h A b=hoOf o:=by
 unfold j6
 rw [if_pos hb,hk,if_pos (show(none:Option Obj).isNone=true from rfl),e] <;> rfl
theorem zbj {b:Addr} {u:HO} (q:j6 K h A b=some u):b∈A/\K.lookup b=none:=by
 unfold j6 at q
 by_cases hb:b∈A
 ·rw [if_pos hb] at q
  cases hk:K.lookup b with
  | none=>exact⟨hb,rfl⟩
  | some o=>
   rw [hk,if_neg (by simp)] at q
   cases q
 ·rw [if_neg hb] at q
  cases q
theorem YJ (ar:∀a∈A,jF h A a) {b:Addr} {u:HO} (q:j6 K h A b=some u):K.lookup b=none/\∃vs:List Value,vs.length<=sizeLine/\(∀u∈vs,OkU A u) /\
  ((h.get? b=some {cls:=.type "list",data:=.seq vs.toArray}/\u=.frz {cls:=.type "list",data:=.seq vs.toArray} (.lst (vs.map toV))) \/
   (h.get? b=some {cls:=.type "tuple",data:=.seq vs.toArray}/\u=.frz {cls:=.type "tuple",data:=.seq vs.toArray} (.tup (vs.map toV)))):=by
 obtain⟨hb,hk⟩:=zbj q
 obtain⟨vs,h1,h2,h3⟩:=ar b hb
 refine⟨hk,vs,h1,h2,?_⟩
 rcases h3 with e | e
 ·rw [YC hb hk e,Ue] at q
  exact .inl ⟨e,(Option.some.inj q).symm⟩
 ·rw [YC hb hk e,U6] at q
  exact .inr ⟨e,(Option.some.inj q).symm⟩
theorem OV (ar:∀a∈A,jF h A a):OnlyF (j6 K h A):=fun b=>by
 cases q:j6 K h A b with
 | none=>exact .inl rfl
 | some u=>
  obtain⟨_,vs,_,_,⟨_,e⟩ | ⟨_,e⟩⟩:=YJ ar q
  ·exact .inr ⟨_,_,by rw [e]⟩
  ·exact .inr ⟨_,_,by rw [e]⟩
theorem zb5 (ar:∀a∈A,jF h A a):HOk P w (j6 K h A) h:=fun b u q=>by
 obtain⟨_,vs,h1,h2,⟨e,rfl⟩ | ⟨e,rfl⟩⟩:=YJ ar q
 ·exact⟨e,by rw [List.length_map];exact h1,vs,_,qg h2,e⟩
 ·exact⟨e,by rw [List.length_map];exact h1,vs,qg h2,_,e,rfl,_,rfl⟩
theorem YE {c c':Value} {vs us:List Value} (e:(some {cls:=c,data:=.seq vs.toArray}:Option Obj)=some {cls:=c',data:=.seq us.toArray}):c=c'/\vs=us:=by
 have e1:=Option.some.inj e
 have e2:c=c':=congrArg Obj.cls e1
 have e3:Data.seq vs.toArray=Data.seq us.toArray:=congrArg Obj.data e1
 injection e3 with e4
 refine⟨e2,?_⟩
 have e5:=congrArg Array.toList e4
 simpa using e5
theorem argL (KX:K.In h) (ar:∀a∈A,jF h A a) {a:Addr} {vs:List Value} (ha:a∈A) (e:h.get? a=some {cls:=.type "list",data:=.seq vs.toArray}):(∀u∈vs,OkU A u)/\SqL K (j6 K h A) a (vs.map toV):=by
 obtain⟨us,h1,h2,h3⟩:=ar a ha
 have hu:us=vs:=by
  rcases h3 with q | q
  ·rw [e] at q
   exact(YE q).2.symm
  ·rw [e] at q
   exact absurd (Value.type.inj (YE q).1) (by decide)
 subst hu
 refine⟨h2,?_⟩
 cases hk:K.lookup a with
 | none=>exact .inl (.inr ⟨_,by rw [YC ha hk e,Ue]⟩)
 | some o=>
  have e2:=KX a o hk
  rw [e] at e2
  obtain rfl:=Option.some.inj e2
  exact .inr ⟨_,us.toArray,_,hk,rfl,rfl,rfl,by rw [List.size_toArray];exact h1,by simpa using qg h2⟩
theorem argT (KX:K.In h) (ar:∀a∈A,jF h A a) {a:Addr} {vs:List Value} (ha:a∈A) (e:h.get? a=some {cls:=.type "tuple",data:=.seq vs.toArray}):(∀u∈vs,OkU A u)/\SqT K (j6 K h A) a (vs.map toV):=by
 obtain⟨us,h1,h2,h3⟩:=ar a ha
 have hu:us=vs:=by
  rcases h3 with q | q
  ·rw [e] at q
   exact absurd (Value.type.inj (YE q).1) (by decide)
  ·rw [e] at q
   exact(YE q).2.symm
 subst hu
 refine⟨h2,?_⟩
 cases hk:K.lookup a with
 | none=>exact .inl (.inr ⟨_,by rw [YC ha hk e,U6]⟩)
 | some o=>
  have e2:=KX a o hk
  rw [e] at e2
  obtain rfl:=Option.some.inj e2
  exact .inr ⟨_,us.toArray,_,hk,rfl,rfl,by rw [List.size_toArray];exact h1,by simpa using qg h2⟩
mutual
theorem zd0 {Pm:Params} (KX:K.In h) (ar:∀a∈A,jF h A a):∀(d:WData) (v:Value),Well Pm h v d->plW d=true->OkU A v->Dw K (j6 K h A) (toV v) d
 | .none,_,x,_,_=>by
  cases x
  exact .non
 | .bool b,_,x,_,_=>by
  cases x
  exact .bl b
 | .int i,_,x,_,_=>by
  cases x
  exact .int i
 | .str s,_,x,_,_=>by
  cases x
  exact .str s
 | .bytes b,_,x,_,_=>by
  cases x
  have z:=Dw.byt (K:=K) (H:=j6 K h A) b.toArray
  exact z
 | .list ds,_,x,p,hu=>by
  obtain⟨a,vs,rfl,ho,hall⟩:=ZV x
  obtain⟨h2,hs⟩:=argL KX ar hu ho
  exact .lst hs (ZA KX ar ds _ hall p h2)
 | .tuple ds,_,x,p,hu=>by
  obtain⟨a,vs,rfl,ho,hall⟩:=Zx x
  obtain⟨h2,hs⟩:=argT KX ar hu ho
  exact .tup hs (ZA KX ar ds _ hall p h2)
 | .float _,_,_,p,_=>Bool.noConfusion (show false=true from p)
 | .dict _,_,_,p,_=>Bool.noConfusion (show false=true from p)
 | .bytearray _,_,_,p,_=>Bool.noConfusion (show false=true from p)
 | .set _,_,_,p,_=>Bool.noConfusion (show false=true from p)
 | .frozenset _,_,_,p,_=>Bool.noConfusion (show false=true from p)
 | .obj _ _,_,_,p,_=>Bool.noConfusion (show false=true from p)
theorem ZA {Pm:Params} (KX:K.In h) (ar:∀a∈A,jF h A a):∀(ds:List WData) (vs:List Value),WellAll Pm h vs ds->qI ds=true->(∀u∈vs,OkU A u)->jG K (j6 K h A) (vs.map toV) ds
 | [],_,x,_,_=>by
  cases x
  exact .nil
 | d::ds,_,x,p,hu=>by
  obtain⟨v,vs,rfl,x1,x2⟩:=ZT x
  have q:plW d=true/\qI ds=true:=Bool.and_eq_true_iff.mp p
  exact .cons (zd0 KX ar d v x1 q.1 (hu _ (List.mem_cons_self ..))) (ZA KX ar ds vs x2 q.2 fun u m=>hu u (List.mem_cons_of_mem _ m))
end
end
theorem Ib {P:Program} {w:World} {K:PySem.W.Frag} {mg mb:Str->Option Value} {CX:CXT} {k:Nat} {fa:Addr} {fd:FuncData} {ps:List Str} {sp:Sp} {s₁:Shared} {vals:List Value} {ds:List WData} {R:PySem.W.WRecords} {cl:Str->Option Addr} {d0:WData}
  (KX:K.In s₁.heap) (hns:s₁.heap.Ns mainGlobals mg) (hb:s₁.heap.Ns builtinsNs mb) (hbb:∀x:Str,x≠"__name__"->mb x=bootBuiltins x) (hlim:s₁.heap.NoLimit) (hg:s₁.gens=#[])
  (hwl:WellAll w.params s₁.heap vals ds) (hpl:qI ds=true) (hwt:∀d∈ds,d.weight<=1048576) (hr:zJ k callerA)
  (F:∀base:Heap,K.In base->base.Ns mainGlobals mg->zj P w K mg base CX k fa fd ps sp) (hbind:∀(s:Shared) (us:List Value),us.length=ps.length->BindsTo s fd ⟨us,[]⟩ (ps.zip us)) (hlen:ds.length=ps.length)
  (hsp:∀(H:Hp) (xs:List V),OnlyF H->jG K H xs ds->sp xs H (fun v H'=>Dw K H' v d0) fun _ _ _=>False)
  (hCX:∀H e s',CX [] H s₁ (fun _ _ _=>False) e s'->False) :
  codeAny (model P w) callerA (.call (.ref fa) ⟨vals,[]⟩) (fun r s'=>∃u as,r=.ok (.ret u)/\ReadsW R cl s'.heap u d0 as/\OldK s₁.heap s'.heap/\s'.os=s₁.os/\AllBare s'.gens) s₁:=by
 obtain⟨A,ho,ar⟩:=JX ds vals hwl hpl hwt
 have hO:OnlyF (j6 K s₁.heap A):=OV ar
 have hok:HOk P w (j6 K s₁.heap A) s₁.heap:=zb5 ar
 have hS:=ZA KX ar ds vals hwl hpl ho
 have hV:=qg ho
 have hK:∀b u,j6 K s₁.heap A b=some u->K.lookup b=none:=fun b u q=>(YJ ar q).1
 have noA:∀{b:Addr} {o:Obj} {es:Array DictEntry} {ep:Nat},s₁.heap.get? b=some o->o.data=.dict es ep->j6 K s₁.heap A b=none:=fun {b o es ep} e d=>by
  cases q:j6 K s₁.heap A b with
  | none=>rfl
  | some u=>
   obtain⟨_,vs,_,_,⟨e2,_⟩ | ⟨e2,_⟩⟩:=YJ ar q
   ·rw [e2] at e
    cases e
    have d':Data.seq vs.toArray _=Data.dict es ep:=d
    cases d'
   ·rw [e2] at e
    cases e
    have d':Data.seq vs.toArray _=Data.dict es ep:=d
    cases d'
 generalize j6 K s₁.heap A=H at hO hok hS hK noA
 have base_of:∀{b:Addr} {o:Obj},s₁.heap.get? b=some o->H b=none->(JI s₁.heap H).get? b=some o:=fun e n=>IH e n
 have nsK:∀{b:Addr} {m:Str->Option Value},s₁.heap.Ns b m->(JI s₁.heap H).Ns b m:=fun {b m} ⟨o,es,ep,e,d,r⟩=>⟨o,es,ep,base_of e (noA e d),d,r⟩
 have nK:∀b o,K.lookup b=some o->H b=none:=fun b o e=>by
  cases q:H b with
  | none=>rfl
  | some u=>
   rw [hK b u q] at e
   cases e
 have hKb:K.In (JI s₁.heap H):=fun b o e=>base_of (KX b o e) (nK b o e)
 have hM:Mod K mg (JI s₁.heap H):=⟨hKb,nsK hns,⟨mb,nsK hb,hbb⟩,let ⟨mc,h1,h2⟩:=hlim;⟨mc,nsK h1,h2⟩⟩
 have e0:Zf P w K mg (JI s₁.heap H) callerA [] s₁ H:=⟨rfl,hM,fun b o e=>zax e,Nat.le_of_eq (O5 _ _),trivial,fun b hb=>absurd (show b∈([]:List Addr) from hb) (by simp),hok,.of_eq hg⟩
 have hl:vals.length=ps.length:=by rw [qt hwl];exact hlen
 refine codeAny_mono ((F _ hKb (nsK hns)).run callerA [] s₁ H ⟨vals,[]⟩ vals (vals.map toV) _ _ hr e0 (hbind s₁ vals hl) hV (hsp H _ hO hS)) fun r s' x=>?_
 cases r with
 | error e=>exact(hCX H e s' x).elim
 | ok fl=>
  cases fl with
  | next=>exact False.elim x
  | brk=>exact False.elim x
  | cont=>exact False.elim x
  | ret u=>
   obtain⟨v,H',os,bare,un,hok',r',q⟩:=x
   have kept:∀b o,s₁.heap.get? b=some o->s'.heap.get? b=some o:=fun b o e=>by
    cases q2:H b with
    | none=>exact un.keep b o e q2 (by intro z;exact absurd (show b∈([]:List Addr) from z) (by simp)) (by simp)
    | some u2=>
     rcases hO b with z | ⟨ob,u3,z⟩
     ·rw [q2] at z
      cases z
     ·have z2:=un.frzs b ob _ z
      obtain⟨e1,_⟩:=hok b _ z
      obtain⟨e2,_⟩:=hok' b _ z2
      rw [e] at e1
      cases e1
      exact e2
   have KX':K.In s'.heap:=fun b o e=>kept b o (KX b o e)
   obtain⟨as,hrd⟩:=Dw.reads (R:=R) (cl:=cl) hok' KX' d0 v u q r'
   exact⟨u,as,rfl,hrd,OldK.of_keep kept,os,bare⟩
theorem ZN {ds:List WData} (h:WData.layableAll ds=true):∀d∈ds,d.weight<=1048576:=fun d hd=>
 (PySem.W.layableW_iff.mp (List.all_eq_true.mp h d hd)).2.2
theorem Zv:∀(cs:List Codec) (a:Codec.denoteAll cs),(Codec.encAll cs a).length=cs.length
 | [],_=>rfl
 | c::cs,a=>by
  show(Codec.encAll cs a.2).length+1=cs.length+1
  rw [Zv cs a.2]
theorem Og {r:OpenSpec} {k:Nat} {q:Program} {loose:List Str} {XP:(Str->Option Value)->Heap->Prop} {YP:World->Heap->Prop} {d:DefRec} {K:Params->PySem.W.Frag} {CX:World->CXT} {ps:List Str} {sp:World->Sp}
  (hwell:r.wellSaid=true) (hdf:d.params.defaults=[]) (hlen:r.args.length=ps.length) (hr:zJ k callerA)
  (hY:∀(w:World) (h:Heap),YP w h->(K w.params).In h)
  (F:∀(w:World) (mg:Str->Option Value) (fa:Addr) (h:Heap),YP w h->(K w.params).In h->h.Ns mainGlobals mg->mg d.name=some (.ref fa) ->
   ∃fd:FuncData,(∀(s:Shared) (us:List Value),us.length=ps.length->BindsTo s fd ⟨us,[]⟩ (ps.zip us)) /\
    ∀base:Heap,(K w.params).In base->base.Ns mainGlobals mg->zj r.prog w (K w.params) mg base (CX w) k fa fd ps (sp w))
  (hsp:∀(w:World) (H:Hp) (xs:List V) (a:Codec.denoteAll r.args),OnlyF H->Codec.withinAll r.args a=true->Codec.app r.args r.asked a=true->jG (K w.params) H xs (Codec.encAll r.args a) ->
   sp w xs H (fun v H'=>Dw (K w.params) H' v (r.ret.enc (Codec.app r.args r.f a))) fun _ _ _=>False)
  (hCX:∀(w:World) (H:Hp) (s:Shared) (e:Value) (s':Shared),CX w [] H s (fun _ _ _=>False) e s'->False) :
  PySem.W.WalkOS q loose XP YP r d [] (fun f vs=>PySem.call f vs):=by
 intro w s_0 s₁ mg mb G Y fa o pm cd doc dV kV ho hd hcd hD hmg hg args vals as hpre hlay hrd hwl hlo
 obtain⟨a,e1,e2⟩:=PySem.W.os_pre_some hpre
 obtain⟨e3,hwi⟩:=Codec.encAll_of_decAll r.args args a e1
 subst e3
 have KX:=hY w _ Y
 obtain⟨fd,hb,hF⟩:=F w mg fa _ Y KX G.T.g hmg
 refine PySem.W.enter_call (codeAny_mono (Ib (R:=[]) (cl:=classAt s_0.heap) (d0:=r.ret.enc (Codec.app r.args r.f a)) KX G.T.g G.T.b G.T.builtins G.T.nolimit hg hwl (Vh _ _) (ZN hlay) hr hF hb (by rw [Zv];exact hlen)
  (fun H xs hO hS=>hsp w H xs a hO hwi e2 hS) fun H e s'=>hCX w H s₁ e s') fun r' s' hq=>?_)
 obtain⟨u,as',rfl,h1,h2,h3,h4⟩:=hq
 exact⟨.inl ⟨u,_,as',rfl,fun _=>rfl,h1,(OpenSpec.post_iff hwell hwi _ _).mpr rfl,fun z=>Bool.noConfusion (show false=true from z)⟩,h2,h3,h4⟩
theorem walk_specK {r:OpenSpec} {k:Nat} {q:Program} {loose:List Str} {XP:(Str->Option Value)->Heap->Prop} {YP:World->Heap->Prop} {d:DefRec} {K:Params->PySem.W.Frag} {CX:CXT} {ps:List Str} {sp:PySem.W.Frag->Sp}
  (hwell:r.wellSaid=true) (hdf:d.params.defaults=[]) (hlen:r.args.length=ps.length) (hr:zJ k callerA)
  (hY:∀(w:World) (h:Heap),YP w h->(K w.params).In h)
  (F:∀(w:World) (mg:Str->Option Value) (fa:Addr) (h:Heap),YP w h->(K w.params).In h->h.Ns mainGlobals mg->mg d.name=some (.ref fa) ->
   ∃fd:FuncData,(∀(s:Shared) (us:List Value),us.length=ps.length->BindsTo s fd ⟨us,[]⟩ (ps.zip us)) /\
    ∀base:Heap,(K w.params).In base->base.Ns mainGlobals mg->zj r.prog w (K w.params) mg base CX k fa fd ps (sp (K w.params)))
  (hsp:∀(K:PySem.W.Frag) (H:Hp) (xs:List V) (a:Codec.denoteAll r.args),OnlyF H->Codec.withinAll r.args a=true->Codec.app r.args r.asked a=true->jG K H xs (Codec.encAll r.args a) ->
   sp K xs H (fun v H'=>Dw K H' v (r.ret.enc (Codec.app r.args r.f a))) fun _ _ _=>False)
  (hCX:∀(H:Hp) (s:Shared) (e:Value) (s':Shared),CX [] H s (fun _ _ _=>False) e s'->False) :
  PySem.W.WalkOS q loose XP YP r d [] (fun f vs=>PySem.call f vs):=
 Og (K:=K) (CX:=fun _=>CX) (sp:=fun w=>sp (K w.params)) hwell hdf hlen hr hY F (fun w H xs a h1 h2 h3 h4=>hsp (K w.params) H xs a h1 h2 h3 h4) fun _ H s e s'=>hCX H s e s'
end L2
end
end
section
namespace L2
open PySem PySem.Spec PyProof.Rows
structure jS (P:Program) (w:World) (outer:List Env) (H:Hp) (s:Shared) (a C:Addr) (H':Hp) (B:Heap) (a0:Value) (s':Shared):Prop where
 os:s'.os=s.os
 bare:AllBare s'.gens
 un:Un (frs outer) [] H H' s.heap s'.heap
 hok:HOk P w H' s'.heap
 fly:Heap.FlyingW B outer a (.ref C) a0 s'.heap
 held:∀b o,s'.heap.get? b=some o->b∉frs outer->(H' b≠none\/∃o0,s.heap.get? b=some o0)->B.get? b=some o
def CXE (P:Program) (w:World):CXT:=fun outer H s E e s'=>
 ∃(a C:Addr) (H':Hp) (B:Heap) (a0:Value),e=.ref a/\jS P w outer H s a C H' B a0 s'/\E (.ref C) none H'
theorem zD {α:Type} {x:Option α} (h:x≠none):∃y,x=some y:=by
 cases x with
 | none=>exact absurd rfl h
 | some y=>exact⟨y,rfl⟩
theorem HOk.there {P:Program} {w:World} {H:Hp} {h:Heap} (x:HOk P w H h) {b:Addr} (e:H b≠none):∃o,h.get? b=some o:=by
 obtain⟨u,hu⟩:=zD e
 have z:=x b u hu
 clear hu e
 induction u with
 | lst xs=>obtain⟨_,_,_,_,e⟩:=z;exact⟨_,e⟩
 | tup xs=>obtain⟨_,_,_,o,e,_⟩:=z;exact⟨_,e⟩
 | dK kvs=>obtain⟨_,_,_,_,o,_,_,e,_⟩:=z;exact⟨_,e⟩
 | dT kvs=>obtain⟨_,_,_,_,o,_,_,e,_⟩:=z;exact⟨_,e⟩
 | set S n=>obtain⟨o,_,_,_,e,_⟩:=z;exact⟨_,e⟩
 | ins C dx fs=>obtain⟨_,_,_,e,_⟩:=z;exact⟨_,e⟩
 | own y=>obtain⟨_,e⟩:=z;exact⟨_,e⟩
 | xd fs=>obtain⟨_,⟨_,_,_,e,_⟩,_⟩:=z;exact⟨_,e⟩
 | met f x=>exact⟨_,z⟩
 | rng lo hi=>obtain⟨_,_,_,e⟩:=z;exact⟨_,e⟩
 | frz o u ih=>exact⟨_,z.1⟩
 | tbl ps=>exact⟨_,z⟩
 | ext φ=>obtain⟨_,⟨o,e⟩,_⟩:=z;exact⟨_,e⟩
theorem HOk.onTracked {P:Program} {w:World} {H:Hp} {h h':Heap} (x:HOk P w H h) (k:∀b o,H b≠none->h.get? b=some o->h'.get? b=some o):HOk P w H h':=fun a o e=>
 (x a o e).stay (fun b u hb q=>k b u (by rcases hb with rfl | hb <;> intro z <;> first | (rw [e] at z;cases z) | (rw [hb] at z;cases z)) q) (fun _ q=>q) fun _ _ q=>q
section
variable {P:Program} {w:World} {K:PySem.W.Frag} {mg:Str->Option Value} {base:Heap} {N:List Str} {qual:Str} {scope:Scope} {f:Addr} {cd:Value} {A:Around} {outer:List Env} {s0:Shared} {H0:Hp} {E:XK}
 {pins:List (Addr×Obj)} {σ:St} {H:Hp} {s:Shared}
theorem below0 {X:Cx} (I:Inv X pins σ H s) {b:Addr} {o:Obj} (e:X.s_0.heap.get? b=some o):b≠X.env.locals:=
 Nat.ne_of_lt (Nat.lt_of_lt_of_le (Heap.lt_size e) I.ok.above)
theorem Vp {X:Cx} (I:Inv X pins σ H s) {b:Addr} (hb:b∈frs X.stack):b=X.env.locals\/b∈X.fs:=List.mem_cons.mp (I.stkSub b hb)
theorem OQ {l:List Env}:∀env∈l,∀b,env.frame=some b->b∈frs l:=fun env he b hb=>List.mem_filterMap.mpr ⟨env,he,hb⟩
theorem zav {C e:Addr} {h':Heap} {vs:List Value} (I:Inv (yP (CXE P w) P w K mg base N qual scope f cd A outer s0 H0 E) pins σ H s) (hm:Heap.MadeExcOf s.heap h' e (.ref C) vs) (hE:E (.ref C) none H) :
  (yP (CXE P w) P w K mg base N qual scope f cd A outer s0 H0 E).xe (.ref e) {s with heap:=h'}:=by
 have hst:=I.stack
 have fr:(yP (CXE P w) P w K mg base N qual scope f cd A outer s0 H0 E).env.frame=some (yP (CXE P w) P w K mg base N qual scope f cd A outer s0 H0 E).env.locals:=rfl
 refine wpAny_leaves_madeW (base:=PySem.W.hideAll s.heap (frs (yP (CXE P w) P w K mg base N qual scope f cd A outer s0 H0 E).stack)) (h:=s.heap) (s:={s with heap:=h'}) I.ok.frames fr (fun b o q=>PySem.W.of_hideAll _ q)
  (PySem.W.funFrames_hide hst OQ) hm fun h2 t fl tu nt up=>?_
 have keep:∀b o,s.heap.get? b=some o->b∉frs (yP (CXE P w) P w K mg base N qual scope f cd A outer s0 H0 E).stack->h2.get? b=some o:=fun b o q nb=>fl.1 b o (PySem.W.hideAll_get _ q nb)
 have slot:∀b o,s.heap.get? b=some o->b∈frs (yP (CXE P w) P w K mg base N qual scope f cd A outer s0 H0 E).stack->∃sl,h2.get? b=some {o with slots:=sl}:=fun b o q hb=>by
  obtain⟨_,o',ho',hd⟩:=hst.mem hb
  rw [q] at ho';cases ho'
  exact up b o (hm.keeps b o q) hd
 have any:∀b o,s.heap.get? b=some o->∃o',h2.get? b=some o':=fun b o q=>by
  by_cases hb:b∈frs (yP (CXE P w) P w K mg base N qual scope f cd A outer s0 H0 E).stack
  ·obtain⟨sl,z⟩:=slot b o q hb;exact⟨_,z⟩
  ·exact⟨o,keep b o q hb⟩
 have nfr:∀b o,s0.heap.get? b=some o->b∉frs outer->b∉frs (yP (CXE P w) P w K mg base N qual scope f cd A outer s0 H0 E).stack:=fun b o q nb hb=>by
  rcases Vp I hb with z | z
  ·exact below0 I q z
  ·exact nb z
 have infr:∀b,b∈frs outer->b∈frs (yP (CXE P w) P w K mg base N qual scope f cd A outer s0 H0 E).stack:=fun b hb=>List.mem_cons_of_mem _ hb
 refine⟨e,C,H,_,.ref t,rfl,⟨I.os,I.bare,⟨fun b o q n nb _=>?_,fun b o q n hb _=>?_,fun b o q n _=>I.base.free b o q n (fun z=>by cases z),fun b o q _=>?_,I.base.tups,I.base.frzs,I.base.tbls⟩,?_,fl,fun b o q nb hb=>?_⟩,hE⟩
 ·exact keep b o (I.base.keep b o q n nb (fun z=>by cases z)) (nfr b o q nb)
 ·obtain⟨sl,z⟩:=I.base.slot b o q n hb (fun z=>by cases z)
  obtain⟨sl',z'⟩:=slot b _ z (infr b hb)
  exact⟨sl',z'⟩
 ·obtain⟨o',z⟩:=I.base.there b o q (fun z=>by cases z)
  exact any b o' z
 ·exact I.hok.onTracked fun b o n q=>keep b o q fun hb=>n (I.stkFree b hb)
 ·rcases hb with hb | ⟨o0,hb⟩
  ·obtain⟨o',z⟩:=I.hok.there hb
   have nb':b∉frs (yP (CXE P w) P w K mg base N qual scope f cd A outer s0 H0 E).stack:=fun y=>hb (I.stkFree b y)
   have q':=keep b o' z nb'
   have q:h2.get? b=some o:=q
   rw [q] at q';cases q'
   exact PySem.W.hideAll_get _ z nb'
  ·obtain⟨o',z⟩:=I.base.there b o0 hb (fun z=>by cases z)
   have nb':=nfr b o0 hb nb
   have q':=keep b o' z nb'
   have q:h2.get? b=some o:=q
   rw [q] at q';cases q'
   exact PySem.W.hideAll_get _ z nb'
theorem yh:jp (CXE P w) (yP (CXE P w) P w K mg base N qual scope f cd A outer s0 H0 E) E:=by
 rintro pins σ H s e s' I ⟨a,C,H',B,a0,rfl,F,hE⟩
 have fr:(yP (CXE P w) P w K mg base N qual scope f cd A outer s0 H0 E).env.frame=some (yP (CXE P w) P w K mg base N qual scope f cd A outer s0 H0 E).env.locals:=rfl
 refine wpAny_leaves_onW (base:=B) I.ok.frames fr F.fly fun h2 fl up=>?_
 have nfr:∀b o,s0.heap.get? b=some o->b∉frs outer->b∉frs (yP (CXE P w) P w K mg base N qual scope f cd A outer s0 H0 E).stack:=fun b o q nb hb=>by
  rcases Vp I hb with z | z
  ·exact below0 I q z
  ·exact nb z
 have infr:∀b,b∈frs outer->b∈frs (yP (CXE P w) P w K mg base N qual scope f cd A outer s0 H0 E).stack:=fun b hb=>List.mem_cons_of_mem _ hb
 have frn:∀b,b∈frs (yP (CXE P w) P w K mg base N qual scope f cd A outer s0 H0 E).stack->H' b=none:=fun b hb=>by
  obtain⟨_,o,ho,_⟩:=I.stack.mem hb
  exact F.un.free b o ho (I.stkFree b hb) (fun z=>by cases z)
 have keep:∀b o,s'.heap.get? b=some o->b∉frs (yP (CXE P w) P w K mg base N qual scope f cd A outer s0 H0 E).stack->(H' b≠none\/∃o0,s.heap.get? b=some o0)->h2.get? b=some o:=fun b o q nb z=>fl.1 b o (F.held b o q nb z)
 have slot:∀b o,s'.heap.get? b=some o->b∈frs (yP (CXE P w) P w K mg base N qual scope f cd A outer s0 H0 E).stack->∃sl,h2.get? b=some {o with slots:=sl}:=fun b o q hb=>by
  obtain⟨_,o',ho',hd⟩:=F.fly.2.2.1.mem hb
  rw [q] at ho';cases ho'
  exact up b o q hd
 refine⟨a,C,H',B,a0,rfl,⟨F.os.trans I.os,F.bare,⟨fun b o q n nb _=>?_,fun b o q n hb _=>?_,fun b o q n _=>?_,fun b o q _=>?_,fun b xs q=>F.un.tups b xs (I.base.tups b xs q),fun b o u q=>F.un.frzs b o u (I.base.frzs b o u q),fun b ps q=>?_⟩,?_,fl,fun b o q nb hb=>?_⟩,hE⟩
 ·have z:=I.base.keep b o q n nb (fun z=>by cases z)
  have n1:=I.base.free b o q n (fun z=>by cases z)
  exact keep b o (F.un.keep b o z n1 (nfr b o q nb) (fun z=>by cases z)) (nfr b o q nb) (.inr ⟨o,z⟩)
 ·obtain⟨sl,z⟩:=I.base.slot b o q n hb (fun z=>by cases z)
  have n1:=I.base.free b o q n (fun z=>by cases z)
  obtain⟨sl1,z1⟩:=F.un.slot b _ z n1 (infr b hb) (fun z=>by cases z)
  obtain⟨sl2,z2⟩:=slot b _ z1 (infr b hb)
  exact⟨sl2,z2⟩
 ·obtain⟨o',z⟩:=I.base.there b o q (fun z=>by cases z)
  exact F.un.free b o' z (I.base.free b o q n (fun z=>by cases z)) (fun z=>by cases z)
 ·obtain⟨o',z⟩:=I.base.there b o q (fun z=>by cases z)
  obtain⟨o2,z2⟩:=F.un.there b o' z (fun z=>by cases z)
  by_cases hb:b∈frs (yP (CXE P w) P w K mg base N qual scope f cd A outer s0 H0 E).stack
  ·obtain⟨sl,z3⟩:=slot b o2 z2 hb;exact⟨_,z3⟩
  ·exact⟨o2,keep b o2 z2 hb (.inr ⟨o',z⟩)⟩
 ·obtain⟨m1,e1⟩:=I.base.tbls b ps q
  obtain⟨m2,e2⟩:=F.un.tbls b _ e1
  exact⟨m1++m2,by rw [e2,Array.append_assoc]⟩
 ·exact F.hok.onTracked fun b o n q=>keep b o q (fun hb=>n (frn b hb)) (.inl n)
 ·have q:h2.get? b=some o:=q
  rcases hb with hb | ⟨o0,hb⟩
  ·obtain⟨o',z⟩:=F.hok.there hb
   have nb':b∉frs (yP (CXE P w) P w K mg base N qual scope f cd A outer s0 H0 E).stack:=fun y=>hb (frn b y)
   have q':=keep b o' z nb' (.inl hb)
   rw [q] at q';cases q'
   exact F.held b o z nb' (.inl hb)
  ·obtain⟨o1,z⟩:=I.base.there b o0 hb (fun z=>by cases z)
   obtain⟨o',z2⟩:=F.un.there b o1 z (fun z=>by cases z)
   have nb':=nfr b o0 hb nb
   have q':=keep b o' z2 nb' (.inr ⟨o1,z⟩)
   rw [q] at q';cases q'
   exact F.held b o z2 nb' (.inr ⟨o1,z⟩)
end
end L2
end
section
namespace L2
open PySem PySem.Spec PyProof.Rows
abbrev bmE:List Value:=[.type "Exception",.type "BaseException",.type "object"]
structure Exc (K:PySem.W.Frag) (C:Addr):Prop where
 obj:∃(nm q:Str) (N:Addr) (bs:List Value) (hdct:Bool) (sn:List Str) (sub:List Value) (ab:Bool) (col:Option Bool) (dd:Option Addr) (k0 k1 k2 k3 k5:Option Value),
  K.lookup C=some (excClassObj nm q C N bs bmE hdct sn sub ab col dd k0 k1 k2 k3 k5 "Exception.__new__")/\PySem.W.nsOkIn K N=true/\PySem.W.nsIn K N "__init__"=some none
def Made (X:Cx) (E:XK):Prop:=∀(pins:List (Addr×Obj)) (σ:St) (H:Hp) (s:Shared) (C e:Addr) (h':Heap) (vs:List Value),Inv X pins σ H s->Heap.MadeExcOf s.heap h' e (.ref C) vs->E (.ref C) none H->X.xe (.ref e) {s with heap:=h'}
section
variable {P:Program} {w:World} {K:PySem.W.Frag} {mg:Str->Option Value} {base:Heap} {N:List Str} {qual:Str} {scope:Scope} {f:Addr} {cd:Value} {A:Around} {outer:List Env} {s0:Shared} {H0:Hp} {E:XK}
theorem xc:Made (yP (CXE P w) P w K mg base N qual scope f cd A outer s0 H0 E) E:=fun _ _ _ _ _ _ _ _ I hm hE=>zav I hm hE
end
def tRaise (E:XK) (C:Addr):TS:=fun _ _ H=>E (.ref C) none H
theorem yN {X:Cx} {E:XK} {x:Str} {C:Addr} {np cpos pos:Pos} (M:Made X E) (hc:X.calm=true) (hg:Gl X x) (hm:X.mg x=some (.ref C)) (ex:Exc X.K C) (hd:(x == ("__debug__":Str))=false:=by decide) :
  PS X (.Raise (some (.Call (.Name x np) [] [] cpos)) none pos) (tRaise E C):=by
 intro pins s σ H D I h
 obtain⟨nm,q,N,bs,hdct,sn,sub,ab,col,dd,k0,k1,k2,k3,k5,lk,nok,nin⟩:=ex.obj
 have hC:=I.kIn _ _ lk
 refine wpAny_Raise_call_subT (C:=C) (nm:=nm) (q:=q) (N:=N) (bs:=bs) (bm:=bmE) (hdct:=hdct) (sn:=sn) (sub:=sub) (ab:=ab) (col:=col) (dd:=dd) (k0:=k0) (k1:=k1) (k2:=k2) (k3:=k3) (k5:=k5)
  PySem.F.excBase_Exception (mN:=s.heap.nsMap N) rfl (I.ok.hd hc) rfl (PySem.W.nsMap_none_of_in I.kIn nok nin) (qU I hg hm ⟨rfl,?_⟩ hd)
 exact evalArgs_empty ⟨rfl,Nat.zero_le _,hC,.of_isNs (PySem.W.isNs_of_in I.kIn nok),.base,fun h' e me=>M pins σ H s C e h' _ I me h⟩
theorem zj.calm {P:Program} {w:World} {K:PySem.W.Frag} {mg:Str->Option Value} {base:Heap} {CX:CXT} {k:Nat} {f:Addr} {fd:FuncData} {ps:List Str} {sp:Sp} (F:zj P w K mg base CX0 k f fd ps sp):zj P w K mg base CX k f fd ps sp:=
 ⟨F.len,fun A outer s H args us vs Q E hr he hb hv hs=>codeAny_mono (F.run A outer s H args us vs Q E hr he hb hv hs) fun r s' q=>by
  cases r with
  | error e=>exact False.elim q
  | ok fl=>cases fl <;> exact q⟩
theorem Fun.okx {P:Program} {w:World} {K:PySem.W.Frag} {mg:Str->Option Value} {base:Heap} {x qual:Str} {st:Stmt} {f:Addr} {fd:FuncData} {N ps:List Str} {k:Nat} {sp:Sp} (F:Fun K x qual st f fd) (S:zh N ps (zg st)) (len:∀vs H Q E,sp vs H Q E->vs.length=ps.length)
  (hbody:∀(cdv:Value) (A:Around) (outer:List Env) (s:Shared) (H:Hp) (vs:List V) (Q:VK) (E:XK),zJ k (A.deeper (envOfC qual (zg st) s.heap.objs.size f cdv))->sp vs H Q E ->
   ∃t,PSs (yP (CXE P w) P w K mg base N qual (zg st) f cdv A outer s H E) (jN st) t/\t {nx:=fun _ H'=>Q .non H',rt:=Q} (start N vs) H):zj P w K mg base (CXE P w) (k+1) f fd ps sp:=by
 obtain⟨oc,od,kV,doc,pm,an,cdv,ct,osl,rfl,lk,hcd⟩:=F.ex
 exact zaq lk hcd S len fun A outer s H vs Q E hr hsp=>hbody cdv A outer s H vs Q E hr hsp
abbrev Cx.tried (X:Cx) (E:Value->Shared->Prop) (pn:List (Addr×Obj)):Cx:={X with xe:=E,pn:=pn}
abbrev Cx.caught (X:Cx) (e:Addr):Cx:={X with A:=X.A.mark (some (.ref e)),calm:=false,xe:=fun _ _=>False}
theorem Inv.tried {X:Cx} {pins:List (Addr×Obj)} {σ:St} {H:Hp} {s:Shared} (I:Inv X pins σ H s) (E:Value->Shared->Prop):Inv (X.tried E (X.pn++pins)) [] σ H s:=
 ⟨⟨I.ok.mod,I.ok.kind,I.ok.glob,I.ok.blt,I.ok.above,I.ok.inj,I.ok.has,I.ok.cab,I.ok.hd,I.ok.frames,I.ok.stk,I.ok.exf,I.ok.bs,I.ok.bsz,I.ok.noex,I.ok.exfs,I.ok.funs,I.ok.frf⟩,I.os,I.bare,I.base,I.loc,I.cell,I.free,I.freeC,fun p hp=>I.pin p (by simpa using hp),I.hok,I.len⟩
theorem Inv.untried {X:Cx} {pins ps:List (Addr×Obj)} {σ:St} {H:Hp} {s:Shared} {E:Value->Shared->Prop} (I:Inv (X.tried E (X.pn++pins)) ps σ H s):Inv X pins σ H s:=
 ⟨⟨I.ok.mod,I.ok.kind,I.ok.glob,I.ok.blt,I.ok.above,I.ok.inj,I.ok.has,I.ok.cab,I.ok.hd,I.ok.frames,I.ok.stk,I.ok.exf,I.ok.bs,I.ok.bsz,I.ok.noex,I.ok.exfs,I.ok.funs,I.ok.frf⟩,I.os,I.bare,I.base,I.loc,I.cell,I.free,I.freeC,fun p hp=>I.pin p (List.mem_append_left _ hp),I.hok,I.len⟩
theorem Inv.caught {X:Cx} {pins:List (Addr×Obj)} {σ:St} {H:Hp} {s:Shared} (I:Inv X pins σ H s) (e:Addr):Inv (X.caught e) pins σ H s:=
 ⟨⟨I.ok.mod,I.ok.kind,I.ok.glob,I.ok.blt,I.ok.above,I.ok.inj,I.ok.has,I.ok.cab,(fun z=>by cases z),I.ok.frames,I.ok.stk,I.ok.exf,I.ok.bs,I.ok.bsz,I.ok.noex,I.ok.exfs,I.ok.funs,I.ok.frf⟩,I.os,I.bare,I.base,I.loc,I.cell,I.free,I.freeC,I.pin,I.hok,I.len⟩
theorem Inv.uncaught {X:Cx} {pins:List (Addr×Obj)} {σ:St} {H:Hp} {s:Shared} {e:Addr} (I:Inv (X.caught e) pins σ H s) (ok:X.Ok):Inv X pins σ H s:=
 ⟨ok,I.os,I.bare,I.base,I.loc,I.cell,I.free,I.freeC,I.pin,I.hok,I.len⟩
def PH (X:Cx) (hs:List ExceptHandler) (th:Value->TS):Prop:=∀(pins:List (Addr×Obj)) (s1 s:Shared) (σ:St) (H1 H':Hp) (D:Jl) (a C:Addr) (B:Heap) (a0:Value),Inv X pins σ H1 s1->Exc X.K C->jS X.prog X.w X.stack H1 s1 a C H' B a0 s ->
 th (.ref C) D σ H'->wpAny (model X.prog X.w) X.A (handleBy (.ref a) X.env hs) (SP X pins D) X.xe s
section
variable {X:Cx} {pins:List (Addr×Obj)} {σ:St} {H1 H':Hp} {s1 s:Shared} {a C:Addr} {B h2:Heap} {a0:Value}
theorem jS.inv (I:Inv X pins σ H1 s1) (F:jS X.prog X.w X.stack H1 s1 a C H' B a0 s):Inv X pins σ H' s:=I.call' F.os F.un F.hok F.bare (fun b z=>by cases z)
theorem jS.turn (I:Inv X pins σ H1 s1) (F:jS X.prog X.w X.stack H1 s1 a C H' B a0 s) (fl:Heap.FlyingW B X.stack a (.ref C) a0 h2) (up:s.heap.UpToSlots h2):jS X.prog X.w X.stack H1 s1 a C H' B a0 {s with heap:=h2}:=by
 have frn:∀b,b∈frs X.stack->H' b=none:=fun b hb=>by
  obtain⟨_,o,ho,_⟩:=I.stack.mem hb
  exact F.un.free b o ho (I.stkFree b hb) (fun z=>by cases z)
 have keep:∀b o,s.heap.get? b=some o->b∉frs X.stack->(H' b≠none\/∃o0,s1.heap.get? b=some o0)->h2.get? b=some o:=fun b o q nb z=>fl.1 b o (F.held b o q nb z)
 have slot:∀b o,s.heap.get? b=some o->b∈frs X.stack->∃sl,h2.get? b=some {o with slots:=sl}:=fun b o q hb=>by
  obtain⟨_,o',ho',hd⟩:=F.fly.2.2.1.mem hb
  rw [q] at ho';cases ho'
  exact up b o q hd
 refine⟨F.os,F.bare,⟨fun b o q n nb _=>?_,fun b o q n hb _=>?_,fun b o q n _=>F.un.free b o q n (fun z=>by cases z),fun b o q _=>?_,F.un.tups,F.un.frzs,F.un.tbls⟩,?_,fl,fun b o q nb hb=>?_⟩
 ·exact keep b o (F.un.keep b o q n nb (fun z=>by cases z)) nb (.inr ⟨o,q⟩)
 ·obtain⟨sl1,z1⟩:=F.un.slot b _ q n hb (fun z=>by cases z)
  obtain⟨sl2,z2⟩:=slot b _ z1 hb
  exact⟨sl2,z2⟩
 ·obtain⟨o2,z2⟩:=F.un.there b o q (fun z=>by cases z)
  by_cases hb:b∈frs X.stack
  ·obtain⟨sl,z3⟩:=slot b o2 z2 hb;exact⟨_,z3⟩
  ·exact⟨o2,keep b o2 z2 hb (.inr ⟨o,q⟩)⟩
 ·exact F.hok.onTracked fun b o n q=>keep b o q (fun hb=>n (frn b hb)) (.inl n)
 ·have q:h2.get? b=some o:=q
  rcases hb with hb | ⟨o0,hb⟩
  ·obtain⟨o',z⟩:=F.hok.there hb
   have q':=keep b o' z nb (.inl hb)
   rw [q] at q';cases q'
   exact F.held b o z nb (.inl hb)
  ·obtain⟨o',z2⟩:=F.un.there b o0 hb (fun z=>by cases z)
   have q':=keep b o' z2 nb (.inr ⟨o0,hb⟩)
   rw [q] at q';cases q'
   exact F.held b o z2 nb (.inr ⟨o0,hb⟩)
end
theorem zc8 {X:Cx}:PH X [] (fun _=>tNever):=fun _ _ _ _ _ _ _ _ _ _ _ _ _ _ h=>h.elim
theorem ZG {M:Model} {A:Around} {E:Value->Shared->Prop} {nm q nm' q':Str} {C N D N':Addr} {bs bs':List Value} {hdct hdct':Bool} {sn sn':List Str} {sub sub':List Value} {ab ab':Bool} {col col':Option Bool} {dd dd':Option Addr} {k0 k1 k2 k3 k5 l0 l1 l2 l3 l5:Option Value}
  {h:Heap} {g:Array GenState} {d:Drawn} {t:Nat} {os:OsState} {e:Addr} {oe:Obj} {Q:Bool->Shared->Prop}
  (hC:h.get? C=some (excClassObj nm q C N bs bmE hdct sn sub ab col dd k0 k1 k2 k3 k5 "Exception.__new__")) (hD:h.get? D=some (excClassObj nm' q' D N' bs' bmE hdct' sn' sub' ab' col' dd' l0 l1 l2 l3 l5 "Exception.__new__")) (he:h.get? e=some oe) (hcls:oe.cls=.ref C)
  (hq:Q (decide (C=D)) ⟨h,g,d,t,os⟩):wpAny M A (excMatches (.ref e) (.ref D)) Q E ⟨h,g,d,t,os⟩:=by
 have hcB:(Value.ref D::bmE).contains (.type "BaseException")=true:=rfl
 by_cases hcd:C=D
 ·subst hcd
  rw [decide_eq_true rfl] at hq
  exact wpAny_excMatches_sub_self hD he hcls rfl hq
 ·have hcC:(Value.ref C::bmE).contains (.ref D)=false:=by
   simp [List.contains_cons]
   exact fun z=>hcd z.symm
  have f:=tc_notTuple
  rw [decide_eq_false hcd] at hq
  unfold excMatches
  repeat (first | (with_reducible refine wpAny_loadPart_at he ?_;rw [hcls]) | with_reducible refine wpAny_loadPart_at hD ?_ | (with_reducible refine wpAny_isSubtype_exc hD ?_;rw [hcB]) | (with_reducible refine wpAny_isSubtype_exc hC ?_;rw [hcC]) | wp_step)
  all_goals (wp_walk;exact hq)
theorem YM {X:Cx} {x:Str} {Ch:Addr} {np pos:Pos} {b0:Stmt} {suite:List Stmt} {rest:List ExceptHandler} {t:TS} {th:Value->TS} (hg:Gl X x) (hm:X.mg x=some (.ref Ch)) (ex:Exc X.K Ch)
  (hs:∀e,PSs (X.caught e) (b0::suite) t) (hr:PH X rest th) (hd:(x == ("__debug__":Str))=false:=by decide) :
  PH X (.ExceptHandler (some (.Name x np)) none (b0::suite) pos::rest) (fun cls=>if cls=.ref Ch then t else th cls):=by
 intro pins s1 s σ H1 H' D a C B a0 I exC F h
 have I2:Inv X pins σ H' s:=jS.inv I F
 have I3:=I2.caught a
 refine wpAny_handleBy_cons (codeAny_handlers_test ?_) (by intro q;cases q)
 refine qU (X:=X.caught a) I3 hg hm ?_ hd
 obtain⟨nm,q,N,bs,hdct,sn,sub,ab,col,dd,k0,k1,k2,k3,k5,lk,_,_⟩:=exC.obj
 obtain⟨nm',q',N',bs',hdct',sn',sub',ab',col',dd',l0,l1,l2,l3,l5,lk',_,_⟩:=ex.obj
 obtain⟨ob,hob,hobc⟩:=F.fly.there
 obtain⟨hp,g,d,tk,os⟩:=s
 refine ZG (I2.kIn _ _ lk) (I2.kIn _ _ lk') hob hobc ?_
 by_cases hcd:C=Ch
 ·subst hcd
  rw [decide_eq_true rfl]
  have h:t D σ H':=by rw [if_pos rfl] at h;exact h
  refine codeAny_handlers_suite ?_
  refine lands_againW F.fly fun h6 fl6 up6=>?_
  have F6:=F.turn I fl6 up6
  have I6:Inv X pins σ H' _:=jS.inv I F6
  refine wpAny_mono (hs a pins _ σ H' D (I6.caught a) h) (fun f s2 q2=>?_) fun _ _ z=>z.elim
  cases f with
  | next=>obtain⟨σ',H2,J,q⟩:=q2;exact⟨σ',H2,J.uncaught I.ok,q⟩
  | brk=>obtain⟨σ',H2,J,q⟩:=q2;exact⟨σ',H2,J.uncaught I.ok,q⟩
  | cont=>obtain⟨σ',H2,J,q⟩:=q2;exact⟨σ',H2,J.uncaught I.ok,q⟩
  | ret u=>obtain⟨v,σ',H2,J,r,q⟩:=q2;exact⟨v,σ',H2,J.uncaught I.ok,r,q⟩
 ·rw [decide_eq_false hcd]
  have h:th (.ref C) D σ H':=by rw [if_neg (fun z=>hcd (by cases z;rfl))] at h;exact h
  exact hr pins s1 _ σ H1 H' D a C B a0 I exC F h
def tTry (KK:PySem.W.Frag) (tb:XK->TS) (th:Value->TS):TS:=fun D σ H=>tb (fun cls _ H'=>∃C,cls=.ref C/\Exc KK C/\∀σ',th cls D σ' H') D σ H
theorem zbw {X:Cx} {body:List Stmt} {h0:ExceptHandler} {hs:List ExceptHandler} {tb:XK->TS} {th:Value->TS} {pos:Pos} (fr:X.stack=X.env::X.outer) (fl:X.env.frame=some X.env.locals)
  (hb:∀(xe:Value->Shared->Prop) (pn:List (Addr×Obj)) (E:XK),jp (CXE X.prog X.w) (X.tried xe pn) E->PSs (X.tried xe pn) body (tb E)) (hh:PH X (h0::hs) th) :
  PS X (.Try body (h0::hs) [] [] pos) (tTry X.K tb th):=by
 intro pins s σ H D I h
 refine wpAny_Try_except ?_
 refine wpAny_mono (hb (fun e s1=>wpAny (model X.prog X.w) X.A (noteFrame e X.env) (fun _ s2=>wpAny (model X.prog X.w) X.A (setFlight e none) (fun _ s3=>wpAny (model X.prog X.w) X.A (handleBy e X.env (h0::hs)) (SP X pins D) X.xe s3) X.xe s2) X.xe s1)
  (X.pn++pins) _ ?_ [] s σ H D (I.tried _) h) (fun f s2 q2=>?_) fun _ _ z=>z
 ·rintro ps' σ' H1 s1 e s' I1 ⟨a,C,H',B,a0,rfl,F,C',ec,exC,q⟩
  cases ec
  have I1':Inv X pins σ' H1 s1:=I1.untried
  have F':jS X.prog X.w X.stack H1 s1 a C H' B a0 s':=F
  have frs':X.A.frames=some (X.env::X.outer):=by rw [<-fr];exact I.ok.frames
  have Ffly:=F'.fly
  rw [fr] at Ffly
  refine wpAny_looks_onW frs' fl Ffly fun h4 held up=>?_
  refine wpAny_landsW held fun h5 fl5 up5=>?_
  rw [<-fr] at fl5
  have z:jS X.prog X.w X.stack H1 s1 a C H' B a0 {s' with heap:=h5}:=F'.turn I1' fl5 (up.trans up5)
  exact hh pins s1 _ σ' H1 H' D a C B a0 I1' exC z (q σ')
 ·cases f with
  | next=>obtain⟨σ',H2,J,q⟩:=q2;exact wpAny_execs_nil ⟨σ',H2,J.untried,q⟩
  | brk=>obtain⟨σ',H2,J,q⟩:=q2;exact⟨σ',H2,J.untried,q⟩
  | cont=>obtain⟨σ',H2,J,q⟩:=q2;exact⟨σ',H2,J.untried,q⟩
  | ret u=>obtain⟨v,σ',H2,J,r,q⟩:=q2;exact⟨v,σ',H2,J.untried,r,q⟩
end L2
end
section
namespace Hm
open Vaheda (Hedge append nodes treeAt deep width saying children)
open Vahedl (Script Way endWay treesOf Paired choose lastRow rowWith rows wayOf told distance)
def hd:Hedge->Hedge
 | .nil=>.nil
 | .el a k _=>.el a k .nil
 | .tx t _=>.tx t .nil
def tl:Hedge->Hedge
 | .nil=>.nil
 | .el _ _ n=>n
 | .tx _ n=>n
theorem ya:∀h,nodes h=nodes (hd h)+nodes (tl h)
 | .nil=>rfl
 | .el a k n=>by simp [hd,tl,nodes]
 | .tx t n=>by simp [hd,tl,nodes]
theorem xY:∀{h:Hedge},h≠.nil->treesOf h=hd h::treesOf (tl h)
 | .nil,e=>absurd rfl e
 | .el a k n,_=>rfl
 | .tx t n,_=>rfl
def W (pair:Hedge->Hedge->Paired) (olds news:List Hedge):Way:=(rows pair news olds).headD endWay
theorem Yi (p:Hedge->Paired) (x y:Hedge) (r:List Hedge) (u:List Way):rowWith p x (y::r) u=choose x y (p y) ((u.drop 1).headD endWay) (u.headD endWay) ((rowWith p x r (u.drop 1)).headD endWay)::rowWith p x r (u.drop 1):=rfl
theorem V5 (pair:Hedge->Hedge->Paired) (y:Hedge) (ys:List Hedge):∀olds,∃w,rows pair (y::ys) olds=w::rows pair ys olds
 | []=>⟨_,rfl⟩
 | x::o=>by
  obtain⟨w,e⟩:=V5 pair y ys o
  refine⟨choose x y (pair x y) (((w::rows pair ys o).drop 1).headD endWay) ((w::rows pair ys o).headD endWay) ((rowWith (pair x) x ys ((w::rows pair ys o).drop 1)).headD endWay),?_⟩
  show rowWith (pair x) x (y::ys) (rows pair (y::ys) o)=_
  rw [Yi,e]
  rfl
theorem Zy (pair) (y:Hedge) (ys:List Hedge):W pair [] (y::ys)={cost:=nodes y+(W pair [] ys).cost,script:=.put y (W pair [] ys).script}:=rfl
theorem ZB (pair) (x:Hedge) (o:List Hedge):W pair (x::o) []={cost:=nodes x+(W pair o []).cost,script:=.drop (W pair o []).script}:=rfl
theorem Jm (pair) (x y:Hedge) (o ys:List Hedge):W pair (x::o) (y::ys)=choose x y (pair x y) (W pair o ys) (W pair o (y::ys)) (W pair (x::o) ys):=by
 obtain⟨w,e⟩:=V5 pair y ys o
 unfold W
 show(rowWith (pair x) x (y::ys) (rows pair (y::ys) o)).headD endWay=_
 rw [Yi,e]
 rfl
theorem qf {p q:Hedge->Hedge->Paired}:∀(olds news:List Hedge),(∀x∈olds,∀y,p x y=q x y)->W p olds news=W q olds news
 | [],[],_=>rfl
 | [],y::ys,h=>by rw [Zy,Zy,qf [] ys h]
 | x::o,[],h=>by rw [ZB,ZB,qf o [] fun z hz=>h z (List.mem_cons_of_mem _ hz)]
 | x::o,y::ys,h=>by
  have h':∀z∈o,∀y,p z y=q z y:=fun z hz=>h z (List.mem_cons_of_mem _ hz)
  rw [Jm,Jm,qf o ys h',qf o (y::ys) h',qf (x::o) ys h,h x List.mem_cons_self y]
termination_by o n=>o.length+n.length
def pairF (f:Nat) (x y:Hedge):Paired:=match x,y with
 | .el a k _,.el b j _=>some ((if a=b then 0 else 1)+(wayOf f k j).cost,.pairEl b (a != b) (wayOf f k j).script)
 | .tx t _,.tx u _=>some (if t=u then 0 else 1,.pairTx u (t != u))
 | _,_=>none
def pairT (x y:Hedge):Paired:=match x,y with
 | .el a k _,.el b j _=>some ((if a=b then 0 else 1)+(told k j).cost,.pairEl b (a != b) (told k j).script)
 | .tx t _,.tx u _=>some (if t=u then 0 else 1,.pairTx u (t != u))
 | _,_=>none
theorem JJ (f:Nat) (h g:Hedge):wayOf (f+1) h g=W (pairF f) (treesOf h) (treesOf g):=by
 show(rows _ (treesOf g) (treesOf h)).headD endWay=(rows _ (treesOf g) (treesOf h)).headD endWay
 congr 2
theorem JH:∀{h:Hedge} {a:Vaheda.Text} {k n:Hedge},Hedge.el a k n∈treesOf h->deep k+1<=deep h
 | .nil,_,_,_,m=>by cases m
 | .el b j r,a,k,n,m=>by
  rcases List.mem_cons.mp m with e | m
  ·cases e
   show _<=max (1+deep j) (deep r)
   omega
  ·have:=JH m
   show _<=max (1+deep j) (deep r)
   omega
 | .tx t r,a,k,n,m=>by
  rcases List.mem_cons.mp m with e | m
  ·cases e
  ·have:=JH m
   show _<=max 1 (deep r)
   omega
theorem fuel:∀(f:Nat) (h g:Hedge),deep h<=f->wayOf (f+1) h g=told h g
 | 0,h,g,e=>by
  have:deep h=0:=by omega
  unfold told
  rw [this]
 | f+1,h,g,e=>by
  by_cases q:deep h=f+1
  ·unfold told;rw [q]
  ·have ih:=fuel f h g (by omega)
   rw [<-ih,JJ,JJ]
   refine qf _ _ fun x hx y=>?_
   cases x with
   | nil=>rfl
   | tx t n=>cases y <;> rfl
   | el a k n=>
    cases y with
    | nil=>rfl
    | tx u m=>rfl
    | el b j m=>
     have:=JH hx
     show some _=some _
     cases f with
     | zero=>omega
     | succ f'=>rw [fuel (f'+1) k j (by omega),fuel f' k j (by omega)]
theorem jY (h g:Hedge):told h g=W pairT (treesOf h) (treesOf g):=by
 show wayOf (deep h+1) h g=_
 rw [JJ]
 refine qf _ _ fun x hx y=>?_
 cases x with
 | nil=>rfl
 | tx t n=>cases y <;> rfl
 | el a k n=>
  cases y with
  | nil=>rfl
  | tx u m=>rfl
  | el b j m=>
   have:=JH hx
   show some _=some _
   obtain⟨d,ed⟩:∃d,deep h=d+1:=⟨deep h - 1,by omega⟩
   rw [ed,fuel d k j (by omega)]
theorem Yd:told .nil .nil=endWay:=by rw [jY];rfl
theorem Ze {g:Hedge} (hg:g≠.nil):told .nil g={cost:=nodes (hd g)+(told .nil (tl g)).cost,script:=.put (hd g) (told .nil (tl g)).script}:=by
 rw [jY,xY hg,jY]
 rfl
theorem VG {h:Hedge} (hh:h≠.nil):told h .nil={cost:=nodes (hd h)+(told (tl h) .nil).cost,script:=.drop (told (tl h) .nil).script}:=by
 rw [jY,xY hh,jY]
 rfl
theorem Yg {h g:Hedge} (hh:h≠.nil) (hg:g≠.nil):told h g=choose (hd h) (hd g) (pairT (hd h) (hd g)) (told (tl h) (tl g)) (told (tl h) g) (told h (tl g)):=by
 rw [jY h g,xY hh,xY hg,Jm,jY (tl h) (tl g),jY (tl h) g,jY h (tl g),xY hg,xY hh]
def D (h g:Hedge):Nat:=(told h g).cost
def S (h g:Hedge):Script:=(told h g).script
def zq:Hedge->Bool
 | .tx _ _=>true
 | _=>false
def pc (h g:Hedge):Nat:=(if saying h=saying g then 0 else 1)+D (children h) (children g)
def yV (h g:Hedge) (n:Script):Script:=if zq g then .pairTx (saying g) (saying h != saying g) n else .pairEl (saying g) (saying h != saying g) (S (children h) (children g)) n
theorem qH:D .nil .nil=0:=by unfold D;rw [Yd];rfl
theorem j3:S .nil .nil=.nil:=by unfold S;rw [Yd];rfl
theorem Ud {h g:Hedge} (hh:h≠.nil) (hg:g≠.nil):pairT (hd h) (hd g)=if zq h=zq g then some (pc h g,yV h g) else none:=by
 cases h with
 | nil=>exact absurd rfl hh
 | el a k n=>
  cases g with
  | nil=>exact absurd rfl hg
  | el b j m=>rfl
  | tx u m=>rfl
 | tx t n=>
  cases g with
  | nil=>exact absurd rfl hg
  | el b j m=>rfl
  | tx u m=>
   show some _=some _
   have:pc (.tx t n) (.tx u m)=(if t=u then 0 else 1):=by
    unfold pc
    show(if t=u then 0 else 1)+D .nil .nil=_
    rw [qH];rfl
   rw [this]
   rfl
theorem qO:∀g,D .nil g=nodes g
 | .nil=>qH
 | .el a k n=>by
  unfold D
  rw [Ze (by intro z;cases z)]
  show nodes (hd (.el a k n))+D .nil n=_
  rw [qO n,ya (.el a k n)]
  rfl
 | .tx t n=>by
  unfold D
  rw [Ze (by intro z;cases z)]
  show nodes (hd (.tx t n))+D .nil n=_
  rw [qO n,ya (.tx t n)]
  rfl
theorem D_r:∀h,D h .nil=nodes h
 | .nil=>qH
 | .el a k n=>by
  unfold D
  rw [VG (by intro z;cases z)]
  show nodes (hd (.el a k n))+D n .nil=_
  rw [D_r n,ya (.el a k n)]
  rfl
 | .tx t n=>by
  unfold D
  rw [VG (by intro z;cases z)]
  show nodes (hd (.tx t n))+D n .nil=_
  rw [D_r n,ya (.tx t n)]
  rfl
theorem Yz {g:Hedge} (hg:g≠.nil):S .nil g=.put (hd g) (S .nil (tl g)):=by unfold S;rw [Ze hg]
theorem S_r {h:Hedge} (hh:h≠.nil):S h .nil=.drop (S (tl h) .nil):=by unfold S;rw [VG hh]
def dp (h g:Hedge):Nat:=min (nodes (hd h)+D (tl h) g) (nodes (hd g)+D h (tl g))
theorem zaw {x y:Hedge} {c:Nat} {f:Script->Script} {p d u:Way} (q:c+p.cost<=min (nodes x+d.cost) (nodes y+u.cost)):choose x y (some (c,f)) p d u={cost:=c+p.cost,script:=f p.script}:=by
 unfold choose
 dsimp only
 by_cases z:nodes x+d.cost<=nodes y+u.cost
 ·rw [if_pos z,if_pos (by dsimp only;omega)]
 ·rw [if_neg z,if_pos (by dsimp only;omega)]
theorem zas {x y:Hedge} {o:Paired} {p d u:Way} (q:∀c f,o=some (c,f)->¬c+p.cost<=min (nodes x+d.cost) (nodes y+u.cost)) (z:nodes x+d.cost<=nodes y+u.cost):choose x y o p d u={cost:=nodes x+d.cost,script:=.drop d.script}:=by
 unfold choose
 dsimp only
 cases o with
 | none=>rw [if_pos z]
 | some cf=>
  obtain⟨c,f⟩:=cf
  have:=q c f rfl
  dsimp only
  rw [if_pos z,if_neg (by dsimp only;omega)]
theorem zbx {x y:Hedge} {o:Paired} {p d u:Way} (q:∀c f,o=some (c,f)->¬c+p.cost<=min (nodes x+d.cost) (nodes y+u.cost)) (z:¬nodes x+d.cost<=nodes y+u.cost):choose x y o p d u={cost:=nodes y+u.cost,script:=.put y u.script}:=by
 unfold choose
 dsimp only
 cases o with
 | none=>rw [if_neg z]
 | some cf=>
  obtain⟨c,f⟩:=cf
  have:=q c f rfl
  dsimp only
  rw [if_neg z,if_neg (by dsimp only;omega)]
theorem Vf {h g:Hedge} (hh:h≠.nil) (hg:g≠.nil) (e:zq h=zq g) (c:pc h g+D (tl h) (tl g)<=dp h g):told h g={cost:=pc h g+D (tl h) (tl g),script:=yV h g (S (tl h) (tl g))}:=by
 rw [Yg hh hg,Ud hh hg,if_pos e]
 exact zaw c
theorem Nk {h g:Hedge} (hh:h≠.nil) (hg:g≠.nil) (n:zq h=zq g->¬pc h g+D (tl h) (tl g)<=dp h g):∀c f,pairT (hd h) (hd g)=some (c,f)->¬c+(told (tl h) (tl g)).cost<=min (nodes (hd h)+(told (tl h) g).cost) (nodes (hd g)+(told h (tl g)).cost):=by
 intro c f q
 rw [Ud hh hg] at q
 by_cases e:zq h=zq g
 ·rw [if_pos e] at q
  cases q
  exact n e
 ·rw [if_neg e] at q
  cases q
theorem Jc {h g:Hedge} (hh:h≠.nil) (hg:g≠.nil) (n:zq h=zq g->¬pc h g+D (tl h) (tl g)<=dp h g) (c:nodes (hd h)+D (tl h) g<=nodes (hd g)+D h (tl g)):told h g={cost:=nodes (hd h)+D (tl h) g,script:=.drop (S (tl h) g)}:=by
 rw [Yg hh hg]
 exact zas (Nk hh hg n) c
theorem JT {h g:Hedge} (hh:h≠.nil) (hg:g≠.nil) (n:zq h=zq g->¬pc h g+D (tl h) (tl g)<=dp h g) (c:¬nodes (hd h)+D (tl h) g<=nodes (hd g)+D h (tl g)):told h g={cost:=nodes (hd g)+D h (tl g),script:=.put (hd g) (S h (tl g))}:=by
 rw [Yg hh hg]
 exact zbx (Nk hh hg n) c
theorem Y8 {h g:Hedge} (hh:h≠.nil) (hg:g≠.nil) (e:¬zq h=zq g):D h g=dp h g:=by
 by_cases c:nodes (hd h)+D (tl h) g<=nodes (hd g)+D h (tl g)
 ·have:=congrArg Way.cost (Jc hh hg (fun z=>absurd z e) c)
  show(told h g).cost=_
  rw [this];unfold dp;dsimp only;omega
 ·have:=congrArg Way.cost (JT hh hg (fun z=>absurd z e) c)
  show(told h g).cost=_
  rw [this];unfold dp;dsimp only;omega
theorem J6 {h g:Hedge} (hh:h≠.nil) (hg:g≠.nil) (e:zq h=zq g):D h g=min (dp h g) (pc h g+D (tl h) (tl g)):=by
 by_cases p:pc h g+D (tl h) (tl g)<=dp h g
 ·have:=congrArg Way.cost (Vf hh hg e p)
  show(told h g).cost=_
  rw [this];dsimp only;omega
 ·by_cases c:nodes (hd h)+D (tl h) g<=nodes (hd g)+D h (tl g)
  ·have:=congrArg Way.cost (Jc hh hg (fun _=>p) c)
   show(told h g).cost=_
   rw [this];unfold dp at *;dsimp only;omega
  ·have:=congrArg Way.cost (JT hh hg (fun _=>p) c)
   show(told h g).cost=_
   rw [this];unfold dp at *;dsimp only;omega
theorem VJ {h g:Hedge} (hh:h≠.nil) (hg:g≠.nil) (e:zq h=zq g) (c:D h g=pc h g+D (tl h) (tl g)):S h g=yV h g (S (tl h) (tl g)):=
 congrArg Way.script (Vf hh hg e (by have:=J6 hh hg e;omega))
theorem OA {h g:Hedge} (hh:h≠.nil) (hg:g≠.nil) (n:¬(zq h=zq g/\D h g=pc h g+D (tl h) (tl g))) (c:D h g=nodes (hd h)+D (tl h) g):S h g=.drop (S (tl h) g):=by
 by_cases e:zq h=zq g
 ·have d:=J6 hh hg e
  have n':¬D h g=pc h g+D (tl h) (tl g):=fun z=>n ⟨e,z⟩
  exact congrArg Way.script (Jc hh hg (fun _=>by omega) (by unfold dp at d;omega))
 ·have d:=Y8 hh hg e
  exact congrArg Way.script (Jc hh hg (fun z=>absurd z e) (by unfold dp at d;omega))
theorem zan {h g:Hedge} (hh:h≠.nil) (hg:g≠.nil) (n:¬(zq h=zq g/\D h g=pc h g+D (tl h) (tl g))) (c:¬D h g=nodes (hd h)+D (tl h) g):S h g=.put (hd g) (S h (tl g)):=by
 by_cases e:zq h=zq g
 ·have d:=J6 hh hg e
  have n':¬D h g=pc h g+D (tl h) (tl g):=fun z=>n ⟨e,z⟩
  exact congrArg Way.script (JT hh hg (fun _=>by omega) (by unfold dp at d;omega))
 ·have d:=Y8 hh hg e
  exact congrArg Way.script (JT hh hg (fun z=>absurd z e) (by unfold dp at d;omega))
end Hm
end
section
namespace Hm
open Vaheda (Hedge append nodes treeAt deep width saying children)
open Vahedl (Script Way endWay treesOf told)
theorem Yw {M:Hedge->Hedge->Prop} (st:∀h g,(∀h' g',nodes h'+nodes g'<nodes h+nodes g->M h' g')->M h g) (h g:Hedge):M h g:=by
 have all:∀n h g,nodes h+nodes g<n->M h g:=by
  intro n
  induction n with
  | zero=>intro h g e;omega
  | succ n ih=>intro h g e;exact st h g fun h' g' e'=>ih h' g' (by omega)
 exact all _ h g (Nat.lt_succ_self _)
theorem ind1 {M:Hedge->Prop} (st:∀h,(∀h',nodes h'<nodes h->M h')->M h) (h:Hedge):M h:=by
 have all:∀n h,nodes h<n->M h:=by
  intro n
  induction n with
  | zero=>intro h e;omega
  | succ n ih=>intro h e;exact st h fun h' e'=>ih h' (by omega)
 exact all _ h (Nat.lt_succ_self _)
theorem yT {h:Hedge} (hh:h≠.nil):nodes (hd h)=1+nodes (children h):=by
 cases h with
 | nil=>exact absurd rfl hh
 | el a k n=>rfl
 | tx t n=>rfl
theorem zX {h:Hedge} (hh:h≠.nil):nodes h=1+nodes (children h)+nodes (tl h):=by rw [ya,yT hh]
theorem ext1 {h g:Hedge} (hh:h≠.nil) (hg:g≠.nil) (e:zq h=zq g) (s:saying h=saying g) (c:children h=children g) (t:tl h=tl g):h=g:=by
 cases h with
 | nil=>exact absurd rfl hh
 | el a k n=>
  cases g with
  | nil=>exact absurd rfl hg
  | el b j m=>cases s;cases c;cases t;rfl
  | tx u m=>cases e
 | tx x n=>
  cases g with
  | nil=>exact absurd rfl hg
  | el b j m=>cases e
  | tx u m=>cases s;cases t;rfl
theorem zd8 {h:Hedge} (hh:h≠.nil) (g:Hedge):D h g<=nodes (hd h)+D (tl h) g:=by
 by_cases hg:g=.nil
 ·subst hg;rw [D_r,D_r,ya];omega
 ·by_cases e:zq h=zq g
  ·have:=J6 hh hg e;unfold dp at this;omega
  ·have:=Y8 hh hg e;unfold dp at this;omega
theorem Iq (h:Hedge) {g:Hedge} (hg:g≠.nil):D h g<=nodes (hd g)+D h (tl g):=by
 by_cases hh:h=.nil
 ·subst hh;rw [qO,qO,ya];omega
 ·by_cases e:zq h=zq g
  ·have:=J6 hh hg e;unfold dp at this;omega
  ·have:=Y8 hh hg e;unfold dp at this;omega
theorem OL {h g:Hedge} (hh:h≠.nil) (hg:g≠.nil) (e:zq h=zq g):D h g<=pc h g+D (tl h) (tl g):=by
 have:=J6 hh hg e;omega
theorem UT {h g:Hedge} (hh:h≠.nil) (hg:g≠.nil):(zq h=zq g/\D h g=pc h g+D (tl h) (tl g))\/D h g=nodes (hd h)+D (tl h) g\/D h g=nodes (hd g)+D h (tl g):=by
 by_cases e:zq h=zq g
 ·have q:=J6 hh hg e
  unfold dp at q
  by_cases z:D h g=pc h g+D (tl h) (tl g)
  ·exact .inl ⟨e,z⟩
  ·refine .inr ?_
   generalize nodes (hd h)+D (tl h) g=u at *
   generalize nodes (hd g)+D h (tl g)=v at *
   omega
 ·have q:=Y8 hh hg e
  unfold dp at q
  refine .inr ?_
  generalize nodes (hd h)+D (tl h) g=u at *
  generalize nodes (hd g)+D h (tl g)=v at *
  omega
theorem VO (h g:Hedge):D h g=D g h:=by
 refine Yw (M:=fun h g=>D h g=D g h) (fun h g ih=>?_) h g
 by_cases hh:h=.nil
 ·subst hh;rw [qO,D_r]
 by_cases hg:g=.nil
 ·subst hg;rw [qO,D_r]
 have n1:=zX hh
 have n2:=zX hg
 have i1:=ih (tl h) g (by omega)
 have i2:=ih h (tl g) (by omega)
 have i3:=ih (tl h) (tl g) (by omega)
 have i4:=ih (children h) (children g) (by omega)
 by_cases e:zq h=zq g
 ·have a:=J6 hh hg e
  have b:=J6 hg hh e.symm
  have p:pc h g=pc g h:=by
   unfold pc
   rw [i4]
   by_cases q:saying h=saying g
   ·rw [if_pos q,if_pos q.symm]
   ·rw [if_neg q,if_neg fun z=>q z.symm]
  unfold dp at a b
  omega
 ·have a:=Y8 hh hg e
  have b:=Y8 hg hh fun z=>e z.symm
  unfold dp at a b
  omega
theorem IT (h g:Hedge):nodes h<=D h g+nodes g:=by
 refine Yw (M:=fun h g=>nodes h<=D h g+nodes g) (fun h g ih=>?_) h g
 by_cases hh:h=.nil
 ·subst hh;exact Nat.zero_le _
 by_cases hg:g=.nil
 ·subst hg;rw [D_r];omega
 have n1:=zX hh
 have n2:=zX hg
 have m1:=yT hh
 have m2:=yT hg
 have i1:=ih (tl h) g (by omega)
 have i2:=ih h (tl g) (by omega)
 have i3:=ih (tl h) (tl g) (by omega)
 have i4:=ih (children h) (children g) (by omega)
 rcases UT hh hg with ⟨_,c⟩ | c | c
 ·unfold pc at c;omega
 ·omega
 ·omega
theorem Ia (h g:Hedge):nodes g<=D h g+nodes h:=by rw [VO];exact IT g h
theorem Oj (h g:Hedge):D (tl h) g<=D h g+nodes (hd h):=by
 refine Yw (M:=fun h g=>D (tl h) g<=D h g+nodes (hd h)) (fun h g ih=>?_) h g
 by_cases hh:h=.nil
 ·subst hh;exact Nat.le_add_right _ _
 by_cases hg:g=.nil
 ·subst hg;rw [D_r,D_r,ya h];omega
 have n2:=zX hg
 have m1:=yT hh
 have m2:=yT hg
 have i2:=ih h (tl g) (by omega)
 have b:=Iq (tl h) hg
 rcases UT hh hg with ⟨_,c⟩ | c | c
 ·have:=Ia (children h) (children g)
  unfold pc at c
  omega
 ·omega
 ·omega
theorem zcj (h g:Hedge):D h (tl g)<=D h g+nodes (hd g):=by
 rw [VO h (tl g),VO h g]
 exact Oj g h
theorem zcg (h:Hedge):D h h=0:=by
 refine ind1 (M:=fun h=>D h h=0) (fun h ih=>?_) h
 by_cases hh:h=.nil
 ·subst hh;exact qH
 have n1:=zX hh
 have b:=OL hh hh rfl
 have p:pc h h=0:=by unfold pc;rw [if_pos rfl,ih (children h) (by omega)]
 have:=ih (tl h) (by omega)
 omega
theorem JU {h g:Hedge} (hh:h≠.nil) (hg:g≠.nil) (e:zq h=zq g) (s:saying h=saying g) (c:children h=children g):D h g=D (tl h) (tl g)/\S h g=yV h g (S (tl h) (tl g)):=by
 have p:pc h g=0:=by unfold pc;rw [if_pos s,c,zcg]
 have m1:=yT hh
 have m2:=yT hg
 have a1:=zcj (tl h) g
 have a2:=Oj h (tl g)
 have q:=J6 hh hg e
 have q':D h g=pc h g+D (tl h) (tl g):=by rw [c] at m1;unfold dp at q;omega
 exact⟨by omega,VJ hh hg e q'⟩
theorem Jz {h g:Hedge} (hh:h≠.nil) (hg:g≠.nil):(zq h=zq g/\S h g=yV h g (S (tl h) (tl g)))\/S h g=.drop (S (tl h) g)\/S h g=.put (hd g) (S h (tl g)):=by
 by_cases n:zq h=zq g/\D h g=pc h g+D (tl h) (tl g)
 ·exact .inl ⟨n.1,VJ hh hg n.1 n.2⟩
 ·by_cases c:D h g=nodes (hd h)+D (tl h) g
  ·exact .inr (.inl (OA hh hg n c))
  ·exact .inr (.inr (zan hh hg n c))
theorem Yy {g:Hedge} (hg:g≠.nil):append (hd g) (tl g)=g:=by
 cases g with
 | nil=>exact absurd rfl hg
 | el a k n=>rfl
 | tx t n=>rfl
theorem xh (h g:Hedge):Vahedn.result (S h g)=g:=by
 refine Yw (M:=fun h g=>Vahedn.result (S h g)=g) (fun h g ih=>?_) h g
 by_cases hg:g=.nil
 ·subst hg
  by_cases hh:h=.nil
  ·subst hh;rw [j3];rfl
  ·rw [S_r hh]
   exact ih (tl h) .nil (by have:=zX hh;show _+0<_+0;omega)
 have n2:=zX hg
 by_cases hh:h=.nil
 ·subst hh
  rw [Yz hg]
  show append (hd g) (Vahedn.result _)=g
  rw [ih .nil (tl g) (by show 0+_<0+_;omega),Yy hg]
 have n1:=zX hh
 rcases Jz hh hg with ⟨e,q⟩ | q | q
 ·rw [q]
  unfold yV
  have i1:=ih (tl h) (tl g) (by omega)
  have i2:=ih (children h) (children g) (by omega)
  cases g with
  | nil=>exact absurd rfl hg
  | el b j m=>
   rw [if_neg (by simp [zq])]
   show Hedge.el b (Vahedn.result _) (Vahedn.result _)=_
   rw [i1,i2]
   rfl
  | tx u m=>
   show Hedge.tx u (Vahedn.result _)=_
   rw [i1]
   rfl
 ·rw [q]
  exact ih (tl h) g (by omega)
 ·rw [q]
  show append (hd g) (Vahedn.result _)=g
  rw [ih h (tl g) (by omega),Yy hg]
theorem O0 (h:Hedge):Vahedn.alone (S h h)=true:=by
 refine ind1 (M:=fun h=>Vahedn.alone (S h h)=true) (fun h ih=>?_) h
 by_cases hh:h=.nil
 ·subst hh;rw [j3];rfl
 have n1:=zX hh
 rw [(JU hh hh rfl rfl rfl).2]
 unfold yV
 have i1:=ih (tl h) (by omega)
 have i2:=ih (children h) (by omega)
 have b:(saying h != saying h)=false:=by simp
 rw [b]
 split
 ·show(!false && Vahedn.alone _)=true
  rw [i1];rfl
 ·show(!false && (Vahedn.alone _ && Vahedn.alone _))=true
  rw [i1,i2];rfl
theorem zbf (h g:Hedge):Vahedn.alone (S h g)=true->h=g:=by
 refine Yw (M:=fun h g=>Vahedn.alone (S h g)=true->h=g) (fun h g ih=>?_) h g
 intro q
 by_cases hg:g=.nil
 ·subst hg
  by_cases hh:h=.nil
  ·exact hh
  ·rw [S_r hh] at q;cases q
 have n2:=zX hg
 by_cases hh:h=.nil
 ·subst hh
  rw [Yz hg] at q;cases q
 have n1:=zX hh
 rcases Jz hh hg with ⟨e,z⟩ | z | z
 ·rw [z] at q
  unfold yV at q
  by_cases t:zq g=true
  ·rw [if_pos t] at q
   have q:(!(saying h != saying g) && Vahedn.alone (S (tl h) (tl g)))=true:=q
   rw [Bool.and_eq_true] at q
   refine ext1 hh hg e (by simpa using q.1) ?_ (ih (tl h) (tl g) (by omega) q.2)
   cases h with
   | nil=>exact absurd rfl hh
   | el a k n=>rw [t] at e;cases e
   | tx x n=>
    cases g with
    | nil=>exact absurd rfl hg
    | el b j m=>cases e
    | tx u m=>rfl
  ·rw [if_neg t] at q
   have q:(!(saying h != saying g) && (Vahedn.alone (S (children h) (children g)) && Vahedn.alone (S (tl h) (tl g))))=true:=q
   rw [Bool.and_eq_true,Bool.and_eq_true] at q
   exact ext1 hh hg e (by simpa using q.1) (ih (children h) (children g) (by omega) q.2.1) (ih (tl h) (tl g) (by omega) q.2.2)
 ·rw [z] at q;cases q
 ·rw [z] at q;cases q
theorem Id (h g:Hedge):Vahedn.alone (S h g)=decide (h=g):=by
 by_cases e:h=g
 ·subst e;rw [O0,decide_eq_true rfl]
 ·rw [decide_eq_false e]
  cases q:Vahedn.alone (S h g) with
  | false=>rfl
  | true=>exact absurd (zbf h g q) e
end Hm
end
section
namespace Hm
open Vaheda (Hedge append nodes treeAt deep width saying children Path)
open Vahedl (Script Way endWay treesOf told)
open Vahedn (Slot Fate slots alone leftAlone result paired Conflict Outcome nothing puts given clash dropped rowOf)
theorem append_nil:∀h:Hedge,append h .nil=h
 | .nil=>rfl
 | .el a k n=>by show Hedge.el a k (append n .nil)=_;rw [append_nil n]
 | .tx t n=>by show Hedge.tx t (append n .nil)=_;rw [append_nil n]
theorem append_assoc:∀h g k:Hedge,append (append h g) k=append h (append g k)
 | .nil,_,_=>rfl
 | .el a k n,g,j=>by show Hedge.el a k (append (append n g) j)=Hedge.el a k _;rw [append_assoc n g j]
 | .tx t n,g,j=>by show Hedge.tx t (append (append n g) j)=Hedge.tx t _;rw [append_assoc n g j]
def Of:Hedge->Script->Prop
 | .nil,.nil=>True
 | h,.put _ n=>Of h n
 | .el _ _ r,.drop n=>Of r n
 | .tx _ r,.drop n=>Of r n
 | .el a k r,.pairEl b c j n=>c=(a != b)/\Of k j/\Of r n
 | .tx x r,.pairTx u c n=>c=(x != u)/\Of r n
 | _,_=>False
theorem VE {h t:Hedge} {n:Script}:Of h (.put t n)=Of h n:=by cases h <;> rfl
theorem N5 {h:Hedge} {n:Script} (hh:h≠.nil):Of h (.drop n)=Of (tl h) n:=by
 cases h with
 | nil=>exact absurd rfl hh
 | el a k r=>rfl
 | tx x r=>rfl
theorem JL (h g:Hedge):Of h (S h g):=by
 refine Yw (M:=fun h g=>Of h (S h g)) (fun h g ih=>?_) h g
 by_cases hg:g=.nil
 ·subst hg
  by_cases hh:h=.nil
  ·subst hh;rw [j3];trivial
  ·rw [S_r hh,N5 hh]
   exact ih (tl h) .nil (by have:=zX hh;show _+0<_+0;omega)
 have n2:=zX hg
 by_cases hh:h=.nil
 ·subst hh
  rw [Yz hg,VE]
  exact ih .nil (tl g) (by show 0+_<0+_;omega)
 have n1:=zX hh
 rcases Jz hh hg with ⟨e,q⟩ | q | q
 ·rw [q]
  have i1:=ih (tl h) (tl g) (by omega)
  have i2:=ih (children h) (children g) (by omega)
  unfold yV
  cases h with
  | nil=>exact absurd rfl hh
  | el a k n=>
   cases g with
   | nil=>exact absurd rfl hg
   | el b j m=>exact⟨rfl,i2,i1⟩
   | tx u m=>cases e
  | tx x n=>
   cases g with
   | nil=>exact absurd rfl hg
   | el b j m=>cases e
   | tx u m=>exact⟨rfl,i1⟩
 ·rw [q,N5 hh]
  exact ih (tl h) g (by omega)
 ·rw [q,VE]
  exact ih h (tl g) (by omega)
def yp (h:Hedge) (f:Fate):Prop:=match h,f with
 | .nil,_=>False
 | _,.gone=>True
 | .el a k _,.el b c j=>c=(a != b)/\Of k j
 | .tx x _,.tx u c=>c=(x != u)
 | _,_=>False
inductive Row:Hedge->List Slot->Prop where
 | nil:Row .nil []
 | cons {h:Hedge} {z:Slot} {r:List Slot}:h≠.nil->yp h z.fate->Row (tl h) r->Row h (z::r)
theorem Of.row:∀{s:Script} {h acc:Hedge},Of h s->Row h (slots acc s).1
 | .nil,h,acc,e=>by
  cases h with
  | nil=>exact .nil
  | el a k n=>exact e.elim
  | tx x n=>exact e.elim
 | .put t n,h,acc,e=>by
  rw [VE] at e
  exact Of.row (s:=n) (acc:=append acc t) e
 | .drop n,h,acc,e=>by
  cases h with
  | nil=>exact e.elim
  | el a k r=>exact .cons (by intro z;cases z) trivial (Of.row (s:=n) (acc:=.nil) e)
  | tx x r=>exact .cons (by intro z;cases z) trivial (Of.row (s:=n) (acc:=.nil) e)
 | .pairEl b c j n,h,acc,e=>by
  cases h with
  | nil=>exact e.elim
  | el a k r=>exact .cons (by intro z;cases z) ⟨e.1,e.2.1⟩ (Of.row (s:=n) (acc:=.nil) e.2.2)
  | tx x r=>exact e.elim
 | .pairTx u c n,h,acc,e=>by
  cases h with
  | nil=>exact e.elim
  | el a k r=>exact e.elim
  | tx x r=>exact .cons (by intro z;cases z) e.1 (Of.row (s:=n) (acc:=.nil) e.2)
def cat (a b:Outcome):Outcome:={hedge:=append a.hedge b.hedge,conflicts:=a.conflicts++b.conflicts}
theorem jC (a:Outcome):cat a nothing=a:=by
 obtain⟨h,c⟩:=a
 show Outcome.mk (append h .nil) (c++[])=_
 rw [append_nil,List.append_nil]
theorem Yh (a b c:Outcome):cat (cat a b) c=cat a (cat b c):=by
 show Outcome.mk _ _=Outcome.mk _ _
 rw [show append (cat a b).hedge c.hedge=append a.hedge (cat b c).hedge from append_assoc _ _ _,show(cat a b).conflicts++c.conflicts=a.conflicts++(cat b c).conflicts from List.append_assoc _ _ _]
def yd (first:Bool) (f:Nat) (p:Path) (z1 z2:Fate):Outcome:=match z1,z2 with
 | .gone,.gone=>nothing
 | .gone,g=>dropped true first p g
 | g,.gone=>dropped false first p g
 | .tx a c,.tx b d=>{hedge:=.tx (given first a c b d).1 .nil,conflicts:=clash (given first a c b d).2 p}
 | .el a c j,.el b d k=>{hedge:=.el (given first a c b d).1 (rowOf first f p j k).hedge .nil,conflicts:=clash (given first a c b d).2 p++(rowOf first f p j k).conflicts}
 | _,_=>nothing
def J9 (first:Bool) (f:Nat) (above:Path) (xl yl:Hedge):Nat->List Slot->List Slot->Outcome
 | i,x::xs,y::ys=>cat (puts first (above++[i]) x.before y.before) (cat (yd first f (above++[i]) x.fate y.fate) (J9 first f above xl yl (i+1) xs ys))
 | i,_,_=>puts first (above++[i]) xl yl
theorem On (l:List Outcome):∀h,l.foldl (fun h o=>append h o.hedge) h=append h (l.foldl (fun h o=>append h o.hedge) .nil):=by
 induction l with
 | nil=>intro h;exact(append_nil h).symm
 | cons o l ih=>intro h;rw [List.foldl_cons,List.foldl_cons,ih,ih (append .nil o.hedge),append_assoc];rfl
def jT (l:List Outcome):Outcome:={hedge:=l.foldl (fun h o=>append h o.hedge) .nil,conflicts:=l.flatMap fun o=>o.conflicts}
theorem xJ (o:Outcome) (l:List Outcome):jT (o::l)=cat o (jT l):=by
 unfold jT cat
 rw [List.foldl_cons,On]
 rfl
theorem YO (l m:List Outcome):jT (l++m)=cat (jT l) (jT m):=by
 induction l with
 | nil=>rfl
 | cons o l ih=>rw [List.cons_append,xJ,ih,xJ,Yh]
theorem Z1 (o:Outcome):jT [o]=o:=by rw [xJ];exact jC o
def Z0 (first:Bool) (f:Nat) (above:Path) (z:Nat×Slot×Slot):List Outcome:=[puts first (above++[z.1]) z.2.1.before z.2.2.before,yd first f (above++[z.1]) z.2.1.fate z.2.2.fate]
theorem JF (first:Bool) (f:Nat) (above:Path) (s t:Script):rowOf first (f+1) above s t =
  jT (((List.range (slots .nil s).1.length).zip ((slots .nil s).1.zip (slots .nil t).1)).flatMap (Z0 first f above)++[puts first (above++[(slots .nil s).1.length]) (slots .nil s).2 (slots .nil t).2]):=rfl
theorem Vl (first:Bool) (f:Nat) (above:Path) (xl yl:Hedge):∀(xs ys:List Slot) (i:Nat),xs.length=ys.length ->
  jT (((List.range' i xs.length).zip (xs.zip ys)).flatMap (Z0 first f above)++[puts first (above++[i+xs.length]) xl yl])=J9 first f above xl yl i xs ys
 | [],[],i,_=>Z1 _
 | [],_::_,_,e=>by cases e
 | _::_,[],_,e=>by cases e
 | x::xs,y::ys,i,e=>by
  have ih:=Vl first f above xl yl xs ys (i+1) (by simpa using e)
  show jT (([puts first (above++[i]) x.before y.before,yd first f (above++[i]) x.fate y.fate]++((List.range' (i+1) xs.length).zip (xs.zip ys)).flatMap (Z0 first f above))++_)=_
  rw [List.append_assoc,List.cons_append,List.cons_append,List.nil_append,xJ,xJ]
  rw [show i+(x::xs).length=i+1+xs.length by rw [List.length_cons];omega,ih]
  rfl
theorem jP (first:Bool) (f:Nat) (above:Path) (s t:Script) (e:(slots .nil s).1.length=(slots .nil t).1.length) :
  rowOf first (f+1) above s t=J9 first f above (slots .nil s).2 (slots .nil t).2 0 (slots .nil s).1 (slots .nil t).1:=by
 rw [JF,List.range_eq_range']
 have:=Vl first f above (slots .nil s).2 (slots .nil t).2 (slots .nil s).1 (slots .nil t).1 0 e
 rw [Nat.zero_add] at this
 exact this
theorem Row.len:∀{h:Hedge} {xs:List Slot},Row h xs->xs.length=width h
 | _,_,.nil=>rfl
 | h,_,.cons hh _ r=>by
  rw [List.length_cons,r.len]
  cases h with
  | nil=>exact absurd rfl hh
  | el a k n=>exact Nat.add_comm _ _
  | tx x n=>exact Nat.add_comm _ _
theorem Va (spot:Path) (x y:Hedge):puts false spot x y=puts true spot y x:=by
 unfold puts
 by_cases hx:x=.nil
 ·subst hx
  rw [if_pos rfl]
  by_cases hy:y=.nil
  ·subst hy;rw [if_pos rfl]
  ·rw [if_neg hy,if_pos (.inl rfl)]
 ·rw [if_neg hx]
  by_cases hy:y=.nil
  ·subst hy;rw [if_pos (.inl rfl),if_pos rfl]
  ·rw [if_neg hy]
   by_cases e:x=y
   ·subst e;rw [if_pos (.inr rfl),if_pos (.inr rfl)]
   ·rw [if_neg (show ¬(y=.nil\/x=y) from fun z=>z.elim hy e),if_neg (show ¬(x=.nil\/y=x) from fun z=>z.elim hx fun q=>e q.symm)]
    rfl
theorem Zq {x a b:Vaheda.Text}:given false a (x != a) b (x != b)=given true b (x != b) a (x != a):=by
 unfold given
 by_cases ha:x=a
 ·subst ha
  by_cases hb:x=b
  ·subst hb;rfl
  ·have e:(x != b)=true:=by simpa using hb
   simp [e]
 ·have ea:(x != a)=true:=by simpa using ha
  by_cases hb:x=b
  ·subst hb;simp [ea]
  ·have e:(x != b)=true:=by simpa using hb
   simp [e,ea]
   by_cases q:a=b
   ·subst q;rfl
   ·rw [beq_eq_false_iff_ne.mpr q,beq_eq_false_iff_ne.mpr fun z=>q z.symm]
theorem xU (d:Bool) (p:Path) (g:Fate):dropped d false p g=dropped (!d) true p g:=by
 unfold dropped
 cases d <;> rfl
theorem Nt {f:Nat} {p:Path} {h:Hedge} {z1 z2:Fate} (o1:yp h z1) (o2:yp h z2) (ih:∀(k:Hedge) (s t:Script),Of k s->Of k t->rowOf false f p s t=rowOf true f p t s):yd false f p z1 z2=yd true f p z2 z1:=by
 cases h with
 | nil=>exact o1.elim
 | el a k n=>
  cases z1 with
  | gone=>
   cases z2 with
   | gone=>rfl
   | el b c j=>exact xU _ _ _
   | tx u c=>exact xU _ _ _
  | el b c j=>
   cases z2 with
   | gone=>exact xU _ _ _
   | el b' c' j'=>
    obtain⟨rfl,o1⟩:=o1
    obtain⟨rfl,o2⟩:=o2
    show Outcome.mk _ _=Outcome.mk _ _
    rw [Zq,ih k j j' o1 o2]
   | tx u c'=>exact o2.elim
  | tx u c=>exact o1.elim
 | tx x n=>
  cases z1 with
  | gone=>
   cases z2 with
   | gone=>rfl
   | el b c j=>exact xU _ _ _
   | tx u c=>exact xU _ _ _
  | el b c j=>exact o1.elim
  | tx u c=>
   cases z2 with
   | gone=>exact xU _ _ _
   | el b' c' j'=>exact o2.elim
   | tx u' c'=>
    obtain rfl:c=_:=o1
    obtain rfl:c'=_:=o2
    show Outcome.mk _ _=Outcome.mk _ _
    rw [Zq]
theorem OZ {f:Nat} {above:Path} (xl yl:Hedge) (ih:∀(p:Path) (k:Hedge) (s t:Script),Of k s->Of k t->rowOf false f p s t=rowOf true f p t s) {h:Hedge} {xs:List Slot} (r1:Row h xs):∀{ys:List Slot} (i:Nat),Row h ys->J9 false f above xl yl i xs ys=J9 true f above yl xl i ys xs:=by
 induction r1 with
 | nil=>
  intro ys i r2
  cases r2 with
  | nil=>exact Va _ _ _
  | cons hh _ _=>exact absurd rfl hh
 | @cons h z r hh sl rr ihr=>
  intro ys i r2
  cases r2 with
  | nil=>exact absurd rfl hh
  | @cons _ z2 r2' _ sl2 rr2=>
   show cat _ (cat _ _)=cat _ (cat _ _)
   rw [Va,ihr (i+1) rr2,Nt sl sl2 fun k s t a b=>ih _ k s t a b]
theorem U1:∀(f:Nat) (above:Path) (h:Hedge) (s t:Script),Of h s->Of h t->rowOf false f above s t=rowOf true f above t s
 | 0,_,_,_,_,_,_=>rfl
 | f+1,above,h,s,t,hs,ht=>by
  have rs:=hs.row (acc:=.nil)
  have rt:=ht.row (acc:=.nil)
  rw [jP _ _ _ _ _ (rs.len.trans rt.len.symm),jP _ _ _ _ _ (rt.len.trans rs.len.symm)]
  exact OZ _ _ (fun p k s t a b=>U1 f p k s t a b) rs 0 rt
def res:List Slot->Hedge->Hedge
 | [],l=>l
 | z::r,l=>append z.before (append (paired z.fate) (res r l))
theorem yq:∀(s:Script) (acc:Hedge),res (slots acc s).1 (slots acc s).2=append acc (result s)
 | .nil,acc=>(append_nil acc).symm
 | .put t n,acc=>by
  show res (slots (append acc t) n).1 (slots (append acc t) n).2=append acc (append t (result n))
  rw [yq n,append_assoc]
 | .drop n,acc=>by
  show append acc (append .nil (res (slots .nil n).1 (slots .nil n).2))=append acc (result n)
  rw [yq n];rfl
 | .pairEl a c k n,acc=>by
  show append acc (append (.el a (result k) .nil) (res (slots .nil n).1 (slots .nil n).2))=append acc (.el a (result k) (result n))
  rw [yq n];rfl
 | .pairTx t c n,acc=>by
  show append acc (append (.tx t .nil) (res (slots .nil n).1 (slots .nil n).2))=append acc (.tx t (result n))
  rw [yq n];rfl
def Idle (xs:List Slot):Prop:=∀z∈xs,z.before=.nil/\leftAlone z.fate=true
theorem qL:∀(s:Script),alone s=true->Idle (slots .nil s).1/\(slots .nil s).2=.nil
 | .nil,_=>⟨(fun z m=>by cases m),rfl⟩
 | .put _ _,e=>by cases e
 | .drop _,e=>by cases e
 | .pairEl a c k n,e=>by
  have e:(!c && (alone k && alone n))=true:=e
  rw [Bool.and_eq_true,Bool.and_eq_true] at e
  obtain⟨i1,i2⟩:=qL n e.2.2
  refine⟨fun z m=>?_,i2⟩
  rcases List.mem_cons.mp m with rfl | m
  ·exact⟨rfl,by show(!c && alone k)=true;rw [Bool.and_eq_true];exact⟨e.1,e.2.1⟩⟩
  ·exact i1 z m
 | .pairTx t c n,e=>by
  have e:(!c && alone n)=true:=e
  rw [Bool.and_eq_true] at e
  obtain⟨i1,i2⟩:=qL n e.2
  refine⟨fun z m=>?_,i2⟩
  rcases List.mem_cons.mp m with rfl | m
  ·exact⟨rfl,e.1⟩
  ·exact i1 z m
theorem jU (b:Bool) (p:Path) (y:Hedge):puts b p .nil y={hedge:=y,conflicts:=[]}:=by unfold puts;rw [if_pos rfl]
theorem qN (b:Bool) (p:Path) (x:Hedge):puts b p x .nil={hedge:=x,conflicts:=[]}:=by
 unfold puts
 by_cases h:x=.nil
 ·subst h;rw [if_pos rfl]
 ·rw [if_neg h,if_pos (.inl rfl)]
theorem xD {d b:Bool} {p:Path} {g:Fate} (h:leftAlone g=true):dropped d b p g=nothing:=by unfold dropped;rw [if_pos h]
theorem Y7 {f:Nat} {p:Path} {h:Hedge} {z1 z2:Fate} (o1:yp h z1) (o2:yp h z2) (al:leftAlone z1=true)
  (ih:∀(s t:Script),Of (children h) s->Of (children h) t->alone s=true->rowOf true f p s t={hedge:=result t,conflicts:=[]}):yd true f p z1 z2={hedge:=paired z2,conflicts:=[]}:=by
 cases h with
 | nil=>exact o1.elim
 | el a k n=>
  cases z1 with
  | gone=>cases al
  | el b c j=>
   have al:(!c && alone j)=true:=al
   rw [Bool.and_eq_true] at al
   cases z2 with
   | gone=>exact xD (by show(!c && alone j)=true;rw [Bool.and_eq_true];exact al)
   | el b' c' j'=>
    have ec:c=false:=by simpa using al.1
    subst ec
    show Outcome.mk _ _=Outcome.mk _ _
    rw [ih j j' o1.2 o2.2 al.2]
    rfl
   | tx u c'=>exact o2.elim
  | tx u c=>exact o1.elim
 | tx x n=>
  cases z1 with
  | gone=>cases al
  | el b c j=>exact o1.elim
  | tx u c=>
   have al:(!c)=true:=al
   cases z2 with
   | gone=>exact xD al
   | el b' c' j'=>exact o2.elim
   | tx u' c'=>
    have ec:c=false:=by simpa using al
    subst ec
    rfl
theorem Y6 {x a:Vaheda.Text} {b:Vaheda.Text} (e:(x != b)=false):given true a (x != a) b (x != b)=(a,false):=by
 have e':x=b:=by simpa using e
 subst e'
 unfold given
 rw [e,Bool.and_false]
 by_cases q:x=a
 ·subst q;rw [e];rfl
 ·have:(x != a)=true:=by simpa using q
  rw [this];rfl
theorem Y5 {f:Nat} {p:Path} {h:Hedge} {z1 z2:Fate} (o1:yp h z1) (o2:yp h z2) (al:leftAlone z2=true)
  (ih:∀(s t:Script),Of (children h) s->Of (children h) t->alone t=true->rowOf true f p s t={hedge:=result s,conflicts:=[]}):yd true f p z1 z2={hedge:=paired z1,conflicts:=[]}:=by
 cases h with
 | nil=>exact o1.elim
 | el a k n=>
  cases z2 with
  | gone=>cases al
  | el b c j=>
   have al:(!c && alone j)=true:=al
   rw [Bool.and_eq_true] at al
   cases z1 with
   | gone=>exact xD (by show(!c && alone j)=true;rw [Bool.and_eq_true];exact al)
   | el b' c' j'=>
    have ec:c=false:=by simpa using al.1
    obtain⟨rfl,o2⟩:=o2
    obtain⟨rfl,o1⟩:=o1
    show Outcome.mk _ _=Outcome.mk _ _
    rw [ih j' j o1 o2 al.2,Y6 ec]
    rfl
   | tx u c'=>exact o1.elim
  | tx u c=>exact o2.elim
 | tx x n=>
  cases z2 with
  | gone=>cases al
  | el b c j=>exact o2.elim
  | tx u c=>
   have al:(!c)=true:=al
   cases z1 with
   | gone=>exact xD al
   | el b' c' j'=>exact o1.elim
   | tx u' c'=>
    have ec:c=false:=by simpa using al
    obtain rfl:c=_:=o2
    obtain rfl:c'=_:=o1
    show Outcome.mk _ _=Outcome.mk _ _
    rw [Y6 ec]
    rfl
theorem yU {h:Hedge} (hh:h≠.nil):deep (children h)+1<=deep h:=by
 cases h with
 | nil=>exact absurd rfl hh
 | el a k n=>show deep k+1<=max (1+deep k) (deep n);omega
 | tx x n=>show 0+1<=max 1 (deep n);omega
theorem JN (h:Hedge):deep (tl h)<=deep h:=by
 cases h with
 | nil=>exact Nat.le_refl _
 | el a k n=>show deep n<=max (1+deep k) (deep n);omega
 | tx x n=>show deep n<=max 1 (deep n);omega
theorem Us {f:Nat} {above:Path} {d:Nat} (yl:Hedge) (ih:∀(p:Path) (k:Hedge) (s t:Script),deep k+1<=d->Of k s->Of k t->alone s=true->rowOf true f p s t={hedge:=result t,conflicts:=[]}) {h:Hedge} {xs:List Slot} (r1:Row h xs):∀{ys:List Slot} (i:Nat),deep h<=d->Idle xs->Row h ys->J9 true f above .nil yl i xs ys={hedge:=res ys yl,conflicts:=[]}:=by
 induction r1 with
 | nil=>
  intro ys i _ _ r2
  cases r2 with
  | nil=>exact jU _ _ _
  | cons hh _ _=>exact absurd rfl hh
 | @cons h z r hh sl rr ihr=>
  intro ys i hd id r2
  cases r2 with
  | nil=>exact absurd rfl hh
  | @cons _ z2 r2' _ sl2 rr2=>
   obtain⟨b1,b2⟩:=id z List.mem_cons_self
   have q:=yU hh
   have q2:=JN h
   show cat _ (cat _ _)=_
   rw [b1,jU,ihr (i+1) (by omega) (fun y m=>id y (List.mem_cons_of_mem _ m)) rr2]
   have tr:yd true f (above++[i]) z.fate z2.fate={hedge:=paired z2.fate,conflicts:=[]}:=by
    exact Y7 sl sl2 b2 fun s t a b c=>ih _ _ s t (by omega) a b c
   rw [tr]
   rfl
theorem VN {f:Nat} {above:Path} {d:Nat} (xl:Hedge) (ih:∀(p:Path) (k:Hedge) (s t:Script),deep k+1<=d->Of k s->Of k t->alone t=true->rowOf true f p s t={hedge:=result s,conflicts:=[]}) {h:Hedge} {xs:List Slot} (r1:Row h xs):∀{ys:List Slot} (i:Nat),deep h<=d->Idle ys->Row h ys->J9 true f above xl .nil i xs ys={hedge:=res xs xl,conflicts:=[]}:=by
 induction r1 with
 | nil=>
  intro ys i _ _ r2
  cases r2 with
  | nil=>exact qN _ _ _
  | cons hh _ _=>exact absurd rfl hh
 | @cons h z r hh sl rr ihr=>
  intro ys i hd id r2
  cases r2 with
  | nil=>exact absurd rfl hh
  | @cons _ z2 r2' _ sl2 rr2=>
   obtain⟨b1,b2⟩:=id z2 List.mem_cons_self
   have q:=yU hh
   have q2:=JN h
   show cat _ (cat _ _)=_
   rw [b1,qN,ihr (i+1) (by omega) (fun y m=>id y (List.mem_cons_of_mem _ m)) rr2]
   have tr:yd true f (above++[i]) z.fate z2.fate={hedge:=paired z.fate,conflicts:=[]}:=Y5 sl sl2 b2 fun s t a b c=>ih _ _ s t (by omega) a b c
   rw [tr]
   rfl
theorem UM:∀(f:Nat) (above:Path) (h:Hedge) (s t:Script),deep h<f->Of h s->Of h t->alone s=true->rowOf true f above s t={hedge:=result t,conflicts:=[]}
 | 0,_,_,_,_,e,_,_,_=>by omega
 | f+1,above,h,s,t,e,hs,ht,al=>by
  have rs:=hs.row (acc:=.nil)
  have rt:=ht.row (acc:=.nil)
  obtain⟨i1,i2⟩:=qL s al
  rw [jP _ _ _ _ _ (rs.len.trans rt.len.symm),i2,Us (d:=f) _ (fun p k s t a b c d=>UM f p k s t (by omega) b c d) rs 0 (by omega) i1 rt,yq]
  rfl
theorem Ni:∀(f:Nat) (above:Path) (h:Hedge) (s t:Script),deep h<f->Of h s->Of h t->alone t=true->rowOf true f above s t={hedge:=result s,conflicts:=[]}
 | 0,_,_,_,_,e,_,_,_=>by omega
 | f+1,above,h,s,t,e,hs,ht,al=>by
  have rs:=hs.row (acc:=.nil)
  have rt:=ht.row (acc:=.nil)
  obtain⟨i1,i2⟩:=qL t al
  rw [jP _ _ _ _ _ (rs.len.trans rt.len.symm),i2,VN (d:=f) _ (fun p k s t a b c d=>Ni f p k s t (by omega) b c d) rs 0 (by omega) i1 rt,yq]
  rfl
end Hm
end
section
namespace Hm
open Vaheda (Hedge append nodes treeAt deep width saying children Path)
open Vahedl (Script Way endWay treesOf told)
open Vahedn (Slot Fate slots alone leftAlone result paired Conflict Outcome nothing puts given clash dropped rowOf)
def yi (P:Bool->Vaheda.Text->Prop):Hedge->Prop
 | .nil=>True
 | .el a k n=>P false a/\yi P k/\yi P n
 | .tx t n=>P true t/\yi P n
theorem xP {P}:∀(h g:Hedge),yi P (append h g)↔yi P h/\yi P g
 | .nil,g=>⟨fun q=>⟨trivial,q⟩,fun q=>q.2⟩
 | .el a k n,g=>by
  show(P false a/\yi P k/\yi P (append n g))↔(P false a/\yi P k/\yi P n)/\yi P g
  rw [xP n g]
  exact⟨fun⟨a,b,c,d⟩=>⟨⟨a,b,c⟩,d⟩,fun⟨⟨a,b,c⟩,d⟩=>⟨a,b,c,d⟩⟩
 | .tx t n,g=>by
  show(P true t/\yi P (append n g))↔(P true t/\yi P n)/\yi P g
  rw [xP n g]
  exact⟨fun⟨a,b,c⟩=>⟨⟨a,b⟩,c⟩,fun⟨⟨a,b⟩,c⟩=>⟨a,b,c⟩⟩
theorem yX:∀(h g:Hedge),deep (append h g)=max (deep h) (deep g)
 | .nil,g=>by show deep g=max 0 (deep g);omega
 | .el a k n,g=>by show max (1+deep k) (deep (append n g))=max (max (1+deep k) (deep n)) (deep g);rw [yX n g];omega
 | .tx t n,g=>by show max 1 (deep (append n g))=max (max 1 (deep n)) (deep g);rw [yX n g];omega
theorem zO:∀(h g:Hedge),nodes (append h g)=nodes h+nodes g
 | .nil,g=>by show nodes g=0+nodes g;omega
 | .el a k n,g=>by show 1+nodes k+nodes (append n g)=1+nodes k+nodes n+nodes g;rw [zO n g];omega
 | .tx t n,g=>by show 1+nodes (append n g)=1+nodes n+nodes g;rw [zO n g];omega
theorem jW:∀(h g:Hedge),width (append h g)=width h+width g
 | .nil,g=>by show width g=0+width g;omega
 | .el a k n,g=>by show 1+width (append n g)=1+width n+width g;rw [jW n g];omega
 | .tx t n,g=>by show 1+width (append n g)=1+width n+width g;rw [jW n g];omega
theorem yo:∀h:Hedge,width h<=nodes h
 | .nil=>Nat.le_refl _
 | .el a k n=>by have:=yo n;show 1+width n<=1+nodes k+nodes n;omega
 | .tx t n=>by have:=yo n;show 1+width n<=1+nodes n;omega
def yE (P:Bool->Vaheda.Text->Prop) (d:Nat) (h:Hedge):Prop:=yi P h/\deep h<=d
theorem yB {P d} (h g:Hedge):yE P d (append h g)↔yE P d h/\yE P d g:=by
 unfold yE
 rw [xP,yX]
 exact⟨fun⟨⟨a,b⟩,c⟩=>⟨⟨a,by omega⟩,b,by omega⟩,fun⟨⟨a,c⟩,b,e⟩=>⟨⟨a,b⟩,by omega⟩⟩
theorem j8 {P d}:yE P d .nil:=⟨trivial,Nat.zero_le _⟩
theorem ZE {P d} {a:Vaheda.Text} {k:Hedge}:yE P (d+1) (.el a k .nil)↔P false a/\yE P d k:=by
 show(P false a/\yi P k/\True)/\max (1+deep k) 0<=d+1↔P false a/\yi P k/\deep k<=d
 exact⟨fun⟨⟨a,b,_⟩,c⟩=>⟨a,b,by omega⟩,fun⟨a,b,c⟩=>⟨⟨a,b,trivial⟩,by omega⟩⟩
theorem ZI {P d} {t:Vaheda.Text}:yE P (d+1) (.tx t .nil)↔P true t:=by
 show(P true t/\True)/\max 1 0<=d+1↔P true t
 exact⟨fun q=>q.1.1,fun q=>⟨⟨q,trivial⟩,by omega⟩⟩
theorem IM {P} {a:Vaheda.Text} {k:Hedge}:¬yE P 0 (.el a k .nil):=fun q=>by
 have:max (1+deep k) 0<=0:=q.2
 omega
theorem IN {P} {t:Vaheda.Text}:¬yE P 0 (.tx t .nil):=fun q=>by
 have:max 1 0<=0:=q.2
 omega
theorem Uf {A:Type} [BEq A] (b:Bool) (x y:A) (c d:Bool):(given b x c y d).1=x\/(given b x c y d).1=y:=by
 unfold given
 split
 ·dsimp only;split
  ·exact .inl rfl
  ·exact .inr rfl
 ·split
  ·exact .inl rfl
  ·exact .inr rfl
theorem Vb {P d b p} {x y:Hedge} (hx:yE P d x) (hy:yE P d y):yE P d (puts b p x y).hedge:=by
 unfold puts
 split
 ·exact hy
 ·split
  ·exact hx
  ·dsimp only;split
   ·exact(yB _ _).mpr ⟨hx,hy⟩
   ·exact(yB _ _).mpr ⟨hy,hx⟩
theorem jV {P d b c p} {g:Fate} (hg:yE P d (paired g)):yE P d (dropped b c p g).hedge:=by
 unfold dropped
 split
 ·exact j8
 ·dsimp only;split
  ·exact j8
  ·exact hg
theorem Nu {P d f p} {z1 z2:Fate} (h1:yE P d (paired z1)) (h2:yE P d (paired z2))
  (ih:∀(d':Nat) (s t:Script),yE P d' (result s)->yE P d' (result t)->yE P d' (rowOf true f p s t).hedge):yE P d (yd true f p z1 z2).hedge:=by
 cases z1 with
 | gone=>
  cases z2 with
  | gone=>exact j8
  | el b c j=>exact jV h2
  | tx u c=>exact jV h2
 | el a c j=>
  cases z2 with
  | gone=>exact jV h1
  | el b c' j'=>
   cases d with
   | zero=>exact absurd h1 IM
   | succ d=>
    have a1:=ZE.mp h1
    have a2:=ZE.mp h2
    refine ZE.mpr ⟨?_,ih d j j' a1.2 a2.2⟩
    rcases Uf true a b c c' with q | q
    ·rw [q];exact a1.1
    ·rw [q];exact a2.1
  | tx u c'=>exact j8
 | tx u c=>
  cases z2 with
  | gone=>exact jV h1
  | el b c' j'=>exact j8
  | tx u' c'=>
   cases d with
   | zero=>exact absurd h1 IN
   | succ d=>
    refine ZI.mpr ?_
    rcases Uf true u u' c c' with q | q
    ·rw [q];exact ZI.mp h1
    ·rw [q];exact ZI.mp h2
theorem Uh {P}:∀(f:Nat) (above:Path) (d:Nat) (s t:Script),yE P d (result s)->yE P d (result t)->yE P d (rowOf true f above s t).hedge
 | 0,_,_,_,_,_,_=>j8
 | f+1,above,d,s,t,h1,h2=>by
  rw [JF]
  have e1:=yq s .nil
  have e2:=yq t .nil
  have h1:yE P d (res (slots .nil s).1 (slots .nil s).2):=by rw [e1];exact h1
  have h2:yE P d (res (slots .nil t).1 (slots .nil t).2):=by rw [e2];exact h2
  have last:∀(xs:List Slot) (l:Hedge),yE P d (res xs l)->yE P d l:=by
   intro xs
   induction xs with
   | nil=>intro l q;exact q
   | cons z r ihr=>intro l q;exact ihr l ((yB _ _).mp ((yB _ _).mp q).2).2
  have all:∀(xs ys:List Slot) (xl yl:Hedge) (ns:List Nat),yE P d (res xs xl)->yE P d (res ys yl)->yE P d (jT ((ns.zip (xs.zip ys)).flatMap (Z0 true f above))).hedge:=by
   intro xs
   induction xs with
   | nil=>intro ys xl yl ns _ _;cases ns <;> exact j8
   | cons x xs ihx=>
    intro ys xl yl ns q1 q2
    cases ys with
    | nil=>cases ns <;> exact j8
    | cons y ys=>
     cases ns with
     | nil=>exact j8
     | cons n ns=>
      obtain⟨a1,q1⟩:=(yB _ _).mp q1
      obtain⟨b1,c1⟩:=(yB _ _).mp q1
      obtain⟨a2,q2⟩:=(yB _ _).mp q2
      obtain⟨b2,c2⟩:=(yB _ _).mp q2
      show yE P d (jT ([_,_]++(ns.zip (xs.zip ys)).flatMap (Z0 true f above))).hedge
      rw [List.cons_append,List.cons_append,List.nil_append,xJ,xJ]
      exact(yB _ _).mpr ⟨Vb a1 a2,(yB _ _).mpr ⟨Nu b1 b2 fun d' s t=>Uh f _ d' s t,ihx ys xl yl ns c1 c2⟩⟩
  rw [YO,Z1]
  exact(yB _ _).mpr ⟨all _ _ _ _ _ h1 h2,Vb (last _ _ h1) (last _ _ h2)⟩
theorem Zo {b p} {x y:Hedge}:nodes (puts b p x y).hedge<=nodes x+nodes y:=by
 unfold puts
 split
 ·exact Nat.le_add_left _ _
 ·split
  ·exact Nat.le_add_right _ _
  ·dsimp only;split
   ·rw [zO];exact Nat.le_refl _
   ·rw [zO];omega
theorem jH {b c p} {g:Fate}:nodes (dropped b c p g).hedge<=nodes (paired g):=by
 unfold dropped
 split
 ·exact Nat.zero_le _
 ·dsimp only;split
  ·exact Nat.zero_le _
  ·exact Nat.le_refl _
theorem UD {f p} {z1 z2:Fate} (ih:∀(s t:Script),nodes (rowOf true f p s t).hedge<=nodes (result s)+nodes (result t)):nodes (yd true f p z1 z2).hedge<=nodes (paired z1)+nodes (paired z2):=by
 cases z1 with
 | gone=>
  cases z2 with
  | gone=>exact Nat.zero_le _
  | el b c j=>exact Nat.le_trans jH (Nat.le_add_left _ _)
  | tx u c=>exact Nat.le_trans jH (Nat.le_add_left _ _)
 | el a c j=>
  cases z2 with
  | gone=>exact Nat.le_trans jH (Nat.le_add_right _ _)
  | el b c' j'=>
   have:=ih j j'
   show 1+nodes (rowOf true f p j j').hedge+0<=(1+nodes (result j)+0)+(1+nodes (result j')+0)
   omega
  | tx u c'=>exact Nat.zero_le _
 | tx u c=>
  cases z2 with
  | gone=>exact Nat.le_trans jH (Nat.le_add_right _ _)
  | el b c' j'=>exact Nat.zero_le _
  | tx u' c'=>show 1+0<=(1+0)+(1+0);omega
theorem Jk:∀(f:Nat) (above:Path) (s t:Script),nodes (rowOf true f above s t).hedge<=nodes (result s)+nodes (result t)
 | 0,_,_,_=>Nat.zero_le _
 | f+1,above,s,t=>by
  rw [JF]
  have e1:=yq s .nil
  have e2:=yq t .nil
  rw [show result s=res (slots .nil s).1 (slots .nil s).2 from e1.symm,show result t=res (slots .nil t).1 (slots .nil t).2 from e2.symm]
  have all:∀(xs ys:List Slot) (xl yl:Hedge) (ns:List Nat),nodes (jT ((ns.zip (xs.zip ys)).flatMap (Z0 true f above))).hedge+nodes xl+nodes yl<=nodes (res xs xl)+nodes (res ys yl):=by
   have rl:∀(xs:List Slot) (l:Hedge),nodes l<=nodes (res xs l):=by
    intro xs
    induction xs with
    | nil=>intro l;exact Nat.le_refl _
    | cons z r ihr=>intro l;have:=ihr l;show _<=nodes (append _ (append _ _));rw [zO,zO];omega
   intro xs
   induction xs with
   | nil=>
    intro ys xl yl ns
    have:=rl ys yl
    cases ns <;> (show 0+nodes xl+nodes yl<=nodes xl+_;omega)
   | cons x xs ihx=>
    intro ys xl yl ns
    cases ys with
    | nil=>
     have:=rl (x::xs) xl
     cases ns <;> (show 0+nodes xl+nodes yl<=_+nodes yl;omega)
    | cons y ys=>
     cases ns with
     | nil=>
      have:=rl (x::xs) xl
      have:=rl (y::ys) yl
      show 0+nodes xl+nodes yl<=_
      omega
     | cons n ns=>
      have i1:=ihx ys xl yl ns
      have i2:=Zo (b:=true) (p:=above++[n]) (x:=x.before) (y:=y.before)
      have i3:=UD (f:=f) (p:=above++[n]) (z1:=x.fate) (z2:=y.fate) fun s t=>Jk f _ s t
      show nodes (jT ([puts true (above++[n]) x.before y.before,yd true f (above++[n]) x.fate y.fate]++(ns.zip (xs.zip ys)).flatMap (Z0 true f above))).hedge+_+_<=nodes (append x.before (append (paired x.fate) (res xs xl)))+nodes (append y.before (append (paired y.fate) (res ys yl)))
      rw [List.cons_append,List.cons_append,List.nil_append,xJ,xJ,zO,zO,zO,zO]
      show nodes (append _ (append _ _))+_+_<=_
      rw [zO,zO]
      omega
  rw [YO,Z1]
  show nodes (append _ _)<=_
  rw [zO]
  have i2:=Zo (b:=true) (p:=above++[(slots .nil s).1.length]) (x:=(slots .nil s).2) (y:=(slots .nil t).2)
  have i1:=all (slots .nil s).1 (slots .nil t).1 (slots .nil s).2 (slots .nil t).2 (List.range (slots .nil s).1.length)
  omega
theorem Vq {b p} {x y:Hedge}:(puts b p x y).conflicts.length<=1:=by
 unfold puts
 split
 ·exact Nat.zero_le _
 ·split
  ·exact Nat.zero_le _
  ·exact Nat.le_refl _
theorem V1 (b:Bool) (p:Path):(clash b p).length<=1:=by
 unfold clash
 split
 ·exact Nat.le_refl _
 ·exact Nat.zero_le _
theorem xX {b c p} {g:Fate}:(dropped b c p g).conflicts.length<=1:=by
 unfold dropped
 split
 ·exact Nat.zero_le _
 ·exact Nat.le_refl _
theorem NG {f p} {h:Hedge} {z1 z2:Fate} (o1:yp h z1) (o2:yp h z2) (ih:∀(s t:Script),Of (children h) s->Of (children h) t->(rowOf true f p s t).conflicts.length<=3*nodes (children h)+1):(yd true f p z1 z2).conflicts.length<=3*nodes (children h)+2:=by
 cases h with
 | nil=>exact o1.elim
 | el a k n=>
  cases z1 with
  | gone=>
   cases z2 with
   | gone=>exact Nat.zero_le _
   | el b c j=>exact Nat.le_trans xX (by omega)
   | tx u c=>exact Nat.le_trans xX (by omega)
  | el b c j=>
   cases z2 with
   | gone=>exact Nat.le_trans xX (by omega)
   | el b' c' j'=>
    have q:=ih j j' o1.2 o2.2
    have c1:=V1 (given true b c b' c').2 p
    show(clash _ _++_).length<=_
    rw [List.length_append]
    omega
   | tx u c'=>exact o2.elim
  | tx u c=>exact o1.elim
 | tx x n=>
  cases z1 with
  | gone=>
   cases z2 with
   | gone=>exact Nat.zero_le _
   | el b c j=>exact Nat.le_trans xX (by omega)
   | tx u c=>exact Nat.le_trans xX (by omega)
  | el b c j=>exact o1.elim
  | tx u c=>
   cases z2 with
   | gone=>exact Nat.le_trans xX (by omega)
   | el b' c' j'=>exact o2.elim
   | tx u' c'=>exact Nat.le_trans (V1 _ _) (by omega)
theorem OU {f above} {xl yl:Hedge} (ih:∀(p:Path) (k:Hedge) (s t:Script),Of k s->Of k t->(rowOf true f p s t).conflicts.length<=3*nodes k+1) {h:Hedge} {xs:List Slot} (r1:Row h xs):∀{ys:List Slot} (i:Nat),Row h ys->(J9 true f above xl yl i xs ys).conflicts.length<=3*nodes h+1:=by
 induction r1 with
 | nil=>
  intro ys i r2
  cases r2 with
  | nil=>exact Vq
  | cons hh _ _=>exact absurd rfl hh
 | @cons h z r hh sl rr ihr=>
  intro ys i r2
  cases r2 with
  | nil=>exact absurd rfl hh
  | @cons _ z2 r2' _ sl2 rr2=>
   have a:=ihr (i+1) rr2
   have b:=Vq (b:=true) (p:=above++[i]) (x:=z.before) (y:=z2.before)
   have c:=NG (f:=f) (p:=above++[i]) sl sl2 fun s t=>ih _ _ s t
   have n:=zX hh
   show List.length ((_:List Conflict)++((_:List Conflict)++(_:List Conflict)))<=_
   rw [List.length_append,List.length_append]
   omega
theorem Za:∀(f:Nat) (above:Path) (h:Hedge) (s t:Script),Of h s->Of h t->(rowOf true f above s t).conflicts.length<=3*nodes h+1
 | 0,_,_,_,_,_,_=>Nat.zero_le _
 | f+1,above,h,s,t,hs,ht=>by
  have rs:=hs.row (acc:=.nil)
  have rt:=ht.row (acc:=.nil)
  rw [jP _ _ _ _ _ (rs.len.trans rt.len.symm)]
  exact OU (fun p k s t=>Za f p k s t) rs 0 rt
end Hm
end
section
namespace Hm
open Vaheda (Hedge Path nodes append width deep children saying)
open Vahedn (Fate Slot slots alone leftAlone result paired Conflict Outcome nothing puts given clash dropped rowOf)
open Vahedl (Script)
def yw (n:Nat) (l:List Conflict):Prop:=∀c∈l,c.path.length<=n
theorem yw.app {n:Nat} {a b:List Conflict} (h1:yw n a) (h2:yw n b):yw n (a++b):=fun c m=>(List.mem_append.mp m).elim (h1 c) (h2 c)
theorem yw.nil {n:Nat}:yw n []:=fun c m=>by cases m
theorem yw.one {n k:Nat} {p:Path} (h:p.length<=n):yw n [{kind:=k,path:=p}]:=fun c m=>by
 rw [List.mem_singleton.mp m];exact h
theorem Zj {n:Nat} {b p} {x y:Hedge} (h:p.length<=n):yw n (puts b p x y).conflicts:=by
 unfold puts
 split
 ·exact yw.nil
 ·split
  ·exact yw.nil
  ·exact yw.one h
theorem YQ {n:Nat} (b:Bool) {p:Path} (h:p.length<=n):yw n (clash b p):=by
 unfold clash
 split
 ·exact yw.one h
 ·exact yw.nil
theorem xC {n:Nat} {b c p} {g:Fate} (h:p.length<=n):yw n (dropped b c p g).conflicts:=by
 unfold dropped
 split
 ·exact yw.nil
 ·exact yw.one h
theorem UE {n:Nat} {f p} {h:Hedge} {z1 z2:Fate} (hp:p.length<=n) (o1:yp h z1) (o2:yp h z2) (ih:∀(s t:Script),Of (children h) s->Of (children h) t->yw n (rowOf true f p s t).conflicts):yw n (yd true f p z1 z2).conflicts:=by
 cases h with
 | nil=>exact o1.elim
 | el a k m=>
  cases z1 with
  | gone=>
   cases z2 with
   | gone=>exact yw.nil
   | el b c j=>exact xC hp
   | tx u c=>exact xC hp
  | el b c j=>
   cases z2 with
   | gone=>exact xC hp
   | el b' c' j'=>exact(YQ _ hp).app (ih j j' o1.2 o2.2)
   | tx u c'=>exact o2.elim
  | tx u c=>exact o1.elim
 | tx x m=>
  cases z1 with
  | gone=>
   cases z2 with
   | gone=>exact yw.nil
   | el b c j=>exact xC hp
   | tx u c=>exact xC hp
  | el b c j=>exact o1.elim
  | tx u c=>
   cases z2 with
   | gone=>exact xC hp
   | el b' c' j'=>exact o2.elim
   | tx u' c'=>exact YQ _ hp
theorem Ny {n:Nat} {f above} {xl yl:Hedge} (hn:above.length+1<=n) (ih:∀(i:Nat) (k:Hedge) (s t:Script),Of k s->Of k t->yw n (rowOf true f (above++[i]) s t).conflicts) {h:Hedge} {xs:List Slot} (r1:Row h xs):∀{ys:List Slot} (i:Nat),Row h ys->yw n (J9 true f above xl yl i xs ys).conflicts:=by
 have hp:∀i:Nat,(above++[i]).length<=n:=fun i=>by rw [List.length_append];exact hn
 induction r1 with
 | nil=>
  intro ys i r2
  cases r2 with
  | nil=>exact Zj (hp i)
  | cons hh _ _=>exact absurd rfl hh
 | @cons h z r hh sl rr ihr=>
  intro ys i r2
  cases r2 with
  | nil=>exact absurd rfl hh
  | @cons _ z2 r2' _ sl2 rr2=>exact(Zj (hp i)).app ((UE (hp i) sl sl2 fun s t=>ih i _ s t).app (ihr (i+1) rr2))
theorem Vj:∀(f:Nat) (above:Path) (h:Hedge) (s t:Script),Of h s->Of h t->yw (above.length+f) (rowOf true f above s t).conflicts
 | 0,_,_,_,_,_,_=>yw.nil
 | f+1,above,h,s,t,hs,ht=>by
  have rs:=hs.row (acc:=.nil)
  have rt:=ht.row (acc:=.nil)
  rw [jP _ _ _ _ _ (rs.len.trans rt.len.symm)]
  refine Ny (by omega) (fun i k s t h1 h2=>?_) rs 0 rt
  have:=Vj f (above++[i]) k s t h1 h2
  rw [List.length_append] at this
  rw [show above.length+(f+1)=above.length+1+f by omega]
  exact this
end Hm
end
section
namespace Hm
open Vaheda (Hedge Path nodes append width deep children saying)
open Vahedn (Fate Slot slots alone leftAlone result paired renewed Did didIn one slotAt)
open Vahedl (Script)
def dz:Did:={put:=0,drop:=0,new:=0,pair:=0,alone:=0}
def zY (a b:Did):Did:={put:=a.put+b.put,drop:=a.drop+b.drop,new:=a.new+b.new,pair:=a.pair+b.pair,alone:=a.alone+b.alone}
theorem Did.ext' {a b:Did} (h1:a.put=b.put) (h2:a.drop=b.drop) (h3:a.new=b.new) (h4:a.pair=b.pair) (h5:a.alone=b.alone):a=b:=by
 cases a;cases b
 dsimp only at h1 h2 h3 h4 h5
 subst h1 h2 h3 h4 h5
 rfl
def jK (n:Nat):Did:={put:=n,drop:=0,new:=0,pair:=0,alone:=0}
def jt:Fate->Script
 | .el _ _ k=>k
 | _=>.nil
def xn (z:Fate):Did:=match z with
 | .gone=>{put:=0,drop:=1,new:=0,pair:=0,alone:=0}
 | z=>zY (didIn (jt z)) {put:=0,drop:=0,new:=one (renewed z),pair:=1,alone:=one (leftAlone z)}
def qc:List Slot->Hedge->Did
 | [],l=>jK (width l)
 | z::r,l=>zY (jK (width z.before)) (zY (xn z.fate) (qc r l))
def x8:Script->Prop
 | .nil=>True
 | .put t n=>width t=1/\x8 n
 | .drop n=>x8 n
 | .pairEl _ _ k n=>x8 k/\x8 n
 | .pairTx _ _ n=>x8 n
theorem O4 {h:Hedge} (hh:h≠.nil):width (hd h)=1:=by
 cases h with
 | nil=>exact absurd rfl hh
 | el a k n=>rfl
 | tx a n=>rfl
theorem OI (h g:Hedge):x8 (S h g):=by
 refine Yw (M:=fun h g=>x8 (S h g)) (fun h g ih=>?_) h g
 by_cases hh:h=.nil
 ·subst hh
  by_cases hg:g=.nil
  ·subst hg;rw [j3];trivial
  ·rw [Yz hg]
   refine⟨O4 hg,ih _ _ ?_⟩
   have:=zX hg
   omega
 ·by_cases hg:g=.nil
  ·subst hg
   rw [S_r hh]
   refine ih _ _ ?_
   have:=zX hh
   omega
  ·have n1:=zX hh
   have n2:=zX hg
   rcases Jz hh hg with ⟨e,q⟩ | q | q
   ·rw [q]
    unfold yV
    split
    ·exact ih _ _ (by omega)
    ·exact⟨ih _ _ (by omega),ih _ _ (by omega)⟩
   ·rw [q];exact ih _ _ (by omega)
   ·rw [q];exact⟨O4 hg,ih _ _ (by omega)⟩
theorem qE:∀(s:Script) (acc:Hedge),x8 s->zY (jK (width acc)) (didIn s)=qc (slots acc s).1 (slots acc s).2
 | .nil,acc,_=>Did.ext' rfl rfl rfl rfl rfl
 | .put t n,acc,h=>by
  have ih:=qE n (append acc t) h.2
  rw [jW,h.1] at ih
  show _=qc (slots (append acc t) n).1 (slots (append acc t) n).2
  rw [<-ih]
  refine Did.ext' ?_ rfl rfl rfl rfl
  show width acc+((didIn n).put+1)=width acc+1+(didIn n).put
  omega
 | .drop n,acc,h=>by
  have ih:=qE n .nil h
  show _=zY (jK (width acc)) (zY (xn .gone) (qc (slots .nil n).1 (slots .nil n).2))
  rw [<-ih]
  refine Did.ext' ?_ ?_ ?_ ?_ ?_
  ·show width acc+(didIn n).put=width acc+(0+(0+(didIn n).put));omega
  ·show 0+((didIn n).drop+1)=0+(1+(0+(didIn n).drop));omega
  ·show 0+(didIn n).new=0+(0+(0+(didIn n).new));omega
  ·show 0+(didIn n).pair=0+(0+(0+(didIn n).pair));omega
  ·show 0+(didIn n).alone=0+(0+(0+(didIn n).alone));omega
 | .pairTx t c n,acc,h=>by
  have ih:=qE n .nil h
  show _=zY (jK (width acc)) (zY (xn (.tx t c)) (qc (slots .nil n).1 (slots .nil n).2))
  rw [<-ih]
  refine Did.ext' ?_ ?_ ?_ ?_ ?_
  ·show width acc+(didIn n).put=width acc+(0+0+(0+(didIn n).put));omega
  ·show 0+(didIn n).drop=0+(0+0+(0+(didIn n).drop));omega
  ·show 0+((didIn n).new+one c)=0+(0+one c+(0+(didIn n).new));omega
  ·show 0+((didIn n).pair+1)=0+(0+1+(0+(didIn n).pair));omega
  ·show 0+((didIn n).alone+one (!c))=0+(0+one (!c)+(0+(didIn n).alone));omega
 | .pairEl a c k n,acc,h=>by
  have ih:=qE n .nil h.2
  show _=zY (jK (width acc)) (zY (xn (.el a c k)) (qc (slots .nil n).1 (slots .nil n).2))
  rw [<-ih]
  refine Did.ext' ?_ ?_ ?_ ?_ ?_
  ·show width acc+((didIn n).put+(didIn k).put)=width acc+((didIn k).put+0+(0+(didIn n).put));omega
  ·show 0+((didIn n).drop+(didIn k).drop)=0+((didIn k).drop+0+(0+(didIn n).drop));omega
  ·show 0+((didIn n).new+(didIn k).new+one c)=0+((didIn k).new+one c+(0+(didIn n).new));omega
  ·show 0+((didIn n).pair+(didIn k).pair+1)=0+((didIn k).pair+1+(0+(didIn n).pair));omega
  ·show 0+((didIn n).alone+(didIn k).alone+one (!c && alone k))=0+((didIn k).alone+one (!c && alone k)+(0+(didIn n).alone));omega
theorem zbc {s:Script} (h:x8 s):didIn s=qc (slots .nil s).1 (slots .nil s).2:=by
 rw [<-qE s .nil h]
 refine Did.ext' ?_ ?_ ?_ ?_ ?_ <;> (show _=0+_;omega)
theorem Je:∀(s:Script),alone s=true->didIn s={put:=0,drop:=0,new:=0,pair:=nodes (result s),alone:=nodes (result s)}
 | .nil,_=>rfl
 | .put t n,h=>by cases h
 | .drop n,h=>by cases h
 | .pairTx t c n,h=>by
  have h:(!c && alone n)=true:=h
  rw [Bool.and_eq_true] at h
  have ih:=Je n h.2
  have hc:c=false:=by simpa using h.1
  subst hc
  show({(didIn n) with new:=(didIn n).new+one false,pair:=(didIn n).pair+1,alone:=(didIn n).alone+one (!false)}:Did)=_
  rw [ih]
  refine Did.ext' rfl rfl rfl ?_ ?_
  ·show nodes (result n)+1=1+nodes (result n);omega
  ·show nodes (result n)+1=1+nodes (result n);omega
 | .pairEl a c k n,h=>by
  have h:(!c && (alone k && alone n))=true:=h
  rw [Bool.and_eq_true,Bool.and_eq_true] at h
  have i1:=Je n h.2.2
  have i2:=Je k h.2.1
  have hc:c=false:=by simpa using h.1
  subst hc
  show({put:=(didIn n).put+(didIn k).put,drop:=(didIn n).drop+(didIn k).drop,new:=(didIn n).new+(didIn k).new+one false,pair:=(didIn n).pair+(didIn k).pair+1,alone:=(didIn n).alone+(didIn k).alone+one (!false && alone k)}:Did)=_
  rw [i1,i2,h.2.1]
  refine Did.ext' rfl rfl rfl ?_ ?_
  ·show nodes (result n)+nodes (result k)+1=1+nodes (result k)+nodes (result n);omega
  ·show nodes (result n)+nodes (result k)+1=1+nodes (result k)+nodes (result n);omega
theorem NA {z:Fate} (h:leftAlone z=true):xn z={put:=0,drop:=0,new:=0,pair:=nodes (paired z),alone:=nodes (paired z)}:=by
 cases z with
 | gone=>cases h
 | tx t c=>
  have hc:c=false:=by
   have h:(!c)=true:=h
   simpa using h
  subst hc
  exact Did.ext' rfl rfl rfl rfl rfl
 | el a c k=>
  have h:(!c && alone k)=true:=h
  rw [Bool.and_eq_true] at h
  have hc:c=false:=by simpa using h.1
  subst hc
  show zY (didIn k) {put:=0,drop:=0,new:=one false,pair:=1,alone:=one (!false && alone k)}=_
  rw [Je k h.2,h.2]
  refine Did.ext' rfl rfl rfl ?_ ?_
  ·show nodes (result k)+1=1+nodes (result k)+0;omega
  ·show nodes (result k)+1=1+nodes (result k)+0;omega
end Hm
end
section
namespace Hm
open Vaheda (Hedge Path nodes append width deep children saying dropTrees)
open Vahedn (Fate Slot slots alone leftAlone result paired renewed slotAt)
open Vahedl (Script)
theorem YS (i:Nat) (p:Path) (s:Script):slotAt (i::p) s=match (slots .nil s).1[i]? with
  | none=>none
  | some z=>if p.isEmpty=true then some z else slotAt p (jt z.fate):=by
 show(match (slots .nil s).1[i]? with
  | none=>none
  | some z=>if p.isEmpty=true then some z else match z.fate with
   | .el _ _ k=>slotAt p k
   | _=>none)=_
 cases (slots .nil s).1[i]? with
 | none=>rfl
 | some z=>
  dsimp only
  by_cases hp:p.isEmpty=true
  ·rw [if_pos hp,if_pos hp]
  ·rw [if_neg hp,if_neg hp]
   have e:slotAt p .nil=none:=by
    cases p with
    | nil=>exact absurd rfl hp
    | cons j q=>rfl
   cases z.fate with
   | gone=>exact e.symm
   | el a c k=>rfl
   | tx t c=>exact e.symm
theorem IF {h:Hedge} {xs:List Slot} (r:Row h xs):∀{i:Nat} {z:Slot},xs[i]? = some z->yp (dropTrees i h) z.fate:=by
 induction r with
 | nil=>intro i z e;simp at e
 | @cons h z0 r hh o _ ih=>
  intro i z e
  cases i with
  | zero=>
   cases e
   have:dropTrees 0 h=h:=by cases h <;> rfl
   rw [this];exact o
  | succ i=>
   have:=ih (i:=i) e
   have s:dropTrees (i+1) h=dropTrees i (tl h):=by
    cases h with
    | nil=>exact absurd rfl hh
    | el a k m=>rfl
    | tx a m=>rfl
   rw [s];exact this
theorem UA {h:Hedge} {z:Fate} (o:yp h z) (n:z≠.gone):Of (children h) (jt z):=by
 cases h with
 | nil=>exact o.elim
 | el a k r=>
  cases z with
  | gone=>exact absurd rfl n
  | el b c j=>exact o.2
  | tx u c=>exact o.elim
 | tx a r=>
  cases z with
  | gone=>exact absurd rfl n
  | el b c j=>exact o.elim
  | tx u c=>exact trivial
end Hm
end
section
namespace Hm
open Vahedn (Call State)
def okBase (c:Call) (L:List Int) (i i':Nat):Prop:=∃(n:Nat) (t:List UInt8),L[i]? = some (n:Int)/\i+1+n<=L.length/\VahednNeutral.text? ((L.drop (i+1)).take n)=some t/\c=.base t/\i'=i+1+n
def okVer (c:Call) (L:List Int) (i i':Nat):Prop:=∃(w:Int) (n:Nat) (t:List UInt8),L[i]? = some w/\L[i+1]? = some (n:Int)/\i+2+n<=L.length/\VahednNeutral.text? ((L.drop (i+2)).take n)=some t/\c=.version w t/\i'=i+2+n
def okForm (c:Call) (L:List Int) (i i':Nat):Prop:=∃u,L[i]? = some u/\c=.form u/\i'=i+1
def okMerge (c:Call) (L:List Int) (i i':Nat):Prop:=∃u,L[i]? = some u/\c=.merge u/\i'=i+1
def okConf (c:Call) (L:List Int) (i i':Nat):Prop:=c=.conflicts/\i'=i
def okDid (c:Call) (L:List Int) (i i':Nat):Prop:=∃u,L[i]? = some u/\c=.did u/\i'=i+1
def okFate (c:Call) (L:List Int) (i i':Nat):Prop:=∃(w:Int) (n:Nat),L[i]? = some w/\L[i+1]? = some (n:Int)/\i+2+n<=L.length/\n<=100/\c=.fate w ((L.drop (i+2)).take n)/\i'=i+2+n
def okDist (c:Call) (L:List Int) (i i':Nat):Prop:=c=.distances/\i'=i
def okTake (c:Call) (L:List Int) (i i':Nat):Prop:=∃v w,L[i]? = some v/\L[i+1]? = some w/\c=.take v w/\i'=i+2
def okSettle (c:Call) (L:List Int) (i i':Nat):Prop:=∃u,L[i]? = some u/\c=.settle u/\i'=i+1
def jk (p:Int) (c:Call) (L:List Int) (i i':Nat):Prop:=
 (p=0/\okBase c L i i')\/(p=1/\okVer c L i i')\/(p=2/\okForm c L i i')\/(p=3/\okMerge c L i i')\/(p=4/\okConf c L i i') \/
 (p=5/\okDid c L i i')\/(p=6/\okFate c L i i')\/(p=7/\okDist c L i i')\/(p=8/\okTake c L i i')\/(p=9/\okSettle c L i i')
theorem xQ {L:List Int} {i:Nat} {p:Int} {r:List Int} (h:L.drop i=p::r):L[i]? = some p/\L.drop (i+1)=r/\i<L.length:=by
 have e:(L.drop i)[0]? = some p:=by rw [h];rfl
 rw [List.getElem?_drop] at e
 refine⟨e,?_,?_⟩
 ·rw [<-List.drop_drop,h];rfl
 ·have:=(List.getElem?_eq_some_iff.mp e).1
  exact this
theorem Ui {s x t:List Int} (h:PyFlat.row s=some (x,t)):∃(n:Nat) (r:List Int),s=(n:Int)::r/\n<=r.length/\x=r.take n/\t=r.drop n:=by
 cases s with
 | nil=>cases h
 | cons a r=>
  have h:(if 0<=a/\a.toNat<=r.length then some (r.take a.toNat,r.drop a.toNat) else none)=some (x,t):=h
  split at h
  ·rename_i q
   cases h
   exact⟨a.toNat,r,by rw [show((a.toNat:Nat):Int)=a by omega],q.2,rfl,rfl⟩
  ·cases h
theorem N2 {t:List Int} (h:(t.all (fun(z:Int)=>VahednNeutral.natural z 8))=true):∃x,VahednNeutral.text? t=some x:=by
 unfold VahednNeutral.text?
 refine⟨_,if_pos ?_⟩
 unfold NeutralIO.bytes
 rw [List.all_eq_true] at h ⊢
 intro z m
 have q:=h z m
 unfold VahednNeutral.natural at q
 rw [Bool.and_eq_true,decide_eq_true_eq,decide_eq_true_eq] at q ⊢
 have:(2:Int) ^ 8=256:=by decide
 omega
theorem za7 {L:List Int} {i:Nat} {p:Int} {r:List Int} {c:List (List Int)} {rest:List Int} (hd:L.drop i=p::r) (h:PyFlat.call PyVahedn.shape (p::r)=some (c,rest)) (ha:VahednNeutral.asked1 c=true) :
  ∃(k:Call) (i':Nat),VahednNeutral.callOf c=some k/\jk p k L (i+1) i'/\rest=L.drop i'/\i<i'/\i'<=L.length:=by
 obtain⟨g0,d1,lt⟩:=xQ hd
 have dl:(L.drop (i+1)).length=L.length - (i+1):=List.length_drop
 rw [d1] at dl
 unfold PyFlat.call at h
 dsimp only at h
 cases hs:PyVahedn.shape p with
 | none=>rw [hs] at h;cases h
 | some nk=>
  rw [hs] at h
  dsimp only at h
  obtain⟨n,kk⟩:=nk
  dsimp only at h
  split at h
  ·cases h
  rename_i hlen
  have one:∀(hn:n=1),∃u q,r=u::q/\L[i+1]? = some u/\L.drop (i+2)=q/\i+1<L.length:=fun hn=>by
   subst hn
   cases r with
   | nil=>exact absurd (by show 0<1;omega) hlen
   | cons u q=>
    obtain⟨a,b,e⟩:=xQ d1
    exact⟨u,q,rfl,a,b,e⟩
  unfold PyVahedn.shape at hs
  by_cases p0:p=0
  ·rw [if_pos p0] at hs
   cases hs
   subst p0
   cases hr:PyFlat.row (r.drop 0) with
   | none=>simp only [PyFlat.rows,hr] at h;cases h
   | some xt=>
    obtain⟨x,t⟩:=xt
    simp only [PyFlat.rows,hr] at h
    cases h
    obtain⟨m,q,e,le,ex,et⟩:=Ui hr
    have e:r=(m:Int)::q:=e
    subst e ex et
    obtain⟨g1,d2,lt2⟩:=xQ d1
    have ql:q.length=L.length - (i+2):=by rw [<-d2];exact List.length_drop
    have ha:((q.take m).all (fun(z:Int)=>VahednNeutral.natural z 8) && decide ((q.take m).length<=20000))=true:=ha
    rw [Bool.and_eq_true] at ha
    obtain⟨x,hx⟩:=N2 ha.1
    refine⟨.base x,i+2+m,?_,.inl ⟨rfl,m,x,g1,by omega,?_,rfl,by omega⟩,?_,by omega,by omega⟩
    ·show(VahednNeutral.text? (q.take m)).map _=_
     rw [hx];rfl
    ·rw [d2];exact hx
    ·rw [<-d2,List.drop_drop]
  rw [if_neg p0] at hs
  by_cases p1:p=1
  ·rw [if_pos p1] at hs
   cases hs
   subst p1
   obtain⟨u,q,rfl,g1,d2,lt2⟩:=one rfl
   cases hr:PyFlat.row ((u::q).drop 1) with
   | none=>simp only [PyFlat.rows,hr] at h;cases h
   | some xt=>
    obtain⟨x,t⟩:=xt
    simp only [PyFlat.rows,hr] at h
    cases h
    obtain⟨m,q',e,le,ex,et⟩:=Ui hr
    have e:q=(m:Int)::q':=e
    subst e ex et
    obtain⟨g2,d3,lt3⟩:=xQ d2
    have ql:q'.length=L.length - (i+3):=by rw [<-d3];exact List.length_drop
    have ha:(VahednNeutral.whole60 u && ((q'.take m).all (fun(z:Int)=>VahednNeutral.natural z 8) && decide ((q'.take m).length<=20000)))=true:=ha
    rw [Bool.and_eq_true,Bool.and_eq_true] at ha
    obtain⟨x,hx⟩:=N2 ha.2.1
    refine⟨.version u x,i+3+m,?_,.inr (.inl ⟨rfl,u,m,x,g1,g2,by omega,?_,rfl,by omega⟩),?_,by omega,by omega⟩
    ·show(VahednNeutral.text? (q'.take m)).map _=_
     rw [hx];rfl
    ·rw [show i+1+2=i+2+1 by omega,d3];exact hx
    ·rw [<-d3,List.drop_drop,show i+2+1+m=i+3+m by omega]
  rw [if_neg p1] at hs
  by_cases p2:p=2
  ·rw [if_pos p2] at hs
   cases hs
   subst p2
   obtain⟨u,q,rfl,g1,d2,lt2⟩:=one rfl
   simp only [PyFlat.rows] at h
   cases h
   exact⟨.form u,i+2,rfl,.inr (.inr (.inl ⟨rfl,u,g1,rfl,rfl⟩)),d2.symm,by omega,by omega⟩
  rw [if_neg p2] at hs
  by_cases p3:p=3
  ·rw [if_pos p3] at hs
   cases hs
   subst p3
   obtain⟨u,q,rfl,g1,d2,lt2⟩:=one rfl
   simp only [PyFlat.rows] at h
   cases h
   exact⟨.merge u,i+2,rfl,.inr (.inr (.inr (.inl ⟨rfl,u,g1,rfl,rfl⟩))),d2.symm,by omega,by omega⟩
  rw [if_neg p3] at hs
  by_cases p4:p=4
  ·rw [if_pos p4] at hs
   cases hs
   subst p4
   simp only [PyFlat.rows] at h
   cases h
   exact⟨.conflicts,i+1,rfl,.inr (.inr (.inr (.inr (.inl ⟨rfl,rfl,rfl⟩)))),d1.symm,by omega,by omega⟩
  rw [if_neg p4] at hs
  by_cases p5:p=5
  ·rw [if_pos p5] at hs
   cases hs
   subst p5
   obtain⟨u,q,rfl,g1,d2,lt2⟩:=one rfl
   simp only [PyFlat.rows] at h
   cases h
   exact⟨.did u,i+2,rfl,.inr (.inr (.inr (.inr (.inr (.inl ⟨rfl,u,g1,rfl,rfl⟩))))),d2.symm,by omega,by omega⟩
  rw [if_neg p5] at hs
  by_cases p6:p=6
  ·rw [if_pos p6] at hs
   cases hs
   subst p6
   obtain⟨u,q,rfl,g1,d2,lt2⟩:=one rfl
   cases hr:PyFlat.row ((u::q).drop 1) with
   | none=>simp only [PyFlat.rows,hr] at h;cases h
   | some xt=>
    obtain⟨x,t⟩:=xt
    simp only [PyFlat.rows,hr] at h
    cases h
    obtain⟨m,q',e,le,ex,et⟩:=Ui hr
    have e:q=(m:Int)::q':=e
    subst e ex et
    obtain⟨g2,d3,lt3⟩:=xQ d2
    have ql:q'.length=L.length - (i+3):=by rw [<-d3];exact List.length_drop
    have ha:(VahednNeutral.whole60 u && ((q'.take m).all (fun(z:Int)=>VahednNeutral.whole60 z) && decide ((q'.take m).length<=100)))=true:=ha
    rw [Bool.and_eq_true,Bool.and_eq_true,decide_eq_true_eq,List.length_take,Nat.min_eq_left le] at ha
    refine⟨.fate u (q'.take m),i+3+m,rfl,.inr (.inr (.inr (.inr (.inr (.inr (.inl ⟨rfl,u,m,g1,g2,by omega,ha.2.2,?_,by omega⟩)))))),?_,by omega,by omega⟩
    ·rw [show i+1+2=i+2+1 by omega,d3]
    ·rw [<-d3,List.drop_drop,show i+2+1+m=i+3+m by omega]
  rw [if_neg p6] at hs
  by_cases p7:p=7
  ·rw [if_pos p7] at hs
   cases hs
   subst p7
   simp only [PyFlat.rows] at h
   cases h
   exact⟨.distances,i+1,rfl,.inr (.inr (.inr (.inr (.inr (.inr (.inr (.inl ⟨rfl,rfl,rfl⟩))))))),d1.symm,by omega,by omega⟩
  rw [if_neg p7] at hs
  by_cases p8:p=8
  ·rw [if_pos p8] at hs
   cases hs
   subst p8
   cases r with
   | nil=>exact absurd (by show 0<2;omega) hlen
   | cons u q=>
    cases q with
    | nil=>exact absurd (by show 1<2;omega) hlen
    | cons v q=>
     obtain⟨g1,d2,lt2⟩:=xQ d1
     obtain⟨g2,d3,lt3⟩:=xQ d2
     simp only [PyFlat.rows] at h
     cases h
     exact⟨.take u v,i+3,rfl,.inr (.inr (.inr (.inr (.inr (.inr (.inr (.inr (.inl ⟨rfl,u,v,g1,g2,rfl,rfl⟩)))))))),d3.symm,by omega,by omega⟩
  rw [if_neg p8] at hs
  by_cases p9:p=9
  ·rw [if_pos p9] at hs
   cases hs
   subst p9
   obtain⟨u,q,rfl,g1,d2,lt2⟩:=one rfl
   simp only [PyFlat.rows] at h
   cases h
   exact⟨.settle u,i+2,rfl,.inr (.inr (.inr (.inr (.inr (.inr (.inr (.inr (.inr ⟨rfl,u,g1,rfl,rfl⟩)))))))),d2.symm,by omega,by omega⟩
  rw [if_neg p9] at hs
  cases hs
theorem Um (c:List (List Int)):PyVahedn.whole c=c:=by
 unfold PyVahedn.whole
 split <;> rfl
end Hm
end
section
namespace Hm
open PySem PySem.Spec PyProof.Rows L2
structure Df (K:PySem.W.Frag) (mg:Str->Option Value) (x:Str) (st:Stmt) (ps:List Str):Type where
 f:Addr
 fd:FuncData
 F:Fun K x x st f fd
 b:xS K fd ps []
 m:mg x=some (.ref f)
structure Me (K:PySem.W.Frag) (C:Addr) (x qual:Str) (st:Stmt) (ps:List Str):Type where
 f:Addr
 fd:FuncData
 F:Fun K x qual st f fd
 b:xS K fd ps []
 m:Meth K C x f
structure Cl (K:PySem.W.Frag) (mg:Str->Option Value) (x:Str) (attrs:List Str):Type where
 C:Addr
 c:Cls K C
 g:mg x=some (.ref C)
 no:∀a∈attrs,xV K C a
theorem Cl.n {K:PySem.W.Frag} {mg:Str->Option Value} {x:Str} {attrs:List Str} (X:Cl K mg x attrs) {a:Str} (h:a∈attrs:=by decide +kernel):xV K X.C a:=X.no a h
abbrev prog:Program:=PySem.Challenge.pw_hedgemerge_s01_answers
def top (i:Nat):Stmt:=prog.main.body.getD i (.Pass ⟨0,0,0,0⟩)
theorem Ug {σ:L2.St} {H:Hp} {A B:Hp->Prop} (h:A H):tYes σ H fun b H3=>if b=true then A H3 else B H3:=by
 show if true=true then A H else B H
 rw [if_pos rfl]
 exact h
def hid (M:List Addr) (H:Hp):Hp:=fun b=>if b∈M then none else H b
theorem zf {M:List Addr} {H:Hp} {b:Addr} {o:HO} (e:hid M H b=some o):b∉M/\H b=some o:=by
 unfold hid at e
 by_cases h:b∈M
 ·rw [if_pos h] at e;cases e
 ·rw [if_neg h] at e;exact⟨h,e⟩
theorem zt {M:List Addr} {H:Hp} {b:Addr} {o:HO} (h:b∉M) (e:H b=some o):hid M H b=some o:=by unfold hid;rw [if_neg h];exact e
theorem yn (M:List Addr) (H:Hp):zd (hid M H) H:=fun b o e=>(zf e).2
theorem zau (H:Hp):hid [] H=H:=by funext b;unfold hid;rw [if_neg (by simp)]
theorem xW {M:List Addr} {H:Hp} {l:Addr} {o:HO} (h:l∈M):hid M (upd H l o)=hid M H:=by
 funext b
 unfold hid
 by_cases hb:b∈M
 ·rw [if_pos hb,if_pos hb]
 ·rw [if_neg hb,if_neg hb,z8 (fun e=>hb (by rw [e];exact h))]
def But (M:List Addr) (H H':Hp):Prop:=∀b o,H b=some o->b∉M->H' b=some o
theorem But.hid {M:List Addr} {H H':Hp} (h:But M H H'):zd (hid M H) (hid M H'):=fun b o e=>by
 obtain⟨n,e⟩:=zf e
 exact zt n (h b o e n)
theorem But.of {M:List Addr} {H H':Hp} (h:zd H H'):But M H H':=fun b o e _=>h b o e
theorem But.refl (M:List Addr) (H:Hp):But M H H:=fun _ _ e _=>e
theorem But.trans {M:List Addr} {H H1 H2:Hp} (a:But M H H1) (b:But M H1 H2):But M H H2:=fun c o e n=>b c o (a c o e n) n
theorem But.mono {M N:List Addr} {H H':Hp} (h:But M H H') (s:∀b∈M,b∈N):But N H H':=fun b o e n=>h b o e fun z=>n (s b z)
theorem But.upd {M:List Addr} {H:Hp} {l:Addr} {o:HO} (h:l∈M):But M H (upd H l o):=fun b u e n=>by rw [z8 (fun z=>n (by rw [z];exact h))];exact e
theorem But.new {M:List Addr} {H:Hp} {l:Addr} {o:HO} (h:H l=none):But M H (L2.upd H l o):=fun b u e _=>by rw [z8 (za e h)];exact e
theorem zd.new {H:Hp} {l:Addr} {o:HO} (h:H l=none):zd H (upd H l o):=fun b u e=>by rw [z8 (za e h)];exact e
theorem But.hidM {M N:List Addr} {H H':Hp} (h:But M H H') (s:∀b∈N,b∈M\/H b=none):zd (Hm.hid M H) (Hm.hid N H'):=fun b o e=>by
 obtain⟨n,e⟩:=zf e
 refine zt (fun z=>?_) (h b o e n)
 rcases s b z with q | q
 ·exact n q
 ·rw [e] at q;cases q
theorem But.same {M:List Addr} {H H':Hp} (h:But M H H') (s:∀b∈M,H b=none):zd H H':=fun b o e=>h b o e fun z=>by rw [s b z] at e;cases e
open Vaheda (Hedge nodes append width)
def wds (t:Vaheda.Text):List V:=t.map fun b=>V.int b.toNat
def tf (leaf:Bool) (w k:Addr) (n:Nat):List (Str×V):=[("leaf",.bl leaf),("word",.ref w),("kids",.ref k),("size",.int n)]
inductive zm (C:Addr) (G:Hp):List V->Hedge->Prop where
 | nil:zm C G [] .nil
 | el {a dx w k:Addr} {name:Vaheda.Text} {kids next:Hedge} {ks r:List V}:G a=some (.ins C dx (tf false w k (1+nodes kids)))->G w=some (.lst (wds name))->G k=some (.lst ks)->zm C G ks kids->zm C G r next->zm C G (.ref a::r) (.el name kids next)
 | tx {a dx w k:Addr} {text:Vaheda.Text} {next:Hedge} {r:List V}:G a=some (.ins C dx (tf true w k 1))->G w=some (.lst (wds text))->G k=some (.lst [])->zm C G r next->zm C G (.ref a::r) (.tx text next)
theorem zm.mono {C:Addr} {G G':Hp} {vs:List V} {h:Hedge} (F:zm C G vs h) (s:zd G G'):zm C G' vs h:=by
 induction F with
 | nil=>exact .nil
 | el a b c _ _ i1 i2=>exact .el (s _ _ a) (s _ _ b) (s _ _ c) i1 i2
 | tx a b c _ i=>exact .tx (s _ _ a) (s _ _ b) (s _ _ c) i
theorem zm.append {C:Addr} {G:Hp} {vs us:List V} {h g:Hedge} (F:zm C G vs h) (F':zm C G us g):zm C G (vs++us) (append h g):=by
 induction F with
 | nil=>exact F'
 | el a b c d _ _ i2=>exact .el a b c d i2
 | tx a b c _ i=>exact .tx a b c i
theorem zm.len {C:Addr} {G:Hp} {vs:List V} {h:Hedge} (F:zm C G vs h):vs.length=width h:=by
 induction F with
 | nil=>rfl
 | el a b c d _ _ i2=>rw [List.length_cons,i2];exact Nat.add_comm _ _
 | tx a b c _ i=>rw [List.length_cons,i];exact Nat.add_comm _ _
structure xG (C:Addr) (G:Hp) (a:Addr) (h:Hedge):Prop where
 at_:∃dx w k ks,G a=some (.ins C dx (tf (zq h) w k (nodes (hd h))))/\G w=some (.lst (wds (Vaheda.saying h)))/\G k=some (.lst ks)/\zm C G ks (Vaheda.children h)
 ne:h≠.nil
theorem zm.cons {C:Addr} {G:Hp} {vs:List V} {h:Hedge} (F:zm C G vs h) (hh:h≠.nil):∃a r,vs=.ref a::r/\xG C G a h/\zm C G r (tl h):=by
 cases F with
 | nil=>exact absurd rfl hh
 | @el a dx w k name kids next ks r e1 e2 e3 f1 f2=>exact⟨a,r,rfl,⟨⟨dx,w,k,ks,e1,e2,e3,f1⟩,hh⟩,f2⟩
 | @tx a dx w k text next r e1 e2 e3 f=>exact⟨a,r,rfl,⟨⟨dx,w,k,[],e1,e2,e3,.nil⟩,hh⟩,f⟩
theorem zm.drop {C:Addr} {G:Hp}:∀(i:Nat) {vs:List V} {h:Hedge},zm C G vs h->zm C G (vs.drop i) (Vaheda.dropTrees i h)
 | 0,vs,h,F=>by
  have:Vaheda.dropTrees 0 h=h:=by cases h <;> rfl
  rw [this];exact F
 | i+1,vs,h,F=>by
  cases F with
  | nil=>exact .nil
  | el a b c d e=>exact zm.drop i e
  | tx a b c e=>exact zm.drop i e
theorem zm.get {C:Addr} {G:Hp} {vs:List V} {h:Hedge} {i:Nat} {v:V} (F:zm C G vs h) (e:vs[i]? = some v):∃a,v=.ref a/\xG C G a (Vaheda.dropTrees i h):=by
 have F':=F.drop i
 have q:vs.drop i=v::vs.drop (i+1):=by
  obtain⟨hi,rfl⟩:=List.getElem?_eq_some_iff.mp e
  exact List.drop_eq_getElem_cons hi
 rw [q] at F'
 have ne:Vaheda.dropTrees i h≠.nil:=fun z=>by rw [z] at F';cases F'
 obtain⟨a,r,e1,T,_⟩:=F'.cons ne
 cases e1
 exact⟨a,rfl,T⟩
theorem xG.mono {C:Addr} {G G':Hp} {a:Addr} {h:Hedge} (T:xG C G a h) (s:zd G G'):xG C G' a h:=by
 obtain⟨dx,w,k,ks,e1,e2,e3,f⟩:=T.at_
 exact⟨⟨dx,w,k,ks,s _ _ e1,s _ _ e2,s _ _ e3,f.mono s⟩,T.ne⟩
theorem xG.one {C:Addr} {G:Hp} {a:Addr} {h:Hedge} (T:xG C G a h):zm C G [.ref a] (hd h):=by
 obtain⟨⟨dx,w,k,ks,e1,e2,e3,f⟩,ne⟩:=T
 cases h with
 | nil=>exact absurd rfl ne
 | el n kids next=>exact .el e1 e2 e3 f .nil
 | tx t next=>
  cases f
  exact .tx e1 e2 e3 .nil
end Hm
end
section
namespace Hm
open PySem PySem.Spec PyProof.Rows L2
open Vaheda (Hedge nodes append width)
abbrev sTreeInit:Stmt:=zK (top 6) 0
abbrev sSize:Stmt:=top 7
abbrev sSameTree:Stmt:=top 8
abbrev sSameHedge:Stmt:=top 9
abbrev sSameLead:Stmt:=top 10
abbrev treeAttrs:List Str:=["leaf","word","kids","size"]
structure zw (K:PySem.W.Frag) (mg:Str->Option Value):Type where
 T:Cl K mg "Tree" treeAttrs
 init:Me K T.C "__init__" "Tree.__init__" sTreeInit ["self","leaf","word","kids"]
 mk1:Mk K T.C init.f
 size:Df K mg "hedge_size" sSize ["hedge"]
 sTree:Df K mg "same_tree" sSameTree ["one","other"]
 sHedge:Df K mg "same_hedge" sSameHedge ["one","other"]
 sLead:Df K mg "same_lead" sSameLead ["one","other"]
 nsum:mg "sum"=none
 nlen:mg "len"=none
def jv:Hedge->List Int
 | .nil=>[]
 | .el a k n=>((1+nodes k:Nat):Int)::jv n
 | .tx t n=>1::jv n
theorem Yp:∀h,(jv h).sum=(nodes h:Int)
 | .nil=>rfl
 | .el a k n=>by show(_::jv n).sum=((1+nodes k+nodes n:Nat):Int);rw [List.sum_cons,Yp n];omega
 | .tx t n=>by show(_::jv n).sum=((1+nodes n:Nat):Int);rw [List.sum_cons,Yp n];omega
theorem Ya:∀h,(jv h).length=width h
 | .nil=>rfl
 | .el a k n=>by show(jv n).length+1=1+width n;rw [Ya n];omega
 | .tx t n=>by show(jv n).length+1=1+width n;rw [Ya n];omega
theorem Yn:∀(i:Nat) (h:Hedge),Vaheda.dropTrees i h≠.nil->(jv h)[i]? = some (nodes (hd (Vaheda.dropTrees i h)):Int)
 | 0,h,e=>by
  have q:Vaheda.dropTrees 0 h=h:=by cases h <;> rfl
  rw [q] at e ⊢
  cases h with
  | nil=>exact absurd rfl e
  | el a k n=>show some _=some _;rfl
  | tx t n=>show some _=some _;rfl
 | i+1,.nil,e=>absurd (by rfl) e
 | i+1,.el a k n,e=>by show(jv n)[i]? = _;exact Yn i n e
 | i+1,.tx t n,e=>by show(jv n)[i]? = _;exact Yn i n e
theorem xK {α:Type}:∀{l:List α} {i:Nat} {x:α},l[i]? = some x->l.take (i+1)=l.take i++[x]
 | [],i,x,h=>by simp at h
 | a::l,0,x,h=>by
  have e:a=x:=Option.some.inj h
  subst e
  rfl
 | a::l,i+1,x,h=>by
  have ih:=xK (l:=l) (i:=i) (x:=x) h
  show a::l.take (i+1)=a::l.take i++[x]
  rw [ih]
  rfl
def spSize (C:Addr):Sp:=fun vs H Q _=>∃(l:Addr) (ts:List V) (h:Hedge),vs=[.ref l]/\H l=some (.lst ts)/\zm C H ts h/\nodes h<sizeLine/\∀H',zd H H'->Q (.int (nodes h)) H'
def spTreeInit (C:Addr):Sp:=fun vs H Q _=>∃(p dx w k:Addr) (leaf:Bool) (ks:List V) (h:Hedge),vs=[.ref p,.bl leaf,.ref w,.ref k]/\H p=some (.ins C dx [])/\H k=some (.lst ks)/\k≠p/\zm C (hid [p] H) ks h/\nodes h<sizeLine /\
 ∀H',H' p=some (.ins C dx (tf leaf w k (1+nodes h)))->But [p] H H'->Q .non H'
section
variable {P:Program} {w:World} {K:PySem.W.Frag} {mg:Str->Option Value} {base:Heap}
theorem scSize:zh ["hedge","tree"] ["hedge"] (zg sSize):=⟨rfl,rfl,rfl,by decide +kernel,rfl,by decide +kernel,by decide +kernel⟩
theorem YA (X:zw K mg):zj P w K mg base CX0 1 X.size.f X.size.fd ["hedge"] (spSize X.T.C):=by
 refine X.size.F.ok scSize (fun vs H Q E h=>?_) (fun cdv A outer s H vs Q E hr h=>?_)
 ·obtain⟨l,ts,h,rfl,_⟩:=h
  rfl
 ·obtain⟨l,ts,h,rfl,hl,F,hz,k⟩:=h
  refine⟨_,zc (zn (zU (zcr rfl) rfl X.nsum (by decide +kernel) (z6 (zap (own:=[("tree",1)]) (te:=Z2 K (js 1) "size") rfl scSize.nd (jh (pv 0)) (by exact VS (by show blkC ["hedge","tree"] (zg sSize) _ [("tree",1)]=true;decide +kernel))
   (fun s H C cl fp=>yA (i:=1) scSize.nd rfl (Or.inl rfl)) (fun s H C cl fp=>Na) (fun s H C cl fp=>by exact ze (pv 1) rfl)) zb))),?_⟩
  refine⟨_,rfl,l,rfl,⟨_,SqL.of hl⟩,fun D hD=>?_⟩
  have nl:l≠D:=za hl hD
  refine N3 (K:=K) (a:=l) (xs:=ts) (fun i H'=>H' D=some (.lst (((jv h).take i).map V.int))/\But [D] H H') ⟨z7,But.new hD⟩
   (fun i H' _ ⟨_,b⟩=>SqL.of (b l _ hl (by simp [nl]))) ?_ ?_
  ·rintro i x H' hi ⟨hd',b⟩
   obtain⟨a,rfl,T⟩:=F.get hi
   obtain⟨⟨dx,w',k',ks,e1,e2,e3,f⟩,ne⟩:=T
   have na:a≠D:=za e1 hD
   refine⟨rfl,Ug ?_⟩
   refine⟨_,rfl,a,X.T.C,dx,_,_,rfl,b a _ e1 (by simp [na]),X.T.c,X.T.n,rfl,_,hd',?_,?_,?_⟩
   ·rw [List.length_map,List.length_take]
    have:=F.len
    have:=yo h
    have hlt:=(List.getElem?_eq_some_iff.mp hi).1
    omega
   ·rw [z7,xK (Yn i h ne),List.map_append]
    rfl
   ·exact b.trans (But.upd (by simp))
  ·rintro H' ⟨hd',b⟩
   refine⟨D,jv h,rfl,SqL.of ?_,?_⟩
   ·rw [hd',F.len,<-Ya,List.take_length]
   ·rw [Yp]
    exact k H' (b.same (by simpa using hD))
theorem scTreeInit:zh ["self","leaf","word","kids"] ["self","leaf","word","kids"] (zg sTreeInit):=⟨rfl,rfl,rfl,by decide +kernel,rfl,by decide +kernel,by decide +kernel⟩
theorem Js (X:zw K mg):zj P w K mg base CX0 2 X.init.f X.init.fd ["self","leaf","word","kids"] (spTreeInit X.T.C):=by
 have G:=YA (P:=P) (w:=w) (base:=base) X
 refine X.init.F.ok scTreeInit (fun vs H Q E h=>?_) (fun cdv A outer s H vs Q E hr h=>?_)
 ·obtain⟨_,_,_,_,_,_,_,rfl,_⟩:=h
  rfl
 ·obtain⟨p,dx,w',k',leaf,ks,h,rfl,hp,hk,nk,F,hz,k⟩:=h
  refine⟨_,z9 (zZ (pv 0) (pv 1) rfl) (z9 (zZ (pv 0) (pv 2) rfl) (z9 (zZ (pv 0) (pv 3) rfl) (zc (zZ (pv 0) (yb yC zi (zC G hr rfl X.size.m X.size.F.kp X.size.b .nil zk (z6 (pv 3) zb))) rfl)))),?_⟩
  refine⟨_,rfl,_,rfl,p,X.T.C,dx,_,rfl,hp,X.T.c,X.T.n,(by show 0<1000;decide),?_⟩
  refine⟨_,rfl,_,rfl,p,X.T.C,dx,_,rfl,z7,X.T.c,X.T.n,(by show 1<1000;decide),?_⟩
  refine⟨_,rfl,_,rfl,p,X.T.C,dx,_,rfl,z7,X.T.c,X.T.n,(by show 2<1000;decide),?_⟩
  rw [x6,x6]
  refine⟨_,rfl,k',ks,h,rfl,by rw [z8 nk];exact hk,F.mono ?_,hz,fun H1 s1=>⟨_,_,rfl,rfl,_,rfl,p,X.T.C,dx,_,rfl,s1 _ _ z7,X.T.c,X.T.n,(by show 3<1000;decide),?_⟩⟩
  ·exact fun b o e=>by
    obtain⟨n,e⟩:=zf e
    rw [z8 (by simpa using n)];exact e
  ·refine k _ ?_ fun b o e n=>?_
   ·rw [z7]
    show some (HO.ins _ _ _)=_
    congr 2
   ·have n':b≠p:=by simpa using n
    rw [z8 n']
    exact s1 b o (by rw [z8 n'];exact e)
end
end Hm
end
section
namespace Hm
open PySem PySem.Spec PyProof.Rows L2
open Vaheda (Hedge nodes append width deep children saying dropTrees)
def dts (t:Vaheda.Text):List PyData:=t.map fun b=>PyData.int b.toNat
theorem JB {K:PySem.W.Frag} {H:Hp}:∀t,JK K H (wds t) (dts t)
 | []=>.nil
 | _::r=>.cons (.int _) (JB r)
theorem Np:∀t,PyData.canLayAll0 (dts t)=true
 | []=>by unfold dts;rfl
 | b::r=>by
  show(PyData.canLay0 (.int b.toNat) && PyData.canLayAll0 (dts r))=true
  rw [Np r];rfl
theorem Yc:∀t,PyData.depthAll (dts t)<=1
 | []=>by show 0<=1;omega
 | b::r=>by
  have:=Yc r
  show max (PyData.depth (.int b.toNat)) (PyData.depthAll (dts r))<=1
  have:PyData.depth (.int b.toNat)<=1:=by show _<=1;first | exact Nat.le_refl _ | exact Nat.zero_le _
  omega
theorem qR (t:Vaheda.Text):SeqAt.shaped (.list (dts t))=true:=by
 unfold SeqAt.shaped
 rw [Bool.and_eq_true]
 refine⟨Np t,decide_eq_true ?_⟩
 have:=Yc t
 show PyData.depthAll (dts t)+1<=64
 omega
theorem ZO:∀t u,PyData.eqvAll (dts t) (dts u)=decide (t=u)
 | [],[]=>rfl
 | [],b::r=>rfl
 | b::r,[]=>rfl
 | b::r,c::q=>by
  show((b.toNat:Int) == (c.toNat:Int) && PyData.eqvAll (dts r) (dts q))=_
  rw [ZO r q]
  by_cases e:b=c
  ·subst e
   by_cases e2:r=q
   ·subst e2;simp
   ·simp [e2]
  ·have:((b.toNat:Int) == (c.toNat:Int))=false:=by
    rw [beq_eq_false_iff_ne]
    intro z
    exact e (UInt8.toNat_inj.mp (Int.ofNat.inj z))
   rw [this]
   simp [e]
theorem rEqW {K:PySem.W.Frag} {H:Hp} {a b:Addr} {t u:Vaheda.Text} {Q:VK} (ha:H a=some (.lst (wds t))) (hb:H b=some (.lst (wds u))) (q:Q (.bl (decide (t=u))) H):rEqD K (.ref a) (.ref b) H Q:=
 ⟨.list (dts t),.list (dts u),.lst (SqL.of ha) (JB t),.lst (SqL.of hb) (JB u),qR t,qR u,by
  show Q (.bl (PyData.eqvAll (dts t) (dts u))) H
  rw [ZO];exact q⟩
theorem rNeW {K:PySem.W.Frag} {H:Hp} {a b:Addr} {t u:Vaheda.Text} {Q:VK} (ha:H a=some (.lst (wds t))) (hb:H b=some (.lst (wds u))) (q:Q (.bl (!decide (t=u))) H):rNeD K (.ref a) (.ref b) H Q:=
 ⟨.list (dts t),.list (dts u),.lst (SqL.of ha) (JB t),.lst (SqL.of hb) (JB u),qR t,qR u,by
  show Q (.bl (!PyData.eqvAll (dts t) (dts u))) H
  rw [ZO];exact q⟩
def zI:Hedge->Hedge->Nat
 | .el a k n,.el b j m=>if a=b/\k=j then zI n m+1 else 0
 | .tx t n,.tx u m=>if t=u then zI n m+1 else 0
 | _,_=>0
theorem ji (g:Hedge):zI .nil g=0:=by cases g <;> rfl
theorem qm (h:Hedge):zI h .nil=0:=by cases h <;> rfl
theorem JO {h g:Hedge} (hh:h≠.nil) (hg:g≠.nil):hd h=hd g↔(zq h=zq g/\saying h=saying g/\children h=children g):=by
 cases h with
 | nil=>exact absurd rfl hh
 | el a k n=>
  cases g with
  | nil=>exact absurd rfl hg
  | el b j m=>exact⟨fun e=>by cases e;exact⟨rfl,rfl,rfl⟩,fun⟨_,e1,e2⟩=>by cases e1;cases e2;rfl⟩
  | tx u m=>exact⟨fun e=>(by cases e),fun⟨e,_⟩=>(by cases e)⟩
 | tx x n=>
  cases g with
  | nil=>exact absurd rfl hg
  | el b j m=>exact⟨fun e=>(by cases e),fun⟨e,_⟩=>(by cases e)⟩
  | tx u m=>exact⟨fun e=>by cases e;exact⟨rfl,rfl,rfl⟩,fun⟨_,e1,_⟩=>by cases e1;rfl⟩
theorem xm {h g:Hedge} (hh:h≠.nil) (hg:g≠.nil) (e:hd h=hd g):zI h g=zI (tl h) (tl g)+1:=by
 cases h with
 | nil=>exact absurd rfl hh
 | el a k n=>
  cases g with
  | nil=>exact absurd rfl hg
  | el b j m=>cases e;show(if a=a/\k=k then _ else _)=_;rw [if_pos ⟨rfl,rfl⟩];rfl
  | tx u m=>cases e
 | tx x n=>
  cases g with
  | nil=>exact absurd rfl hg
  | el b j m=>cases e
  | tx u m=>cases e;show(if x=x then _ else _)=_;rw [if_pos rfl];rfl
theorem xM {h g:Hedge} (e:hd h≠hd g):zI h g=0:=by
 cases h with
 | nil=>exact ji g
 | el a k n=>
  cases g with
  | nil=>rfl
  | el b j m=>show(if a=b/\k=j then _ else _)=_;rw [if_neg (fun⟨e1,e2⟩=>e (by rw [e1,e2];rfl))]
  | tx u m=>rfl
 | tx x n=>
  cases g with
  | nil=>rfl
  | el b j m=>rfl
  | tx u m=>show(if x=u then _ else _)=_;rw [if_neg (fun e1=>e (by rw [e1];rfl))]
theorem zo:∀(i:Nat) (h:Hedge),dropTrees (i+1) h=tl (dropTrees i h)
 | 0,.nil=>rfl
 | 0,.el a k n=>by cases n <;> rfl
 | 0,.tx t n=>by cases n <;> rfl
 | i+1,.nil=>rfl
 | i+1,.el a k n=>zo i n
 | i+1,.tx t n=>zo i n
theorem zL (h:Hedge):dropTrees 0 h=h:=by cases h <;> rfl
theorem xp:∀(i:Nat) (h:Hedge),width (dropTrees i h)=width h - i
 | 0,h=>by rw [zL];rfl
 | i+1,.nil=>by show 0=0 - (i+1);omega
 | i+1,.el a k n=>by show width (dropTrees i n)=1+width n - (i+1);rw [xp i n];omega
 | i+1,.tx t n=>by show width (dropTrees i n)=1+width n - (i+1);rw [xp i n];omega
theorem yO {h:Hedge}:width h=0↔h=.nil:=by
 cases h with
 | nil=>exact⟨fun _=>rfl,fun _=>rfl⟩
 | el a k n=>exact⟨fun e=>by exfalso;have:1+width n=0:=e;omega,fun e=>by cases e⟩
 | tx t n=>exact⟨fun e=>by exfalso;have:1+width n=0:=e;omega,fun e=>by cases e⟩
theorem xT {i:Nat} {h:Hedge}:dropTrees i h≠.nil↔i<width h:=by
 have:=xp i h
 constructor
 ·intro e
  have:width (dropTrees i h)≠0:=fun z=>e (yO.mp z)
  omega
 ·intro e z
  have:=yO.mpr z
  omega
theorem Zr (h:Hedge):deep (hd h)<=deep h:=by
 cases h with
 | nil=>exact Nat.le_refl _
 | el a k n=>show max (1+deep k) 0<=max (1+deep k) (deep n);omega
 | tx x n=>show max 1 0<=max 1 (deep n);omega
theorem xL:∀(i:Nat) (h:Hedge),deep (dropTrees i h)<=deep h
 | 0,h=>by rw [zL];exact Nat.le_refl _
 | i+1,h=>by rw [zo];exact Nat.le_trans (JN _) (xL i h)
theorem qZ:∀(h g:Hedge),(width h=width g/\zI h g=width h)↔h=g
 | .nil,g=>by
  constructor
  ·intro ⟨e,_⟩;exact(yO.mp e.symm).symm
  ·intro e;subst e;exact⟨rfl,rfl⟩
 | .el a k n,g=>by
  constructor
  ·intro ⟨e1,e2⟩
   by_cases q:hd (.el a k n)=hd g
   ·cases g with
    | nil=>cases q
    | el b j m=>
     have e2':=xm (by intro z;cases z) (by intro z;cases z) q
     cases q
     have:=(qZ n m).mp ⟨by have e1:1+width n=1+width m:=e1;omega,by rw [e2] at e2';have e2':1+width n=zI n m+1:=e2';omega⟩
     subst this;rfl
    | tx u m=>cases q
   ·rw [xM q] at e2
    exfalso;have e2:0=1+width n:=e2;omega
  ·intro e
   subst e
   refine⟨rfl,?_⟩
   rw [xm (by intro z;cases z) (by intro z;cases z) rfl]
   have:=((qZ n n).mpr rfl).2
   show zI n n+1=1+width n
   omega
 | .tx t n,g=>by
  constructor
  ·intro ⟨e1,e2⟩
   by_cases q:hd (.tx t n)=hd g
   ·cases g with
    | nil=>cases q
    | el b j m=>cases q
    | tx u m=>
     have e2':=xm (by intro z;cases z) (by intro z;cases z) q
     cases q
     have:=(qZ n m).mp ⟨by have e1:1+width n=1+width m:=e1;omega,by rw [e2] at e2';have e2':1+width n=zI n m+1:=e2';omega⟩
     subst this;rfl
   ·rw [xM q] at e2
    exfalso;have e2:0=1+width n:=e2;omega
  ·intro e
   subst e
   refine⟨rfl,?_⟩
   rw [xm (by intro z;cases z) (by intro z;cases z) rfl]
   have:=((qZ n n).mpr rfl).2
   show zI n n+1=1+width n
   omega
def spSameTree (C:Addr) (d:Nat):Sp:=fun vs H Q _=>∃(a b:Addr) (h g:Hedge),vs=[.ref a,.ref b]/\xG C H a h/\xG C H b g/\deep (hd h)<=d/\Q (.bl (decide (hd h=hd g))) H
def spSameHedge (C:Addr) (d:Nat):Sp:=fun vs H Q _=>∃(a b:Addr) (us ws:List V) (h g:Hedge),vs=[.ref a,.ref b]/\H a=some (.lst us)/\H b=some (.lst ws)/\zm C H us h/\zm C H ws g/\deep h<=d/\Q (.bl (decide (h=g))) H
def spSameLead (C:Addr) (d:Nat):Sp:=fun vs H Q _=>∃(a b:Addr) (us ws:List V) (h g:Hedge),vs=[.ref a,.ref b]/\H a=some (.lst us)/\H b=some (.lst ws)/\zm C H us h/\zm C H ws g/\deep h<=d/\Q (.int (zI h g)) H
section
variable {P:Program} {w:World} {K:PySem.W.Frag} {mg:Str->Option Value} {base:Heap}
theorem scLead:zh ["one","other","lead"] ["one","other"] (zg sSameLead):=⟨rfl,rfl,rfl,by decide +kernel,rfl,by decide +kernel,by decide +kernel⟩
theorem scSameTree:zh ["one","other"] ["one","other"] (zg sSameTree):=⟨rfl,rfl,rfl,by decide +kernel,rfl,by decide +kernel,by decide +kernel⟩
theorem scSameHedge:zh ["one","other"] ["one","other"] (zg sSameHedge):=⟨rfl,rfl,rfl,by decide +kernel,rfl,by decide +kernel,by decide +kernel⟩
theorem Nh {d k0:Nat} (X:zw K mg) (G:zj P w K mg base CX0 k0 X.sTree.f X.sTree.fd ["one","other"] (spSameTree X.T.C d)):zj P w K mg base CX0 (k0+1) X.sLead.f X.sLead.fd ["one","other"] (spSameLead X.T.C d):=by
 refine X.sLead.F.ok scLead (fun vs H Q E h=>?_) (fun cdv A outer s H vs Q E hr h=>?_)
 ·obtain⟨_,_,_,_,_,_,rfl,_⟩:=h
  rfl
 ·obtain⟨a,b,us,ws,h,g,rfl,ha,hb,F1,F2,dp,k⟩:=h
  refine⟨_,z9 (zy (i:=2) scLead.nd rfl (Or.inl rfl) zi) (z9 (jI PassesOwn.never
   (jQ (zx qw (pv 2) (zU zF (by rfl) X.nlen PySem.boot_len (z6 (pv 0) zb)) (zG _))
    (jQ (zx qw (pv 2) (zU zF (by rfl) X.nlen PySem.boot_len (z6 (pv 1) zb)) (zG _))
     (qj (zV (zC G hr (by rfl) X.sTree.m X.sTree.F.kp X.sTree.b .nil zk (z6 (zN zA (pv 0) (pv 2) (fun _ _=>rfl)) (z6 (zN zA (pv 1) (pv 2) (fun _ _=>rfl)) zb))) (fun _=>rfl))))).pt
   (zc (Yo (i:=2) scLead.nd rfl (Or.inl rfl) zi Yx))) (zc (zn (pv 2)))),?_⟩
  have e1:=F1.len
  have e2:=F2.len
  refine⟨fun m σ H'=>∃i:Nat,σ=[some (.ref a),some (.ref b),some (.int i)]/\H'=H/\m=width h - i/\i<=width h/\i<=width g/\zI h g=i+zI (dropTrees i h) (dropTrees i g),⟨_,0,rfl,rfl,rfl,Nat.zero_le _,Nat.zero_le _,by rw [zL,zL];omega⟩,?_⟩
  rintro m σ H' ⟨i,rfl,rfl,rfl,le1,le2,inv⟩
  refine⟨_,rfl,_,rfl,a,us,rfl,.inl (SqL.of ha),_,_,rfl,rfl,_,rfl,?_⟩
  by_cases c1:i<width h
  ·rw [decide_eq_true (show((i:Nat):Int)<((us.length:Nat):Int) by omega)]
   refine zu ?_
   refine⟨_,rfl,_,rfl,b,ws,rfl,.inl (SqL.of hb),_,_,rfl,rfl,_,rfl,?_⟩
   by_cases c2:i<width g
   ·rw [decide_eq_true (show((i:Nat):Int)<((ws.length:Nat):Int) by omega)]
    refine zu ?_
    obtain⟨v1,hv1⟩:∃v,us[i]? = some v:=⟨_,List.getElem?_eq_getElem (by omega)⟩
    obtain⟨v2,hv2⟩:∃v,ws[i]? = some v:=⟨_,List.getElem?_eq_getElem (by omega)⟩
    obtain⟨t1,rfl,T1⟩:=F1.get hv1
    obtain⟨t2,rfl,T2⟩:=F2.get hv2
    have dd:deep (hd (dropTrees i h))<=d:=Nat.le_trans (Zr _) (Nat.le_trans (xL i h) dp)
    refine⟨_,rfl,_,rfl,a,us,i,_,rfl,rfl,SqL.of ha,zp hv1,_,rfl,_,rfl,b,ws,i,_,rfl,rfl,SqL.of hb,zp hv2,t1,t2,_,_,rfl,T1,T2,dd,?_⟩
    by_cases e:hd (dropTrees i h)=hd (dropTrees i g)
    ·rw [decide_eq_true e]
     refine⟨true,rfl,zu ⟨fun σ' H''=>∃j:Nat,σ'=[some (.ref a),some (.ref b),some (.int j)]/\H''=H'/\j=i+1,?_,?_⟩⟩
     ·rintro σ' H'' ⟨j,rfl,rfl,rfl⟩
      refine⟨width h - (i+1),by omega,i+1,rfl,rfl,rfl,by omega,by omega,?_⟩
      rw [inv,xm T1.ne T2.ne e,zo,zo]
      omega
     ·exact⟨_,rfl,_,_,rfl,rfl,i+1,rfl,rfl,rfl⟩
    ·rw [decide_eq_false e]
     refine⟨false,rfl,zr ⟨_,rfl,?_⟩⟩
     rw [inv,xM e] at k
     exact k
   ·rw [decide_eq_false (show ¬((i:Nat):Int)<((ws.length:Nat):Int) by omega)]
    refine zr (zr ⟨_,rfl,?_⟩)
    have z:dropTrees i g=.nil:=by
     have:=xp i g
     exact yO.mp (by omega)
    rw [inv,z,qm] at k
    exact k
  ·rw [decide_eq_false (show ¬((i:Nat):Int)<((us.length:Nat):Int) by omega)]
   refine zr (zr ⟨_,rfl,?_⟩)
   have z:dropTrees i h=.nil:=by
    have:=xp i h
    exact yO.mp (by omega)
   rw [inv,z,ji] at k
   exact k
theorem Yj {d k0:Nat} (X:zw K mg) (G:zj P w K mg base CX0 k0 X.sLead.f X.sLead.fd ["one","other"] (spSameLead X.T.C d)):zj P w K mg base CX0 (k0+1) X.sHedge.f X.sHedge.fd ["one","other"] (spSameHedge X.T.C d):=by
 refine X.sHedge.F.ok scSameHedge (fun vs H Q E h=>?_) (fun cdv A outer s H vs Q E hr h=>?_)
 ·obtain⟨_,_,_,_,_,_,rfl,_⟩:=h
  rfl
 ·obtain⟨a,b,us,ws,h,g,rfl,ha,hb,F1,F2,dp,k⟩:=h
  refine⟨_,zc (zn (zbz (JC xO (zU zF (by rfl) X.nlen PySem.boot_len (z6 (pv 0) zb)) (zU zF (by rfl) X.nlen PySem.boot_len (z6 (pv 1) zb)) (zG _))
   (zcw (JC xO (zC G hr (by rfl) X.sLead.m X.sLead.F.kp X.sLead.b .nil zk (z6 (pv 0) (z6 (pv 1) zb))) (zU zF (by rfl) X.nlen PySem.boot_len (z6 (pv 0) zb)) (zG _))))),?_⟩
  have e1:=F1.len
  have e2:=F2.len
  have q:=qZ h g
  refine⟨_,rfl,a,us,rfl,.inl (SqL.of ha),_,rfl,b,ws,rfl,.inl (SqL.of hb),rfl,_,rfl,?_⟩
  by_cases c:width h=width g
  ·rw [decide_eq_true (show V.int (us.length:Nat)=V.int (ws.length:Nat) by rw [e1,e2,c])]
   refine zu ?_
   refine⟨_,rfl,_,rfl,a,b,us,ws,h,g,rfl,ha,hb,F1,F2,dp,_,rfl,a,us,rfl,.inl (SqL.of ha),rfl,?_⟩
   have z:decide (V.int (zI h g)=V.int (us.length:Nat))=decide (h=g):=by
    by_cases e:h=g
    ·rw [decide_eq_true e,decide_eq_true]
     rw [(q.mpr e).2,e1]
    ·rw [decide_eq_false e,decide_eq_false]
     intro y
     have y':((zI h g:Nat):Int)=((us.length:Nat):Int):=V.int.inj y
     exact e (q.mp ⟨c,by omega⟩)
   rw [z]
   exact k
  ·rw [decide_eq_false (show ¬V.int (us.length:Nat)=V.int (ws.length:Nat) from fun y=>by have y':((us.length:Nat):Int)=((ws.length:Nat):Int):=V.int.inj y;omega)]
   refine zr ?_
   rw [decide_eq_false (fun e=>c (q.mpr e).1)] at k
   exact k
theorem xu {h:Hedge} {d:Nat} (e:deep (hd h)<=d+1):deep (children h)<=d:=by
 cases h with
 | nil=>exact Nat.zero_le _
 | el a k n=>have:max (1+deep k) 0<=d+1:=e;show deep k<=d;omega
 | tx x n=>exact Nat.zero_le _
theorem Uy {d k0:Nat} (X:zw K mg) (G:zj P w K mg base CX0 k0 X.sHedge.f X.sHedge.fd ["one","other"] (spSameHedge X.T.C d)):zj P w K mg base CX0 (k0+1) X.sTree.f X.sTree.fd ["one","other"] (spSameTree X.T.C (d+1)):=by
 refine X.sTree.F.ok scSameTree (fun vs H Q E h=>?_) (fun cdv A outer s H vs Q E hr h=>?_)
 ·obtain⟨_,_,_,_,rfl,_⟩:=h
  rfl
 ·obtain⟨a,b,h,g,rfl,T1,T2,dp,k⟩:=h
  refine⟨_,z9 (zR (qK (zx YG (ze (pv 0) rfl) (ze (pv 1) rfl) (zG _)) (qK (zx YG (ze (pv 0) rfl) (ze (pv 1) rfl) (zG _)) (qA (zx (Uk hr.units) (ze (pv 0) rfl) (ze (pv 1) rfl) (zG _))))).pt
   (zc (zn ZC)) zE) (zc (zn (zC G hr (by rfl) X.sHedge.m X.sHedge.F.kp X.sHedge.b .nil zk (z6 (ze (pv 0) rfl) (z6 (ze (pv 1) rfl) zb))))),?_⟩
  obtain⟨⟨dx1,w1,k1,ks1,a1,a2,a3,f1⟩,n1⟩:=T1
  obtain⟨⟨dx2,w2,k2,ks2,b1,b2,b3,f2⟩,n2⟩:=T2
  have he:=JO n1 n2
  refine⟨_,rfl,a,X.T.C,dx1,_,_,rfl,a1,X.T.c,X.T.n,rfl,_,rfl,b,X.T.C,dx2,_,_,rfl,b1,X.T.c,X.T.n,rfl,rfl,_,rfl,?_⟩
  by_cases c1:nodes (hd h)=nodes (hd g)
  ·rw [decide_eq_true (show V.int (nodes (hd h):Nat)=V.int (nodes (hd g):Nat) by rw [c1])]
   refine zr ?_
   refine⟨_,rfl,a,X.T.C,dx1,_,_,rfl,a1,X.T.c,X.T.n,rfl,_,rfl,b,X.T.C,dx2,_,_,rfl,b1,X.T.c,X.T.n,rfl,rfl,_,rfl,?_⟩
   by_cases c2:zq h=zq g
   ·rw [decide_eq_true (show V.bl (zq h)=V.bl (zq g) by rw [c2])]
    refine zr ?_
    refine⟨_,rfl,a,X.T.C,dx1,_,_,rfl,a1,X.T.c,X.T.n,rfl,_,rfl,b,X.T.C,dx2,_,_,rfl,b1,X.T.c,X.T.n,rfl,rNeW a2 b2 ⟨_,rfl,?_⟩⟩
    by_cases c3:saying h=saying g
    ·rw [decide_eq_true c3]
     refine zr ?_
     refine⟨_,rfl,a,X.T.C,dx1,_,_,rfl,a1,X.T.c,X.T.n,rfl,_,rfl,b,X.T.C,dx2,_,_,rfl,b1,X.T.c,X.T.n,rfl,k1,k2,ks1,ks2,children h,children g,rfl,a3,b3,f1,f2,xu dp,?_⟩
     have z:decide (children h=children g)=decide (hd h=hd g):=by
      by_cases e:children h=children g
      ·rw [decide_eq_true e,decide_eq_true (he.mpr ⟨c2,c3,e⟩)]
      ·rw [decide_eq_false e,decide_eq_false fun y=>e (he.mp y).2.2]
     rw [z]
     exact k
    ·rw [decide_eq_false c3]
     refine zu ?_
     rw [decide_eq_false fun y=>c3 (he.mp y).2.1] at k
     exact k
   ·rw [decide_eq_false (show ¬V.bl (zq h)=V.bl (zq g) from fun y=>c2 (V.bl.inj y))]
    refine zu (zu ?_)
    rw [decide_eq_false fun y=>c2 (he.mp y).1] at k
    exact k
  ·rw [decide_eq_false (show ¬V.int (nodes (hd h):Nat)=V.int (nodes (hd g):Nat) from fun y=>c1 (by have:=V.int.inj y;omega))]
   refine zu (zu ?_)
   rw [decide_eq_false fun y=>c1 (by rw [y])] at k
   exact k
theorem Jo {h:Hedge} (hh:h≠.nil):1<=deep (hd h):=by
 cases h with
 | nil=>exact absurd rfl hh
 | el a k n=>show 1<=max (1+deep k) 0;omega
 | tx x n=>show 1<=max 1 0;omega
theorem ZQ (X:zw K mg):∀d,zj P w K mg base CX0 (3*d+1) X.sTree.f X.sTree.fd ["one","other"] (spSameTree X.T.C d)
 | 0=>⟨fun vs H Q E h=>by obtain⟨_,_,_,_,rfl,_⟩:=h;rfl,fun A outer s H args us vs Q E _ _ _ _ h=>by
   obtain⟨_,_,h,_,_,T,_,e,_⟩:=h
   have:=Jo T.ne
   omega⟩
 | d+1=>Uy X (Yj X (Nh X (ZQ X d)))
theorem VY (X:zw K mg) (d:Nat):zj P w K mg base CX0 (3*d+2) X.sLead.f X.sLead.fd ["one","other"] (spSameLead X.T.C d):=Nh X (ZQ X d)
theorem VW (X:zw K mg) (d:Nat):zj P w K mg base CX0 (3*d+3) X.sHedge.f X.sHedge.fd ["one","other"] (spSameHedge X.T.C d):=Yj X (VY X d)
end
end Hm
end
section
namespace Hm
open Vaheda (Hedge nodes append width deep children saying dropTrees firstTrees form escaped joined)
abbrev zl:=List UInt8
def Wok (_:Bool) (t:zl):Prop:=t≠[]/\t.length<=200
def qx (h:Hedge):zl:=if zq h then 39::(escaped (saying h)++[39]) else saying h++(if children h=.nil then [] else 40::(form (children h)++[41]))
theorem N7:∀{h:Hedge},yi Wok h->h≠.nil->form h≠[]
 | .nil,_,e=>absurd rfl e
 | .el a k n,w,_=>by
  intro z
  have z:joined (a++(if k=.nil then [] else 40::(form k++[41]))) (form n)=[]:=z
  unfold joined at z
  have wa:a≠[]:=w.1.1
  split at z
  ·exact wa (List.append_eq_nil_iff.mp z).1
  ·exact wa (List.append_eq_nil_iff.mp (List.append_eq_nil_iff.mp z).1).1
 | .tx t n,w,_=>by
  intro z
  have z:joined (39::(escaped t++[39])) (form n)=[]:=z
  unfold joined at z
  split at z
  ·cases z
  ·cases z
theorem OX {h:Hedge} (w:yi Wok h) (hh:h≠.nil):form h=qx h++(if tl h=.nil then [] else 32::form (tl h)):=by
 cases h with
 | nil=>exact absurd rfl hh
 | el a k n=>
  show joined (a++(if k=.nil then [] else 40::(form k++[41]))) (form n)=(a++(if k=.nil then [] else 40::(form k++[41])))++(if n=.nil then [] else 32::form n)
  unfold joined
  by_cases e:n=.nil
  ·subst e;rw [if_pos rfl,if_pos (show(form .nil).isEmpty=true from rfl),List.append_nil]
  ·rw [if_neg e,if_neg]
   intro z
   exact N7 w.2.2 e (List.isEmpty_iff.mp z)
 | tx t n=>
  show joined (39::(escaped t++[39])) (form n)=(39::(escaped t++[39]))++(if n=.nil then [] else 32::form n)
  unfold joined
  by_cases e:n=.nil
  ·subst e;rw [if_pos rfl,if_pos (show(form .nil).isEmpty=true from rfl),List.append_nil]
  ·rw [if_neg e,if_neg]
   intro z
   exact N7 w.2 e (List.isEmpty_iff.mp z)
theorem zbo {P}:∀{h:Hedge},yi P h->yi P (tl h)
 | .nil,_=>trivial
 | .el a k n,w=>w.2.2
 | .tx t n,w=>w.2
theorem Jd {P}:∀(i:Nat) {h:Hedge},yi P h->yi P (dropTrees i h)
 | 0,h,w=>by rw [zL];exact w
 | i+1,h,w=>by rw [zo];exact zbo (Jd i w)
def pre:Nat->Hedge->zl
 | 0,_=>[]
 | i+1,h=>pre i h++(if i=0 then qx (dropTrees i h) else 32::qx (dropTrees i h))
theorem Nf:∀(n:Nat) (h:Hedge),width h=n->yi Wok h->∀i,i<=width h->form h=pre i h++(if i=width h then [] else if i=0 then form (dropTrees i h) else 32::form (dropTrees i h)):=by
 intro n h _ w i
 induction i with
 | zero=>
  intro _
  show form h=[]++_
  rw [List.nil_append,zL]
  by_cases e:0=width h
  ·rw [if_pos e,yO.mp e.symm];rfl
  ·rw [if_neg e,if_pos rfl]
 | succ i ih=>
  intro le
  have ih:=ih (by omega)
  have ne:dropTrees i h≠.nil:=xT.mpr (by omega)
  have fc:=OX (Jd i w) ne
  rw [ih,if_neg (by omega)]
  show _=(pre i h++_)++_
  rw [List.append_assoc]
  congr 1
  have tlw:tl (dropTrees i h)=.nil↔i+1=width h:=by
   rw [<-zo]
   have:=xp (i+1) h
   rw [<-yO]
   omega
  rw [fc,<-zo]
  rw [<-zo] at tlw
  by_cases e:i+1=width h
  ·rw [if_pos e,if_pos (tlw.mpr e),List.append_nil,List.append_nil]
  ·rw [if_neg e,if_neg (show ¬i+1=0 by omega),if_neg (fun z=>e (tlw.mp z))]
   by_cases z:i=0
   ·rw [if_pos z,if_pos z]
   ·rw [if_neg z,if_neg z];rfl
theorem IS {h:Hedge} (w:yi Wok h):form h=pre (width h) h:=by
 have:=Nf _ h rfl w (width h) (Nat.le_refl _)
 rw [if_pos rfl,List.append_nil] at this
 exact this
theorem zbm {h:Hedge} (w:yi Wok h) {i:Nat} (le:i<=width h):(pre i h).length<=(form h).length:=by
 rw [Nf _ h rfl w i le,List.length_append]
 exact Nat.le_add_right _ _
theorem Z9 (i:Nat) (h:Hedge):pre (i+1) h=pre i h++(if i=0 then qx (dropTrees i h) else 32::qx (dropTrees i h)):=rfl
theorem VI (b:UInt8) (t:zl):escaped (b::t)=(if b=39\/b=92 then [92,b] else [b])++escaped t:=by
 unfold escaped;rw [List.flatMap_cons]
theorem Ja (t:zl) (b:UInt8):escaped (t++[b])=escaped t++(if b=39\/b=92 then [92,b] else [b]):=by
 unfold escaped;rw [List.flatMap_append];simp
theorem UI (t:zl):(escaped t).length<=2*t.length:=by
 induction t with
 | nil=>exact Nat.le_refl _
 | cons b t ih=>
  rw [VI,List.length_append,List.length_cons]
  split <;> simp <;> omega
theorem qk:∀{h:Hedge},yi Wok h->(form h).length<=410*nodes h
 | .nil,_=>Nat.zero_le _
 | .el a k n,w=>by
  have i1:=qk w.2.1
  have i2:=qk w.2.2
  have la:a.length<=200:=w.1.2
  show(joined (a++(if k=.nil then [] else 40::(form k++[41]))) (form n)).length<=410*(1+nodes k+nodes n)
  unfold joined
  split <;> split <;> simp <;> omega
 | .tx t n,w=>by
  have i2:=qk w.2
  have la:t.length<=200:=w.1.2
  have le:=UI t
  show(joined (39::(escaped t++[39])) (form n)).length<=410*(1+nodes n)
  unfold joined
  split <;> simp <;> omega
end Hm
end
section
namespace Hm
open PySem PySem.Spec PyProof.Rows L2
open Vaheda (Hedge nodes append width deep children saying dropTrees form escaped)
def GlI (mg:Str->Option Value) (x:Str) (i:Int):Prop:=∃t,mg x=some (.int i t)
theorem zP {X:Cx} {x:Str} {i:Int} {pos:Pos} (h:GlI X.mg x i) (hg:Gl X x:=by rfl) (hd:(x == ("__debug__":Str))=false:=by decide):PE X (.Name x pos) (tC (.int i)):=by
 obtain⟨t,h⟩:=h
 exact Nq hg h ⟨t,rfl⟩ hd
abbrev sForm:Stmt:=top 73
abbrev sWHedge:Stmt:=top 74
abbrev sWTree:Stmt:=top 75
abbrev sWLeaf:Stmt:=top 76
structure y9 (K:PySem.W.Frag) (mg:Str->Option Value):Type where
 form:Df K mg "hedge_form" sForm ["hedge"]
 wHedge:Df K mg "write_hedge" sWHedge ["hedge","written"]
 wTree:Df K mg "write_tree" sWTree ["tree","written"]
 wLeaf:Df K mg "write_leaf" sWLeaf ["word","written"]
 blank:GlI mg "BLANK" 32
 quote:GlI mg "QUOTE" 39
 lpar:GlI mg "LEFT_PAREN" 40
 rpar:GlI mg "RIGHT_PAREN" 41
 back:GlI mg "BACKSLASH" 92
 nenum:mg "enumerate"=none
theorem xo (t u:zl):wds (t++u)=wds t++wds u:=by unfold wds;rw [List.map_append]
theorem ye (t:zl):(wds t).length=t.length:=by unfold wds;rw [List.length_map]
def spWrite (l:Addr) (out:List V) (t:zl) (H:Hp) (Q:VK):Prop:=H l=some (.lst out)/\out.length+t.length<=sizeLine/\∀H',H' l=some (.lst (out++wds t))->But [l] H H'->Q .non H'
def spWLeaf:Sp:=fun vs H Q _=>∃(a l:Addr) (t:zl) (out:List V),vs=[.ref a,.ref l]/\a≠l/\H a=some (.lst (wds t))/\spWrite l out (39::(escaped t++[39])) H Q
def spWTree (C:Addr) (d:Nat):Sp:=fun vs H Q _=>∃(a l:Addr) (h:Hedge) (out:List V),vs=[.ref a,.ref l]/\xG C (hid [l] H) a h/\yi Wok (hd h)/\deep (hd h)<=d/\spWrite l out (qx h) H Q
def spWHedge (C:Addr) (d:Nat):Sp:=fun vs H Q _=>∃(a l:Addr) (h:Hedge) (ts out:List V),vs=[.ref a,.ref l]/\a≠l/\H a=some (.lst ts)/\zm C (hid [l] H) ts h/\yi Wok h/\deep h<=d/\spWrite l out (form h) H Q
def spForm (C:Addr) (d:Nat):Sp:=fun vs H Q _=>∃(a:Addr) (h:Hedge) (ts:List V),vs=[.ref a]/\H a=some (.lst ts)/\zm C H ts h/\yi Wok h/\deep h<=d/\nodes h<=1000/\∀H' l,H l=none->H' l=some (.lst (wds (form h)))->zd H H'->Q (.ref l) H'
theorem YX {K:PySem.W.Frag} {H:Hp} {p:Addr} {xs:List V} (h:SqL K H p xs):TruV K (.ref p) H (!xs.isEmpty):=Or.inl ⟨xs,h,rfl⟩
theorem Up {K:PySem.W.Frag} {a:Addr} {xs:List V} {g:TG} {tb:TS} {D:Jl} {σ:L2.St} {H:Hp} (Pv:Nat->L2.St->Hp->Prop) (h0:Pv 0 σ H) (hl:∀i σ H,i<=xs.length->Pv i σ H->SqL K H a xs)
  (hs:∀i x σ H T,xs[i]? = some x->Pv i σ H->H T=none->g (.ref T) σ (upd H T (.tup [.int (i:Nat),x])) fun σ2 H2=>tb {D with nx:=Pv (i+1),ct:=Pv (i+1),bk:=D.nx} σ2 H2) (hd:∀σ H,Pv xs.length σ H->D.nx σ H) :
  ∃W:Nat->Nat->L2.St->Hp->Prop,(∃m,W 0 m σ H)/\∀i m σ H,W i m σ H ->
   ((Ite K a).stop i H/\D.nx σ H)\/((Ite K a).go i H/\∃N:L2.St->Hp->Prop,(∀σ' H',N σ' H'->∃m',m'<m/\W (i+1) m' σ' H')/\∀x H',(Ite K a).yld i H x H'->g x σ H' fun σ2 H2=>tb {D with nx:=N,ct:=N,bk:=D.nx} σ2 H2):=by
 refine⟨fun i m σ H=>m=xs.length - i/\i<=xs.length/\Pv i σ H,⟨xs.length,by simp,Nat.zero_le _,h0⟩,?_⟩
 rintro i m σ H ⟨rfl,hi,p⟩
 have q:=hl i σ H hi p
 by_cases hlt:i<xs.length
 ·refine .inr ⟨⟨xs,xs[i],q,by simp [hlt]⟩,Pv (i+1),fun σ' H' p'=>⟨xs.length - (i+1),by omega,rfl,hlt,p'⟩,fun x H' y=>?_⟩
  obtain⟨T,x,rfl,hT,rfl,hx⟩:=y
  exact hs i x σ H T (hx xs q) p hT
 ·have e:i=xs.length:=by omega
  subst e
  exact .inl ⟨⟨xs,q,Nat.le_refl _⟩,hd σ H p⟩
section
variable {P:Program} {w:World} {K:PySem.W.Frag} {mg:Str->Option Value} {base:Heap}
theorem scWLeaf:zh ["word","written","byte"] ["word","written"] (zg sWLeaf):=⟨rfl,rfl,rfl,by decide +kernel,rfl,by decide +kernel,by decide +kernel⟩
theorem scWTree:zh ["tree","written"] ["tree","written"] (zg sWTree):=⟨rfl,rfl,rfl,by decide +kernel,rfl,by decide +kernel,by decide +kernel⟩
theorem scWHedge:zh ["hedge","written","place","tree"] ["hedge","written"] (zg sWHedge):=⟨rfl,rfl,rfl,by decide +kernel,rfl,by decide +kernel,by decide +kernel⟩
theorem scForm:zh ["hedge","written"] ["hedge"] (zg sForm):=⟨rfl,rfl,rfl,by decide +kernel,rfl,by decide +kernel,by decide +kernel⟩
theorem b39 {b:UInt8}:((b.toNat:Int) == 39)=decide (b=39):=by
 rw [Bool.eq_iff_iff,beq_iff_eq,decide_eq_true_eq]
 exact⟨fun e=>UInt8.toNat_inj.mp (by show b.toNat=39;omega),fun e=>by subst e;rfl⟩
theorem b92 {b:UInt8}:((b.toNat:Int) == 92)=decide (b=92):=by
 rw [Bool.eq_iff_iff,beq_iff_eq,decide_eq_true_eq]
 exact⟨fun e=>UInt8.toNat_inj.mp (by show b.toNat=92;omega),fun e=>by subst e;rfl⟩
theorem za9 (X:y9 K mg):zj P w K mg base CX0 1 X.wLeaf.f X.wLeaf.fd ["word","written"] spWLeaf:=by
 refine X.wLeaf.F.ok scWLeaf (fun vs H Q E h=>?_) (fun cdv A outer s H vs Q E hr h=>?_)
 ·obtain⟨_,_,_,_,rfl,_⟩:=h
  rfl
 ·obtain⟨a,l,t,out,rfl,nal,ha,hl,hz,k⟩:=h
  refine⟨_,z9 (zz (yK PySem.F.plainAttrs_list PySem.F.slot_list_append PySem.F.type_list_append yc (pv 1) (z6 (zP X.quote rfl) zb)))
   (z9 (xF PassesOwn.never rfl (jh (pv 0)) (yA (i:=2) scWLeaf.nd rfl (Or.inl rfl))
    (z9 (zR (zx ZW (pv 2) (jB (z6 (zP X.quote rfl) (z6 (zP X.back rfl) zb))) rfl)
     (zc (zz (yK PySem.F.plainAttrs_list PySem.F.slot_list_append PySem.F.type_list_append yc (pv 1) (z6 (zP X.back rfl) zb)))) zE)
    (zc (zz (yK PySem.F.plainAttrs_list PySem.F.slot_list_append PySem.F.type_list_append yc (pv 1) (z6 (pv 2) zb))))))
   (zc (zz (yK PySem.F.plainAttrs_list PySem.F.slot_list_append PySem.F.type_list_append yc (pv 1) (z6 (zP X.quote rfl) zb))))),?_⟩
  simp only [List.length_cons,List.length_append,List.length_nil] at hz
  refine⟨_,rfl,.inl ⟨rfl,_,SqL.of hl⟩,l,_,_,rfl,rfl,hl,by omega,?_⟩
  refine⟨_,rfl,a,rfl,⟨_,SqL.of (by rw [z8 nal];exact ha)⟩,jq (K:=K) (a:=a) (xs:=wds t) (fun i σ H'=>∃v,σ=[some (.ref a),some (.ref l),v]/\H' l=some (.lst (out++wds (39::escaped (t.take i))))/\But [l] H H')
   ⟨_,rfl,by rw [z7];rfl,But.upd (by simp)⟩ (fun i σ H' _ ⟨_,_,_,b⟩=>SqL.of (b a _ ha (by simpa using nal))) ?_ ?_⟩
  ·rintro i x σ H' hi ⟨v,rfl,hl',b⟩
   obtain⟨y,hy,rfl⟩:∃y,t[i]? = some y/\x=V.int y.toNat:=by
    unfold wds at hi
    rw [List.getElem?_map] at hi
    cases e:t[i]? with
    | none=>rw [e] at hi;cases hi
    | some y=>rw [e] at hi;exact⟨y,rfl,(Option.some.inj hi).symm⟩
   have hlt:=(List.getElem?_eq_some_iff.mp hy).1
   have le0:(escaped (t.take (i+1))).length<=(escaped t).length:=by
    conv=>rhs;rw [<-List.take_append_drop (i+1) t]
    unfold escaped
    rw [List.flatMap_append,List.length_append]
    exact Nat.le_add_right _ _
   rw [xK hy,Ja,List.length_append] at le0
   refine⟨_,rfl,(by show 2<=sizeLine;decide),fun tp htp=>?_⟩
   have ntl:l≠tp:=za hl' htp
   refine⟨tp,_,rfl,.inr (SqT.of z7),rfl,rfl,_,rfl,?_⟩
   have e0:inV (.int y.toNat) [V.int 39,V.int 92]=decide (y=39\/y=92):=by
    show((39:Int) == (y.toNat:Int) || ((92:Int) == (y.toNat:Int) || false))=_
    rw [Bool.or_false,show((39:Int) == (y.toNat:Int))=((y.toNat:Int) == 39) from BEq.comm,show((92:Int) == (y.toNat:Int))=((y.toNat:Int) == 92) from BEq.comm,b39,b92]
    simp
   show if (inV (.int y.toNat) [V.int 39,V.int 92])=true then _ else _
   rw [e0]
   by_cases c:y=39\/y=92
   ·rw [if_pos c] at le0
    simp only [List.length_cons,List.length_nil] at le0
    rw [decide_eq_true c]
    refine zu ?_
    refine⟨_,rfl,.inl ⟨rfl,_,SqL.of (by rw [z8 ntl];exact hl')⟩,l,_,_,rfl,rfl,by rw [z8 ntl];exact hl',by rw [List.length_append,ye,List.length_cons];omega,?_⟩
    refine⟨_,rfl,.inl ⟨rfl,_,SqL.of z7⟩,_,rfl,l,_,_,rfl,rfl,z7,by rw [List.length_append,List.length_append,ye,List.length_cons];simp only [List.length_cons,List.length_nil];omega,?_⟩
    refine⟨_,rfl,?_,((b.trans (But.new htp)).trans (But.upd (by simp))).trans (But.upd (by simp))⟩
    rw [z7,xK hy,Ja,if_pos c,List.append_assoc,List.append_assoc]
    congr 2
    rw [<-List.cons_append,xo]
    rfl
   ·rw [if_neg c] at le0
    simp only [List.length_cons,List.length_nil] at le0
    rw [decide_eq_false c]
    refine zr ?_
    refine⟨_,rfl,.inl ⟨rfl,_,SqL.of (by rw [z8 ntl];exact hl')⟩,_,rfl,l,_,_,rfl,rfl,by rw [z8 ntl];exact hl',by rw [List.length_append,ye,List.length_cons];omega,?_⟩
    refine⟨_,rfl,?_,(b.trans (But.new htp)).trans (But.upd (by simp))⟩
    rw [z7,xK hy,Ja,if_neg c,List.append_assoc]
    congr 2
    rw [<-List.cons_append,xo]
    rfl
  ·rintro σ H' ⟨v,rfl,hl',b⟩
   rw [ye,List.take_length] at hl'
   refine⟨_,rfl,.inl ⟨rfl,_,SqL.of hl'⟩,l,_,_,rfl,rfl,hl',by rw [List.length_append,ye,List.length_cons];omega,?_⟩
   refine k _ ?_ (b.trans (But.upd (by simp)))
   rw [z7,List.append_assoc,<-List.cons_append,xo]
   rfl
theorem VQ {P}:∀{h:Hedge},yi P (hd h)->yi P (children h)
 | .nil,_=>trivial
 | .el a k n,w=>w.2.1
 | .tx t n,w=>trivial
theorem IE {d k0:Nat} (X:y9 K mg) (T:zw K mg) (G:zj P w K mg base CX0 (k0+1) X.wHedge.f X.wHedge.fd ["hedge","written"] (spWHedge T.T.C d)):zj P w K mg base CX0 (k0+2) X.wTree.f X.wTree.fd ["tree","written"] (spWTree T.T.C (d+1)):=by
 have GL:=(za9 (P:=P) (w:=w) (base:=base) X).mono (show 1<=k0+1 by omega)
 refine X.wTree.F.ok scWTree (fun vs H Q E h=>?_) (fun cdv A outer s H vs Q E hr h=>?_)
 ·obtain⟨_,_,_,_,rfl,_⟩:=h
  rfl
 ·obtain⟨a,l,h,out,rfl,T1,wk,dp,hl,hz,k⟩:=h
  refine⟨_,z9 (zR (zV (ze (pv 0) rfl) (fun _=>rfl)) (z9 (zz (zC GL hr (by rfl) X.wLeaf.m X.wLeaf.F.kp X.wLeaf.b .nil zk (z6 (ze (pv 0) rfl) (z6 (pv 1) zb)))) (zc Nc)) zE)
   (z9 (zz (yK PySem.F.plainAttrs_list PySem.F.slot_list_extend PySem.F.type_list_extend qD (pv 1) (z6 (ze (pv 0) rfl) zb)))
   (zc (zR (zV (ze (pv 0) rfl) (fun _=>rfl))
    (z9 (zz (yK PySem.F.plainAttrs_list PySem.F.slot_list_append PySem.F.type_list_append yc (pv 1) (z6 (zP X.lpar rfl) zb)))
    (z9 (zz (zC G hr (by rfl) X.wHedge.m X.wHedge.F.kp X.wHedge.b .nil zk (z6 (ze (pv 0) rfl) (z6 (pv 1) zb))))
    (zc (zz (yK PySem.F.plainAttrs_list PySem.F.slot_list_append PySem.F.type_list_append yc (pv 1) (z6 (zP X.rpar rfl) zb)))))) zE))),?_⟩
  obtain⟨⟨dx,w1,k1,ks,a1,a2,a3,f1⟩,ne⟩:=T1
  obtain⟨na,a1⟩:=zf a1
  obtain⟨nw,a2⟩:=zf a2
  obtain⟨nk,a3⟩:=zf a3
  have na:a≠l:=by simpa using na
  have nw:w1≠l:=by simpa using nw
  have nk:k1≠l:=by simpa using nk
  refine⟨_,rfl,a,T.T.C,dx,_,_,rfl,a1,T.T.c,T.T.n,rfl,_,rfl,?_⟩
  by_cases c:zq h=true
  ·have tf0:qx h=39::(escaped (saying h)++[39]):=by unfold qx;rw [if_pos c]
   rw [c]
   refine zu ?_
   refine⟨_,rfl,a,T.T.C,dx,_,_,rfl,a1,T.T.c,T.T.n,rfl,_,rfl,w1,l,saying h,out,rfl,nw,a2,hl,by rw [<-tf0];exact hz,fun H1 h1 b1=>?_⟩
   exact k H1 (by rw [tf0];exact h1) b1
  ·have c':zq h=false:=by simpa using c
   have tf0:qx h=saying h++(if children h=.nil then [] else 40::(form (children h)++[41])):=by unfold qx;rw [if_neg c]
   rw [tf0,List.length_append] at hz
   rw [tf0] at k
   rw [c']
   refine zr ?_
   refine⟨_,rfl,.inl ⟨rfl,_,SqL.of hl⟩,_,rfl,a,T.T.C,dx,_,_,rfl,a1,T.T.c,T.T.n,rfl,l,w1,_,_,rfl,rfl,hl,a2,by rw [ye];omega,?_⟩
   refine⟨_,rfl,a,T.T.C,dx,_,_,rfl,by rw [z8 na];exact a1,T.T.c,T.T.n,rfl,_,YX (SqL.of (xs:=ks) (by rw [z8 nk];exact a3)),?_⟩
   have fl:=f1.len
   by_cases e:children h=.nil
   ·rw [e] at f1
    cases f1
    rw [if_pos e,List.append_nil] at k
    exact zr (k _ z7 (But.upd (by simp)))
   ·have ke:ks.isEmpty=false:=by
     cases ks with
     | nil=>exact absurd (yO.mp fl.symm) e
     | cons _ _=>rfl
    rw [ke]
    refine zu ?_
    rw [if_neg e] at hz k
    simp only [List.length_cons,List.length_append,List.length_nil] at hz
    refine⟨_,rfl,.inl ⟨rfl,_,SqL.of z7⟩,l,_,_,rfl,rfl,z7,by rw [List.length_append,ye];omega,?_⟩
    rw [x6]
    refine⟨_,rfl,a,T.T.C,dx,_,_,rfl,by rw [z8 na];exact a1,T.T.c,T.T.n,rfl,_,rfl,k1,l,children h,ks,_,rfl,nk,by rw [z8 nk];exact a3,by rw [xW (by simp)];exact f1,
     VQ wk,xu dp,z7,by rw [List.length_append,List.length_append,ye];simp only [List.length_cons,List.length_nil];omega,fun H1 h1 b1=>?_⟩
    refine⟨_,rfl,.inl ⟨rfl,_,SqL.of h1⟩,l,_,_,rfl,rfl,h1,by rw [List.length_append,List.length_append,List.length_append,ye,ye];simp only [List.length_cons,List.length_nil];omega,?_⟩
    refine k _ ?_ (((But.upd (by simp)).trans b1).trans (But.upd (by simp)))
    rw [z7,xo]
    simp only [List.append_assoc]
    rw [show wds (40::(form (children h)++[41]))=[V.int 40]++(wds (form (children h))++[V.int 41]) from by
     show wds ([40]++(form (children h)++[41]))=_
     rw [xo,xo]
     rfl]
theorem jZ {h:Hedge} {d i:Nat} (dp:deep h<=d):deep (hd (dropTrees i h))<=d:=Nat.le_trans (Zr _) (Nat.le_trans (xL i h) dp)
theorem UY {P}:∀{h:Hedge},yi P h->yi P (hd h)
 | .nil,_=>trivial
 | .el a k n,w=>⟨w.1,w.2.1,trivial⟩
 | .tx t n,w=>⟨w.1,trivial⟩
theorem V9 {d k0:Nat} (X:y9 K mg) (T:zw K mg) (G:zj P w K mg base CX0 k0 X.wTree.f X.wTree.fd ["tree","written"] (spWTree T.T.C d)):zj P w K mg base CX0 (k0+1) X.wHedge.f X.wHedge.fd ["hedge","written"] (spWHedge T.T.C d):=by
 refine X.wHedge.F.ok scWHedge (fun vs H Q E h=>?_) (fun cdv A outer s H vs Q E hr h=>?_)
 ·obtain⟨_,_,_,_,_,rfl,_⟩:=h
  rfl
 ·obtain⟨a,l,h,ts,out,rfl,nal,ha,F,wk,dp,hl,hz,k⟩:=h
  refine⟨_,zc (xF PassesOwn.never rfl (UV (by rfl) X.nenum (z6 (pv 0) zb)) (ON rfl (Y2 (yA (i:=2) scWHedge.nd rfl (Or.inl rfl)) (Y2 (yA (i:=3) scWHedge.nd rfl (Or.inl rfl)) US)))
   (z9 (zR (zx JY (pv 2) zi (zG _)) (zc (zz (yK PySem.F.plainAttrs_list PySem.F.slot_list_append PySem.F.type_list_append yc (pv 1) (z6 (zP X.blank rfl) zb)))) zE)
   (zc (zz (zC G hr (by rfl) X.wTree.m X.wTree.F.kp X.wTree.b .nil zk (z6 (pv 3) (z6 (pv 1) zb))))))),?_⟩
  have tl:=F.len
  refine⟨_,rfl,a,ts,rfl,SqL.of ha,Up (K:=K) (a:=a) (xs:=ts) (fun i σ H'=>∃v1 v2,σ=[some (.ref a),some (.ref l),v1,v2]/\H' l=some (.lst (out++wds (pre i h)))/\But [l] H H')
   ⟨_,_,rfl,by rw [show wds (pre 0 h)=[] from rfl,List.append_nil];exact hl,But.refl _ _⟩ (fun i σ H' _ ⟨_,_,_,_,b⟩=>SqL.of (b a _ ha (by simpa using nal))) ?_ ?_⟩
  ·rintro i x σ H' tp hi ⟨v1,v2,rfl,hl',b⟩ htp
   obtain⟨tr,rfl,T1⟩:=F.get hi
   have hlt:=(List.getElem?_eq_some_iff.mp hi).1
   have ntl:l≠tp:=za hl' htp
   have pl:=zbm wk (show i+1<=width h by omega)
   rw [Z9,List.length_append] at pl
   refine⟨tp,_,rfl,SqT.of z7,rfl,_,_,rfl,_,_,rfl,rfl,?_⟩
   refine⟨_,rfl,_,_,rfl,rfl,_,rfl,?_⟩
   have b1:But [l] H (upd H' tp (.tup [.int (i:Nat),.ref tr])):=b.trans (But.new htp)
   by_cases c:i=0
   ·subst c
    rw [if_pos rfl] at pl
    refine zr ?_
    refine⟨_,rfl,_,rfl,tr,l,dropTrees 0 h,_,rfl,T1.mono b1.hid,UY (Jd 0 wk),jZ dp,by rw [z8 ntl];exact hl',by rw [List.length_append,ye];omega,fun H2 h2 b2=>?_⟩
    refine⟨_,_,rfl,?_,b1.trans b2⟩
    rw [h2,Z9,if_pos rfl,xo,List.append_assoc]
   ·rw [if_neg c,List.length_cons] at pl
    rw [decide_eq_true (show(0:Int)<((i:Nat):Int) by omega)]
    refine zu ?_
    refine⟨_,rfl,.inl ⟨rfl,_,SqL.of (by rw [z8 ntl];exact hl')⟩,l,_,_,rfl,rfl,by rw [z8 ntl];exact hl',by rw [List.length_append,ye];omega,?_⟩
    have b2:=b1.trans (But.upd (l:=l) (o:=.lst ((out++wds (pre i h))++[V.int 32])) (by simp))
    refine⟨_,rfl,_,rfl,tr,l,dropTrees i h,_,rfl,T1.mono b2.hid,UY (Jd i wk),jZ dp,z7,by rw [List.length_append,List.length_append,ye];simp only [List.length_cons,List.length_nil];omega,fun H2 h2 b3=>?_⟩
    refine⟨_,_,rfl,?_,b2.trans b3⟩
    rw [h2,Z9,if_neg c,xo]
    simp only [List.append_assoc]
    rfl
  ·rintro σ H' ⟨v1,v2,rfl,hl',b⟩
   rw [tl,<-IS wk] at hl'
   exact k H' hl' b
theorem Uc (X:y9 K mg) (T:zw K mg):∀d,zj P w K mg base CX0 (2*d+2) X.wTree.f X.wTree.fd ["tree","written"] (spWTree T.T.C d)
 | 0=>⟨fun vs H Q E h=>by obtain⟨_,_,_,_,rfl,_⟩:=h;rfl,fun A outer s H args us vs Q E _ _ _ _ h=>by
   obtain⟨_,_,h,_,_,T,_,e,_⟩:=h
   have:=Jo T.ne
   omega⟩
 | d+1=>IE X T (V9 X T (Uc X T d))
theorem Ie (X:y9 K mg) (T:zw K mg) (d:Nat):zj P w K mg base CX0 (2*d+3) X.wHedge.f X.wHedge.fd ["hedge","written"] (spWHedge T.T.C d):=V9 X T (Uc X T d)
theorem No (X:y9 K mg) (T:zw K mg) (d:Nat):zj P w K mg base CX0 (2*d+4) X.form.f X.form.fd ["hedge"] (spForm T.T.C d):=by
 have G:=Ie (P:=P) (w:=w) (base:=base) X T d
 refine X.form.F.ok scForm (fun vs H Q E h=>?_) (fun cdv A outer s H vs Q E hr h=>?_)
 ·obtain⟨_,_,_,rfl,_⟩:=h
  rfl
 ·obtain⟨a,h,ts,rfl,ha,F,wk,dp,hn,k⟩:=h
  refine⟨_,z9 (zy (i:=1) scForm.nd rfl (Or.inl rfl) (zM zb)) (z9 (zz (zC G hr (by rfl) X.wHedge.m X.wHedge.F.kp X.wHedge.b .nil zk (z6 (pv 0) (z6 (pv 1) zb)))) (zc (zn (pv 1)))),?_⟩
  refine⟨Nat.zero_le _,fun l hl=>?_⟩
  have nal:a≠l:=za ha hl
  have s1:zd H (upd H l (.lst [])):=zd.new hl
  have fl:=qk wk
  refine⟨_,rfl,_,rfl,a,l,h,ts,[],rfl,nal,s1 _ _ ha,F.mono ?_,wk,dp,z7,?_,fun H1 h1 b1=>⟨_,rfl,k H1 l hl h1 ?_⟩⟩
  ·exact fun b o e=>zt (by simpa using za e hl) (s1 b o e)
  ·show 0+_<=sizeLine
   rw [sizeLine_eq]
   omega
  ·exact fun b o e=>b1 b o (s1 b o e) (by simpa using za e hl)
end
end Hm
end
section
namespace Hm
open Vaheda (Hedge Token leafFrom tokensFrom tokens rowFrom readText blank wordByte isName plain small mayStand)
def lf:zl->Option (zl×zl)
 | []=>none
 | c::r=>if c=39 then some ([],r) else if c=92 then (match r with
   | []=>none
   | e::q=>if e=39\/e=92 then (lf q).map fun x=>(e::x.1,x.2) else none)
  else if plain c=true then (lf r).map fun x=>(c::x.1,x.2) else none
def toO {α β:Type} (f:α->β) {ε:Type}:Except ε α->Option β
 | .ok x=>some (f x)
 | .error _=>none
theorem NF (b:Nat):∀(n:Nat) (r:zl) (o:Nat),r.length<=n->toO (fun x:zl×Nat×zl=>(x.1,x.2.2)) (leafFrom b o r)=lf r/\∀x,leafFrom b o r=.ok x->x.2.1+x.2.2.length=o+r.length
 | 0,[],o,_=>⟨rfl,fun x e=>by cases e⟩
 | 0,c::r,o,e=>by simp at e
 | n+1,[],o,_=>⟨rfl,fun x e=>by cases e⟩
 | n+1,c::r,o,e=>by
  have e:r.length<=n:=by simpa using e
  by_cases h1:c=39
  ·subst h1
   refine⟨?_,fun x q=>?_⟩
   ·show toO _ (Except.ok ([],o+1,r))=_
    unfold lf
    rw [if_pos rfl]
    rfl
   ·cases q
    show o+1+r.length=o+(r.length+1)
    omega
  by_cases h2:c=92
  ·subst h2
   cases r with
   | nil=>exact⟨rfl,fun x q=>by cases q⟩
   | cons d q=>
    have ih:=NF b n q (o+2) (by simp at e;omega)
    have un:leafFrom b o (92::d::q)=if d=39\/d=92 then (leafFrom b (o+2) q).map fun x=>(d::x.1,x.2) else .error (2,o):=rfl
    have ul:lf (92::d::q)=if d=39\/d=92 then (lf q).map fun x=>(d::x.1,x.2) else none:=by
     show(if (92:UInt8)=39 then _ else if (92:UInt8)=92 then _ else _)=_
     rw [if_neg (by decide),if_pos rfl]
    rw [un,ul]
    by_cases hd:d=39\/d=92
    ·rw [if_pos hd,if_pos hd]
     cases q1:leafFrom b (o+2) q with
     | error f=>
      rw [q1] at ih
      rw [<-ih.1]
      exact⟨rfl,fun x z=>by cases z⟩
     | ok x=>
      rw [q1] at ih
      rw [<-ih.1]
      refine⟨rfl,fun y z=>?_⟩
      cases z
      have:=ih.2 x rfl
      show x.2.1+x.2.2.length=o+(q.length+1+1)
      omega
    ·rw [if_neg hd,if_neg hd]
     exact⟨rfl,fun x z=>by cases z⟩
  ·have ih:=NF b n r (o+1) e
   have un:leafFrom b o (c::r)=if c=92 then .error (2,o) else if plain c=true then (leafFrom b (o+1) r).map fun x=>(c::x.1,x.2) else .error (1,o):=by
    conv=>lhs;unfold leafFrom
    split
    ·rename_i z;cases z
    ·rename_i z;cases z;exact absurd rfl h1
    ·rename_i z;cases z;exact absurd rfl h2
    ·rename_i z;cases z;rfl
   have ul:lf (c::r)=if plain c=true then (lf r).map fun x=>(c::x.1,x.2) else none:=by
    conv=>lhs;unfold lf
    rw [if_neg h1,if_neg h2]
   rw [un,ul,if_neg h2]
   by_cases hd:plain c=true
   ·rw [if_pos hd,if_pos hd]
    cases q1:leafFrom b (o+1) r with
    | error f=>
     rw [q1] at ih
     rw [<-ih.1]
     exact⟨rfl,fun x z=>by cases z⟩
    | ok x=>
     rw [q1] at ih
     rw [<-ih.1]
     refine⟨rfl,fun y z=>?_⟩
     cases z
     have:=ih.2 x rfl
     show x.2.1+x.2.2.length=o+(r.length+1)
     omega
   ·rw [if_neg hd,if_neg hd]
    exact⟨rfl,fun x z=>by cases z⟩
def jm (c:UInt8) (r:zl):Option (Token×zl):=
 if c=40 then some (.open_,r) else if c=41 then some (.close,r)
 else if c=39 then (match lf r with
  | none=>none
  | some x=>if (!x.1.isEmpty && decide (x.1.length<=200))=true then some (.leaf x.1,x.2) else none)
 else if wordByte c=true then (if isName (c::r.takeWhile wordByte)=true then some (.word (c::r.takeWhile wordByte),r.dropWhile wordByte) else none)
 else none
def yI:Nat->zl->Option (List Token)
 | 0,_=>some []
 | _+1,[]=>some []
 | k+1,c::r=>if blank c=true then yI k r else match jm c r with
  | none=>none
  | some x=>(yI k x.2).map fun l=>x.1::l
def Agree (l:List (Token×Nat)):Option (List Token)->Prop
 | some ts=>l.map (·.1)=ts
 | none=>∃g f o,l=g++[(.bad f,o)]
theorem YD:∀(k o:Nat) (r:zl),Agree (tokensFrom k o r) (yI k r)
 | 0,o,r=>rfl
 | k+1,o,[]=>rfl
 | k+1,o,c::r=>by
  unfold tokensFrom yI
  by_cases hb:blank c=true
  ·rw [if_pos hb,if_pos hb];exact YD k _ r
  rw [if_neg hb,if_neg hb]
  have wrap:∀(tk:Token) (o':Nat) (q:zl),Agree ((tk,o)::tokensFrom k o' q) ((yI k q).map fun l=>tk::l):=fun tk o' q=>by
   have ih:=YD k o' q
   cases z:yI k q with
   | none=>
    rw [z] at ih
    obtain⟨g,f,o'',e⟩:=ih
    exact⟨(tk,o)::g,f,o'',by rw [e];rfl⟩
   | some ts=>
    rw [z] at ih
    have ih:(tokensFrom k o' q).map (·.1)=ts:=ih
    show _=tk::ts
    rw [List.map_cons,ih]
  unfold jm
  by_cases h0:c=40
  ·rw [if_pos h0,if_pos h0];exact wrap _ _ _
  rw [if_neg h0,if_neg h0]
  by_cases h1:c=41
  ·rw [if_pos h1,if_pos h1];exact wrap _ _ _
  rw [if_neg h1,if_neg h1]
  by_cases h2:c=39
  ·rw [if_pos h2,if_pos h2]
   have q:=(NF o r.length r (o+1) (Nat.le_refl _)).1
   cases z:leafFrom o (o+1) r with
   | error f=>
    rw [z] at q
    rw [<-q]
    exact⟨[],f.1,f.2,rfl⟩
   | ok x=>
    rw [z] at q
    rw [<-q]
    show Agree (if _ then _ else _) (match (if _ then _ else _:Option (Token×zl)) with | none=>none | some x=>_)
    by_cases h3:(!x.1.isEmpty && decide (x.1.length<=200))=true
    ·rw [if_pos h3]
     dsimp only
     rw [if_pos h3]
     exact wrap _ _ _
    ·rw [if_neg h3]
     dsimp only
     rw [if_neg h3]
     exact⟨[],4,o,rfl⟩
  rw [if_neg h2,if_neg h2]
  by_cases h3:wordByte c=true
  ·rw [if_pos h3,if_pos h3]
   by_cases h4:isName (c::r.takeWhile wordByte)=true
   ·dsimp only
    rw [if_pos h4,if_pos h4]
    exact wrap _ _ _
   ·dsimp only
    rw [if_neg h4,if_neg h4]
    exact⟨[],5,o,rfl⟩
  ·rw [if_neg h3,if_neg h3]
   exact⟨[],1,o,rfl⟩
open Vaheda (append)
def yG:List Token->List (zl×Hedge)->Hedge->Nat->Option (zl×Hedge)->Option Hedge
 | [],st,cur,_,_=>if st.isEmpty=true then some cur else none
 | .open_::r,st,_,n,some ac=>yG r (ac::st) .nil n none
 | .open_::_,_,_,_,none=>none
 | .close::r,ac::st,cur,n,_=>yG r st (append ac.2 (.el ac.1 cur .nil)) n none
 | .close::_,[],_,_,_=>none
 | .word a::r,st,cur,n,_=>if n<2000/\st.length<40 then yG r st (append cur (.el a .nil .nil)) (n+1) (some (a,cur)) else none
 | .leaf x::r,st,cur,n,_=>if n<2000/\st.length<40 then yG r st (append cur (.tx x .nil)) (n+1) none else none
 | .bad _::_,_,_,_,_=>none
theorem zay {ts:List Token} (h:ts.head?≠some .open_) (st:List (zl×Hedge)) (cur:Hedge) (n:Nat) (pv:Option (zl×Hedge)):yG ts st cur n pv=yG ts st cur n none:=by
 cases ts with
 | nil=>rfl
 | cons t r=>
  cases t with
  | open_=>exact absurd rfl h
  | close=>cases st <;> rfl
  | word a=>rfl
  | leaf x=>rfl
  | bad f=>rfl
theorem J7 {f:Nat}:∀(g:List Token) (st:List (zl×Hedge)) (cur:Hedge) (n:Nat) (pv:Option (zl×Hedge)),yG (g++[.bad f]) st cur n pv=none
 | [],st,cur,n,pv=>rfl
 | .open_::r,st,cur,n,some ac=>J7 r _ _ _ _
 | .open_::r,st,cur,n,none=>rfl
 | .close::r,ac::st,cur,n,pv=>J7 r _ _ _ _
 | .close::r,[],cur,n,pv=>rfl
 | .word a::r,st,cur,n,pv=>by
  show(if _ then yG (r++[Token.bad f]) st _ _ _ else none)=none
  rw [J7 r];split <;> rfl
 | .leaf a::r,st,cur,n,pv=>by
  show(if _ then yG (r++[Token.bad f]) st _ _ _ else none)=none
  rw [J7 r];split <;> rfl
 | .bad e::r,st,cur,n,pv=>rfl
theorem Zb {d n o:Nat} (h:n<2000/\d<40):mayStand (d+1) n o=.ok ():=by
 unfold mayStand
 rw [if_neg (show ¬Vaheda.DEEP<d+1 by show ¬40<d+1;omega),if_neg (show ¬Vaheda.MOST<=n by show ¬2000<=n;omega)]
theorem Z7 {d n o:Nat} (h:¬(n<2000/\d<40)):∃e,mayStand (d+1) n o=.error e:=by
 unfold mayStand
 by_cases h1:Vaheda.DEEP<d+1
 ·rw [if_pos h1];exact⟨_,rfl⟩
 ·rw [if_neg h1]
  by_cases h2:Vaheda.MOST<=n
  ·rw [if_pos h2];exact⟨_,rfl⟩
  ·have h1:¬40<d+1:=h1
   have h2:¬2000<=n:=h2
   exact absurd ⟨by omega,by omega⟩ h
def cont (st:List (zl×Hedge)) (cur:Hedge):Except (Nat×Nat) (Hedge×Nat×List (Token×Nat))->Option Hedge
 | .error _=>none
 | .ok x=>match st with
  | []=>some (append cur x.1)
  | ac::st'=>yG (x.2.2.map (·.1)) st' (append ac.2 (.el ac.1 (append cur x.1) .nil)) x.2.1 none
theorem VF (k:Nat) (w:Option Nat) (d n:Nat) (x:zl) (o:Nat) (r:List (Token×Nat)):rowFrom (k+1) w d n ((.leaf x,o)::r)=(do
   mayStand d n o
   let y <-rowFrom k w d (n+1) r
   return (.tx x y.1,y.2)):=rfl
theorem U9 (k:Nat) (w:Option Nat) (d n:Nat) (a:zl) (o p:Nat) (q:List (Token×Nat)):rowFrom (k+1) w d n ((.word a,o)::(.open_,p)::q)=(do
   mayStand d n o
   let z <-rowFrom k (some p) (d+1) (n+1) q
   let y <-rowFrom k w d z.2.1 z.2.2
   return (.el a z.1 y.1,y.2)):=rfl
theorem U0 (k:Nat) (w:Option Nat) (d n:Nat) (a:zl) (o:Nat) (r:List (Token×Nat)) (h:(r.map (·.1)).head?≠some .open_):rowFrom (k+1) w d n ((.word a,o)::r)=(do
   mayStand d n o
   let y <-rowFrom k w d (n+1) r
   return (.el a .nil y.1,y.2)):=by
 cases r with
 | nil=>rfl
 | cons t r=>
  obtain⟨t,p⟩:=t
  cases t with
  | open_=>exact absurd rfl h
  | close=>rfl
  | word a=>rfl
  | leaf x=>rfl
  | bad f=>rfl
theorem J5:∀(k:Nat) (w:Option Nat) (d n:Nat) (ts:List (Token×Nat)) (x:Hedge×Nat×List (Token×Nat)),rowFrom k w d n ts=.ok x->x.2.2.length<=ts.length
 | 0,w,d,n,ts,x,e=>by cases e;exact Nat.le_refl _
 | k+1,w,d,n,[],x,e=>by
  cases w with
  | none=>cases e;exact Nat.le_refl _
  | some o=>cases e
 | k+1,w,d,n,(t,o)::r,x,e=>by
  cases t with
  | bad f=>cases e
  | open_=>cases e
  | close=>
   have e:(if w.isSome=true then Except.ok (Hedge.nil,n,r) else .error (7,o))=.ok x:=e
   split at e
   ·cases e;exact Nat.le_succ _
   ·cases e
  | leaf y=>
   rw [VF] at e
   cases q:mayStand d n o with
   | error f=>rw [q] at e;cases e
   | ok u=>
    rw [q] at e
    cases q2:rowFrom k w d (n+1) r with
    | error f=>simp only [q2,bind,Except.bind] at e;cases e
    | ok z=>
     simp only [q2,bind,Except.bind,pure,Except.pure] at e
     cases e
     have:=J5 k w d (n+1) r z q2
     exact Nat.le_succ_of_le this
  | word a=>
   by_cases h:(r.map (·.1)).head? = some .open_
   ·cases r with
    | nil=>cases h
    | cons t q=>
     obtain⟨t,p⟩:=t
     have:t=.open_:=Option.some.inj h
     subst this
     rw [U9] at e
     cases q1:mayStand d n o with
     | error f=>rw [q1] at e;cases e
     | ok u=>
      rw [q1] at e
      cases q2:rowFrom k (some p) (d+1) (n+1) q with
      | error f=>simp only [q2,bind,Except.bind] at e;cases e
      | ok z=>
       cases q3:rowFrom k w d z.2.1 z.2.2 with
       | error f=>simp only [q2,q3,bind,Except.bind] at e;cases e
       | ok y=>
        simp only [q2,q3,bind,Except.bind,pure,Except.pure] at e
        cases e
        have r1:=J5 k _ _ _ _ z q2
        have r2:=J5 k _ _ _ _ y q3
        show y.2.2.length<=q.length+1+1
        omega
   ·rw [U0 _ _ _ _ _ _ _ h] at e
    cases q:mayStand d n o with
    | error f=>rw [q] at e;cases e
    | ok u=>
     rw [q] at e
     cases q2:rowFrom k w d (n+1) r with
     | error f=>simp only [q2,bind,Except.bind] at e;cases e
     | ok z=>
      simp only [q2,bind,Except.bind,pure,Except.pure] at e
      cases e
      have:=J5 k w d (n+1) r z q2
      exact Nat.le_succ_of_le this
theorem qV:∀(k:Nat) (w:Option Nat) (st:List (zl×Hedge)) (cur:Hedge) (n:Nat) (ts:List (Token×Nat)),ts.length+1<=k->w.isSome=!st.isEmpty ->
  yG (ts.map (·.1)) st cur n none=cont st cur (rowFrom k w (st.length+1) n ts)
 | 0,w,st,cur,n,ts,e,_=>by omega
 | k+1,w,st,cur,n,[],e,hw=>by
  cases w with
  | none=>
   cases st with
   | nil=>
    show some cur=some (append cur .nil)
    rw [append_nil]
   | cons _ _=>cases hw
  | some o=>
   cases st with
   | nil=>cases hw
   | cons _ _=>rfl
 | k+1,w,st,cur,n,(t,o)::r,e0,hw=>by
  have e:r.length+1<=k:=by simpa using e0
  clear e0
  cases t with
  | bad f=>rfl
  | open_=>rfl
  | close=>
   cases st with
   | nil=>
    have hw:w.isSome=false:=hw
    show none=cont [] cur (if w.isSome=true then Except.ok (Hedge.nil,n,r) else .error (7,o))
    rw [hw];rfl
   | cons ac st=>
    have hw:w.isSome=true:=hw
    show yG (r.map (·.1)) st (append ac.2 (.el ac.1 cur .nil)) n none=cont (ac::st) cur (if w.isSome=true then Except.ok (Hedge.nil,n,r) else .error (7,o))
    rw [hw,if_pos rfl]
    show _=yG (r.map (·.1)) st (append ac.2 (.el ac.1 (append cur .nil) .nil)) n none
    rw [append_nil]
  | leaf x=>
   show(if n<2000/\st.length<40 then yG (r.map (·.1)) st (append cur (.tx x .nil)) (n+1) none else none)=_
   rw [VF]
   by_cases h:n<2000/\st.length<40
   ·rw [if_pos h,Zb h,qV k w st _ (n+1) r e hw]
    cases q2:rowFrom k w (st.length+1) (n+1) r with
    | error f=>simp only [q2,bind,Except.bind];rfl
    | ok z=>
     simp only [q2,bind,Except.bind,pure,Except.pure]
     cases st with
     | nil=>show some _=some _;rw [append_assoc];rfl
     | cons ac st=>show yG _ st _ _ _=yG _ st _ _ _;rw [append_assoc];rfl
   ·rw [if_neg h]
    obtain⟨f,q⟩:=Z7 (o:=o) h
    rw [q];rfl
  | word a=>
   show(if n<2000/\st.length<40 then yG (r.map (·.1)) st (append cur (.el a .nil .nil)) (n+1) (some (a,cur)) else none)=_
   by_cases hh:(r.map (·.1)).head? = some .open_
   ·cases r with
    | nil=>cases hh
    | cons t q=>
     obtain⟨t,p⟩:=t
     have:t=.open_:=Option.some.inj hh
     subst this
     rw [U9]
     by_cases h:n<2000/\st.length<40
     ·rw [if_pos h,Zb h]
      show yG (q.map (·.1)) ((a,cur)::st) .nil (n+1) none=_
      have e':q.length+1+1<=k:=by simpa using e
      rw [qV k (some p) ((a,cur)::st) .nil (n+1) q (by omega) rfl]
      cases q2:rowFrom k (some p) (st.length+1+1) (n+1) q with
      | error f=>
       rfl
      | ok z=>
       show yG (z.2.2.map (·.1)) st (append cur (.el a (append .nil z.1) .nil)) z.2.1 none=_
       have rr:=J5 _ _ _ _ _ _ q2
       rw [qV k w st _ z.2.1 z.2.2 (by omega) hw]
       simp only [q2,bind,Except.bind,pure,Except.pure]
       cases q3:rowFrom k w (st.length+1) z.2.1 z.2.2 with
       | error f=>rfl
       | ok y=>
        cases st with
        | nil=>show some _=some _;rw [append_assoc];rfl
        | cons ac st=>show yG _ st _ _ _=yG _ st _ _ _;rw [append_assoc];rfl
     ·rw [if_neg h]
      obtain⟨f,q⟩:=Z7 (o:=o) h
      rw [q];rfl
   ·rw [U0 _ _ _ _ _ _ _ hh,zay hh]
    by_cases h:n<2000/\st.length<40
    ·rw [if_pos h,Zb h,qV k w st _ (n+1) r e hw]
     cases q2:rowFrom k w (st.length+1) (n+1) r with
     | error f=>simp only [q2,bind,Except.bind];rfl
     | ok z=>
      simp only [q2,bind,Except.bind,pure,Except.pure]
      cases st with
      | nil=>show some _=some _;rw [append_assoc];rfl
      | cons ac st=>show yG _ st _ _ _=yG _ st _ _ _;rw [append_assoc];rfl
    ·rw [if_neg h]
     obtain⟨f,q⟩:=Z7 (o:=o) h
     rw [q];rfl
def toks (t:zl):Option (List Token):=yI (t.length+1) t
theorem OE {t:zl} {ts:List Token} (h:toks t=some ts):toO id (readText t)=yG ts [] .nil 0 none:=by
 have a:=YD (t.length+1) 0 t
 have h:yI (t.length+1) t=some ts:=h
 rw [h] at a
 have a:(tokens t).map (·.1)=ts:=a
 have m:=qV ((tokens t).length+1) none [] .nil 0 (tokens t) (Nat.le_refl _) rfl
 rw [a] at m
 rw [m]
 unfold readText
 show toO id ((rowFrom ((tokens t).length+1) none 1 0 (tokens t)).map fun x=>x.1)=cont [] .nil (rowFrom ((tokens t).length+1) none (0+1) 0 (tokens t))
 cases rowFrom ((tokens t).length+1) none 1 0 (tokens t) <;> rfl
theorem Oq {t:zl} (h:toks t=none):toO id (readText t)=none:=by
 have a:=YD (t.length+1) 0 t
 have h:yI (t.length+1) t=none:=h
 rw [h] at a
 obtain⟨g,f,o,e⟩:=a
 have e:tokens t=g++[(.bad f,o)]:=e
 have m:=qV ((tokens t).length+1) none [] .nil 0 (tokens t) (Nat.le_refl _) rfl
 have b:yG ((tokens t).map (·.1)) [] .nil 0 none=none:=by
  rw [e,List.map_append]
  exact J7 _ _ _ _ _
 rw [b] at m
 unfold readText
 show toO id ((rowFrom ((tokens t).length+1) none 1 0 (tokens t)).map fun x=>x.1)=none
 have m:none=cont [] .nil (rowFrom ((tokens t).length+1) none 1 0 (tokens t)):=m
 cases q:rowFrom ((tokens t).length+1) none 1 0 (tokens t) with
 | error f=>rfl
 | ok x=>rw [q] at m;cases m
open Vaheda (nodes deep)
def TokOk:Token->Prop
 | .word a=>Wok false a
 | .leaf x=>Wok true x
 | .bad _=>False
 | _=>True
theorem zaz {c:UInt8} {r:zl} {x:Token×zl} (h:jm c r=some x):TokOk x.1:=by
 unfold jm at h
 split at h
 ·cases h;trivial
 split at h
 ·cases h;trivial
 split at h
 ·split at h
  ·cases h
  ·split at h
   ·rename_i y q z
    cases h
    rw [Bool.and_eq_true,decide_eq_true_eq] at z
    exact⟨by simpa using z.1,z.2⟩
   ·cases h
 split at h
 ·split at h
  ·rename_i z
   cases h
   unfold isName at z
   rw [Bool.and_eq_true,Bool.and_eq_true,decide_eq_true_eq] at z
   exact⟨List.cons_ne_nil _ _,Nat.le_trans z.2.1 (by decide)⟩
  ·cases h
 ·cases h
theorem Z5:∀(k:Nat) (r:zl) (ts:List Token),yI k r=some ts->∀x∈ts,TokOk x
 | 0,r,ts,e,x,m=>by cases e;cases m
 | k+1,[],ts,e,x,m=>by cases e;cases m
 | k+1,c::r,ts,e,x,m=>by
  unfold yI at e
  split at e
  ·exact Z5 k r ts e x m
  ·split at e
   ·cases e
   ·rename_i y q
    cases z:yI k y.2 with
    | none=>rw [z] at e;cases e
    | some l=>
     rw [z] at e
     cases e
     rcases List.mem_cons.mp m with rfl | m
     ·exact zaz q
     ·exact Z5 k _ l z x m
def qu:List (zl×Hedge)->Nat
 | []=>0
 | ac::st=>1+nodes ac.2+qu st
inductive StOk:List (zl×Hedge)->Prop where
 | nil:StOk []
 | cons {ac:zl×Hedge} {st:List (zl×Hedge)}:Wok false ac.1->yi Wok ac.2->st.length+deep ac.2<=40->st.length<40->StOk st->StOk (ac::st)
structure MOk (st:List (zl×Hedge)) (cur:Hedge) (n:Nat) (pv:Option (zl×Hedge)):Prop where
 s_:StOk st
 w:yi Wok cur
 d:st.length+deep cur<=40
 n_:nodes cur+qu st=n
 m:n<=2000
 p_:∀ac,pv=some ac->cur=append ac.2 (.el ac.1 .nil .nil)/\st.length<40
theorem MOk.opened {st:List (zl×Hedge)} {cur:Hedge} {n:Nat} {ac:zl×Hedge} (M:MOk st cur n (some ac)):MOk (ac::st) .nil n none:=by
 obtain⟨e,l⟩:=M.p_ ac rfl
 have w:=M.w
 have d:=M.d
 have q:=M.n_
 rw [e] at w d q
 rw [xP] at w
 rw [yX] at d
 rw [zO] at q
 refine⟨.cons w.2.1 w.1 (by omega) l M.s_,trivial,?_,?_,M.m,fun _ z=>by cases z⟩
 ·show st.length+1+0<=40;omega
 ·show 0+(1+nodes ac.2+qu st)=n
  have q:nodes ac.2+(1+0+0)+qu st=n:=q
  omega
theorem MOk.closed {st:List (zl×Hedge)} {cur:Hedge} {n:Nat} {ac:zl×Hedge} {pv} (M:MOk (ac::st) cur n pv):MOk st (append ac.2 (.el ac.1 cur .nil)) n none:=by
 have q:=M.n_
 have d:=M.d
 have s:=M.s_
 cases s with
 | cons w1 w2 d1 l s=>
  refine⟨s,(xP _ _).mpr ⟨w2,w1,M.w,trivial⟩,?_,?_,M.m,fun _ z=>by cases z⟩
  ·rw [yX]
   show st.length+max (deep ac.2) (max (1+deep cur) 0)<=40
   have d:st.length+1+deep cur<=40:=d
   omega
  ·rw [zO]
   show nodes ac.2+(1+nodes cur+0)+qu st=n
   have q:nodes cur+(1+nodes ac.2+qu st)=n:=q
   omega
theorem MOk.word {st:List (zl×Hedge)} {cur:Hedge} {n:Nat} {pv} {a:zl} (M:MOk st cur n pv) (h:n<2000/\st.length<40) (w:Wok false a):MOk st (append cur (.el a .nil .nil)) (n+1) (some (a,cur)):=by
 have q:=M.n_
 have d:=M.d
 refine⟨M.s_,(xP _ _).mpr ⟨M.w,w,trivial,trivial⟩,?_,?_,by omega,fun ac z=>by cases z;exact⟨rfl,h.2⟩⟩
 ·rw [yX]
  show st.length+max (deep cur) (max (1+0) 0)<=40
  omega
 ·rw [zO]
  show nodes cur+(1+0+0)+qu st=n+1
  omega
theorem MOk.leaf {st:List (zl×Hedge)} {cur:Hedge} {n:Nat} {pv} {a:zl} (M:MOk st cur n pv) (h:n<2000/\st.length<40) (w:Wok true a):MOk st (append cur (.tx a .nil)) (n+1) none:=by
 have q:=M.n_
 have d:=M.d
 refine⟨M.s_,(xP _ _).mpr ⟨M.w,w,trivial⟩,?_,?_,by omega,fun ac z=>by cases z⟩
 ·rw [yX]
  show st.length+max (deep cur) (max 1 0)<=40
  omega
 ·rw [zO]
  show nodes cur+(1+0)+qu st=n+1
  omega
theorem MOk.start:MOk [] .nil 0 none:=⟨.nil,trivial,by show 0+0<=40;omega,rfl,by omega,fun _ z=>by cases z⟩
theorem qB:∀(ts:List Token) (st:List (zl×Hedge)) (cur:Hedge) (n:Nat) (pv:Option (zl×Hedge)) (h:Hedge),(∀x∈ts,TokOk x)->MOk st cur n pv->yG ts st cur n pv=some h->yi Wok h/\deep h<=40/\nodes h<=2000
 | [],st,cur,n,pv,h,_,M,e=>by
  have e:(if st.isEmpty=true then some cur else none)=some h:=e
  split at e
  ·cases e
   have:=M.d
   have:=M.n_
   have:=M.m
   exact⟨M.w,by omega,by omega⟩
  ·cases e
 | .open_::r,st,cur,n,some ac,h,t,M,e=>qB r _ _ _ _ h (fun x m=>t x (List.mem_cons_of_mem _ m)) M.opened e
 | .open_::r,st,cur,n,none,h,t,M,e=>by cases e
 | .close::r,ac::st,cur,n,pv,h,t,M,e=>qB r _ _ _ _ h (fun x m=>t x (List.mem_cons_of_mem _ m)) M.closed e
 | .close::r,[],cur,n,pv,h,t,M,e=>by cases e
 | .word a::r,st,cur,n,pv,h,t,M,e=>by
  have e:(if n<2000/\st.length<40 then yG r st (append cur (.el a .nil .nil)) (n+1) (some (a,cur)) else none)=some h:=e
  split at e
  ·rename_i q
   exact qB r _ _ _ _ h (fun x m=>t x (List.mem_cons_of_mem _ m)) (M.word q (t _ List.mem_cons_self)) e
  ·cases e
 | .leaf a::r,st,cur,n,pv,h,t,M,e=>by
  have e:(if n<2000/\st.length<40 then yG r st (append cur (.tx a .nil)) (n+1) none else none)=some h:=e
  split at e
  ·rename_i q
   exact qB r _ _ _ _ h (fun x m=>t x (List.mem_cons_of_mem _ m)) (M.leaf q (t _ List.mem_cons_self)) e
  ·cases e
 | .bad f::r,st,cur,n,pv,h,t,M,e=>by cases e
theorem Uw:∀(n:Nat) (r:zl) (x:zl×zl),r.length<=n->lf r=some x->x.2.length<r.length
 | 0,[],x,_,e=>by cases e
 | 0,c::r,x,h,e=>by simp at h
 | n+1,[],x,_,e=>by cases e
 | n+1,c::r,x,h0,e=>by
  have h:r.length<=n:=by simpa using h0
  clear h0
  unfold lf at e
  split at e
  ·cases e;exact Nat.lt_succ_self _
  split at e
  ·cases r with
   | nil=>cases e
   | cons d q=>
    dsimp only at e
    split at e
    ·cases z:lf q with
     | none=>rw [z] at e;cases e
     | some y=>
      rw [z] at e
      cases e
      have:=Uw n q y (by simp at h;omega) z
      show y.2.length<q.length+1+1
      omega
    ·cases e
  ·split at e
   ·cases z:lf r with
    | none=>rw [z] at e;cases e
    | some y=>
     rw [z] at e
     cases e
     have:=Uw n r y h z
     show y.2.length<r.length+1
     omega
   ·cases e
theorem qJ {α:Type} (p:α->Bool):∀l:List α,(l.dropWhile p).length<=l.length
 | []=>Nat.le_refl _
 | a::l=>by
  rw [List.dropWhile_cons]
  split
  ·exact Nat.le_succ_of_le (qJ p l)
  ·exact Nat.le_refl _
theorem Zc {c:UInt8} {r:zl} {x:Token×zl} (h:jm c r=some x):x.2.length<=r.length:=by
 unfold jm at h
 split at h
 ·cases h;exact Nat.le_refl _
 split at h
 ·cases h;exact Nat.le_refl _
 split at h
 ·split at h
  ·cases h
  ·rename_i y q
   split at h
   ·cases h;exact Nat.le_of_lt (Uw _ r y (Nat.le_refl _) q)
   ·cases h
 split at h
 ·split at h
  ·cases h;exact qJ _ _
  ·cases h
 ·cases h
theorem JV:∀(k k':Nat) (r:zl),r.length<k->r.length<k'->yI k r=yI k' r
 | 0,_,_,h,_=>by omega
 | _,0,_,_,h=>by omega
 | k+1,k'+1,[],_,_=>rfl
 | k+1,k'+1,c::r,h,h'=>by
  have h:r.length<k:=by simpa using h
  have h':r.length<k':=by simpa using h'
  unfold yI
  split
  ·exact JV k k' r h h'
  ·cases z:jm c r with
   | none=>rfl
   | some x=>
    have:=Zc z
    show(yI k x.2).map _=(yI k' x.2).map _
    rw [JV k k' x.2 (by omega) (by omega)]
theorem IZ:toks []=some []:=rfl
theorem NT {c:UInt8} {r:zl} (h:blank c=true):toks (c::r)=toks r:=by
 show yI (r.length+1+1) (c::r)=yI (r.length+1) r
 conv=>lhs;unfold yI
 rw [if_pos h]
theorem Op {c:UInt8} {r:zl} (h:¬blank c=true):toks (c::r)=match jm c r with
  | none=>none
  | some x=>(toks x.2).map fun l=>x.1::l:=by
 show yI (r.length+1+1) (c::r)=_
 conv=>lhs;unfold yI
 rw [if_neg h]
 cases z:jm c r with
 | none=>rfl
 | some x=>
  have:=Zc z
  show(yI (r.length+1) x.2).map _=(yI (x.2.length+1) x.2).map _
  rw [JV _ (x.2.length+1) x.2 (by omega) (by omega)]
theorem Yr:∀r:zl,toks (r.dropWhile blank)=toks r
 | []=>rfl
 | c::r=>by
  rw [List.dropWhile_cons]
  by_cases h:blank c=true
  ·rw [if_pos h,NT h];exact Yr r
  ·rw [if_neg h]
theorem Oz {r:zl} {c:UInt8} {q:zl} (h:r.dropWhile blank=c::q):¬blank c=true:=by
 induction r with
 | nil=>cases h
 | cons d r ih=>
  rw [List.dropWhile_cons] at h
  by_cases hd:blank d=true
  ·rw [if_pos hd] at h;exact ih h
  ·rw [if_neg hd] at h;cases h;exact hd
theorem zbb {t:zl} {ts:List Token} (h:toks t=some ts):∀x∈ts,TokOk x:=Z5 _ _ _ h
end Hm
end
section
namespace Hm
open PySem PySem.Spec PyProof.Rows L2
open Vaheda (Hedge Token blank wordByte isName plain small digit)
abbrev sLetter:Stmt:=top 57
abbrev sDigit:Stmt:=top 58
abbrev sScInit:Stmt:=zK (top 59) 0
abbrev sScByte:Stmt:=zK (top 59) 1
abbrev sScSkip:Stmt:=zK (top 59) 2
abbrev sScToken:Stmt:=zK (top 59) 3
abbrev sScName:Stmt:=zK (top 59) 4
abbrev sScLeaf:Stmt:=zK (top 59) 5
abbrev sScLByte:Stmt:=zK (top 59) 6
abbrev sCut:Stmt:=top 60
structure yf (K:PySem.W.Frag) (mg:Str->Option Value):Type where
 letter:Df K mg "is_letter" sLetter ["byte"]
 dig:Df K mg "is_digit" sDigit ["byte"]
 S:Cl K mg "Scanner" ["text","place"]
 init:Me K S.C "__init__" "Scanner.__init__" sScInit ["self","text"]
 mk1:Mk K S.C init.f
 byte:Me K S.C "byte" "Scanner.byte" sScByte ["self"]
 skip:Me K S.C "skip_blanks" "Scanner.skip_blanks" sScSkip ["self"]
 token:Me K S.C "token" "Scanner.token" sScToken ["self"]
 name:Me K S.C "name" "Scanner.name" sScName ["self"]
 leaf:Me K S.C "leaf_text" "Scanner.leaf_text" sScLeaf ["self"]
 lbyte:Me K S.C "leaf_byte" "Scanner.leaf_byte" sScLByte ["self"]
 cut:Df K mg "cut_tokens" sCut ["text"]
 NoHedge:Addr
 nh:mg "NoHedge"=some (.ref NoHedge)
 nhX:Exc K NoHedge
 lf:GlI mg "LINE_FEED" 10
 last:GlI mg "LAST_PLAIN" 126
 d0:GlI mg "DIGIT_0" 48
 d9:GlI mg "DIGIT_9" 57
 la:GlI mg "LETTER_A" 97
 lz:GlI mg "LETTER_Z" 122
 kName:GlI mg "NAME" 0
 kLeaf:GlI mg "LEAF" 1
 kDown:GlI mg "DOWN" 2
 kUp:GlI mg "UP" 3
 mName:GlI mg "MOST_NAME_BYTES" 12
 mLeaf:GlI mg "MOST_LEAF_BYTES" 200
 past:GlI mg "PAST_END" (-1)
 nlen:mg "len"=none
def bAt (t:zl) (i:Nat):Int:=match t[i]? with
 | some b=>b.toNat
 | none=>-1
def sf (tx:Addr) (i:Nat):List (Str×V):=[("text",.ref tx),("place",.int i)]
def ScanAt (C:Addr) (H:Hp) (p tx dx:Addr) (t:zl) (i:Nat):Prop:=H p=some (.ins C dx (sf tx i))/\H tx=some (.lst (wds t))/\tx≠p
def spByte (C:Addr):Sp:=fun vs H Q _=>∃(p tx dx:Addr) (t:zl) (i:Nat),vs=[.ref p]/\ScanAt C H p tx dx t i/\Q (.int (bAt t i)) H
def spLetter:Sp:=fun vs H Q _=>∃b:Int,vs=[.int b]/\Q (.bl (decide (97<=b/\b<=122))) H
def spDigit:Sp:=fun vs H Q _=>∃b:Int,vs=[.int b]/\Q (.bl (decide (48<=b/\b<=57))) H
def spScInit (C:Addr):Sp:=fun vs H Q _=>∃(p dx tx:Addr),vs=[.ref p,.ref tx]/\H p=some (.ins C dx [])/\∀H',H' p=some (.ins C dx (sf tx 0))->But [p] H H'->Q .non H'
def spSkip (C:Addr):Sp:=fun vs H Q _=>∃(p tx dx:Addr) (t:zl) (i:Nat),vs=[.ref p]/\ScanAt C H p tx dx t i/\i<=t.length/\∀H' j,j<=t.length->t.drop j=(t.drop i).dropWhile blank->H' p=some (.ins C dx (sf tx j))->But [p] H H'->Q .non H'
section
variable {P:Program} {w:World} {K:PySem.W.Frag} {mg:Str->Option Value} {base:Heap}
theorem scLetter:zh ["byte"] ["byte"] (zg sLetter):=⟨rfl,rfl,rfl,by decide +kernel,rfl,by decide +kernel,by decide +kernel⟩
theorem scDigit:zh ["byte"] ["byte"] (zg sDigit):=⟨rfl,rfl,rfl,by decide +kernel,rfl,by decide +kernel,by decide +kernel⟩
theorem scScInit:zh ["self","text"] ["self","text"] (zg sScInit):=⟨rfl,rfl,rfl,by decide +kernel,rfl,by decide +kernel,by decide +kernel⟩
theorem scScByte:zh ["self"] ["self"] (zg sScByte):=⟨rfl,rfl,rfl,by decide +kernel,rfl,by decide +kernel,by decide +kernel⟩
theorem scScSkip:zh ["self"] ["self"] (zg sScSkip):=⟨rfl,rfl,rfl,by decide +kernel,rfl,by decide +kernel,by decide +kernel⟩
theorem OR (X:yf K mg):zj P w K mg base CX0 1 X.letter.f X.letter.fd ["byte"] spLetter:=by
 refine X.letter.F.ok scLetter (fun vs H Q E h=>?_) (fun cdv A outer s H vs Q E hr h=>?_)
 ·obtain⟨_,rfl,_⟩:=h
  rfl
 ·obtain⟨b,rfl,k⟩:=h
  refine⟨_,zc (zn (VT Vw Vw (zP X.la rfl) (pv 0) (zP X.lz rfl))),?_⟩
  refine⟨_,rfl,_,_,rfl,rfl,_,rfl,?_⟩
  by_cases c:(97:Int)<=b
  ·rw [decide_eq_true c]
   refine zu ⟨_,_,rfl,rfl,?_⟩
   rw [show decide (97<=b/\b<=122)=decide (b<=122) by simp [c]] at k
   exact k
  ·rw [decide_eq_false c]
   refine zr ?_
   rw [decide_eq_false (fun z=>c z.1)] at k
   exact k
theorem zal (X:yf K mg):zj P w K mg base CX0 1 X.dig.f X.dig.fd ["byte"] spDigit:=by
 refine X.dig.F.ok scDigit (fun vs H Q E h=>?_) (fun cdv A outer s H vs Q E hr h=>?_)
 ·obtain⟨_,rfl,_⟩:=h
  rfl
 ·obtain⟨b,rfl,k⟩:=h
  refine⟨_,zc (zn (VT Vw Vw (zP X.d0 rfl) (pv 0) (zP X.d9 rfl))),?_⟩
  refine⟨_,rfl,_,_,rfl,rfl,_,rfl,?_⟩
  by_cases c:(48:Int)<=b
  ·rw [decide_eq_true c]
   refine zu ⟨_,_,rfl,rfl,?_⟩
   rw [show decide (48<=b/\b<=57)=decide (b<=57) by simp [c]] at k
   exact k
  ·rw [decide_eq_false c]
   refine zr ?_
   rw [decide_eq_false (fun z=>c z.1)] at k
   exact k
theorem Oe (X:yf K mg):zj P w K mg base CX0 1 X.init.f X.init.fd ["self","text"] (spScInit X.S.C):=by
 refine X.init.F.ok scScInit (fun vs H Q E h=>?_) (fun cdv A outer s H vs Q E hr h=>?_)
 ·obtain⟨_,_,_,rfl,_⟩:=h
  rfl
 ·obtain⟨p,dx,tx,rfl,hp,k⟩:=h
  refine⟨_,z9 (zZ (pv 0) (pv 1) rfl) (zc (zZ (pv 0) zi rfl)),?_⟩
  refine⟨_,rfl,_,rfl,p,X.S.C,dx,_,rfl,hp,X.S.c,X.S.n,(by show 0<1000;decide),?_⟩
  refine⟨_,rfl,p,X.S.C,dx,_,rfl,z7,X.S.c,X.S.n,(by show 1<1000;decide),?_⟩
  rw [x6]
  exact k _ z7 (But.upd (by simp))
theorem xZ {t:zl} {i:Nat} (h:i<t.length):bAt t i=(t[i].toNat:Int):=by unfold bAt;rw [List.getElem?_eq_getElem h]
theorem q0 {t:zl} {i:Nat} (h:¬i<t.length):bAt t i=-1:=by unfold bAt;rw [List.getElem?_eq_none (by omega)]
theorem zb7 {t:zl} {i:Nat} (h:i<t.length):(wds t)[i]? = some (V.int (t[i].toNat:Int)):=by unfold wds;rw [List.getElem?_map,List.getElem?_eq_getElem h];rfl
theorem J0 (X:yf K mg):zj P w K mg base CX0 1 X.byte.f X.byte.fd ["self"] (spByte X.S.C):=by
 refine X.byte.F.ok scScByte (fun vs H Q E h=>?_) (fun cdv A outer s H vs Q E hr h=>?_)
 ·obtain⟨_,_,_,_,_,rfl,_⟩:=h
  rfl
 ·obtain⟨p,tx,dx,t,i,rfl,⟨hp,ht,nt⟩,k⟩:=h
  refine⟨_,z9 (zR (zx qw (ze (pv 0) rfl) (zU zF (by rfl) X.nlen PySem.boot_len (z6 (ze (pv 0) rfl) zb)) (zG _)) (zc (zn (zN zA (ze (pv 0) rfl) (ze (pv 0) rfl) (fun _ _=>rfl)))) zE)
   (zc (zn (zP X.past rfl))),?_⟩
  refine⟨_,rfl,p,X.S.C,dx,_,_,rfl,hp,X.S.c,X.S.n,rfl,_,rfl,p,X.S.C,dx,_,_,rfl,hp,X.S.c,X.S.n,rfl,tx,_,rfl,.inl (SqL.of ht),_,_,rfl,rfl,_,rfl,?_⟩
  rw [ye]
  by_cases c:i<t.length
  ·rw [decide_eq_true (show((i:Nat):Int)<((t.length:Nat):Int) by omega)]
   refine zu ?_
   refine⟨_,rfl,p,X.S.C,dx,_,_,rfl,hp,X.S.c,X.S.n,rfl,_,rfl,p,X.S.C,dx,_,_,rfl,hp,X.S.c,X.S.n,rfl,tx,_,_,_,rfl,rfl,SqL.of ht,zp (zb7 c),?_⟩
   rw [xZ c] at k
   exact k
  ·rw [decide_eq_false (show ¬((i:Nat):Int)<((t.length:Nat):Int) by omega)]
   refine zr ?_
   rw [q0 c] at k
   exact k
theorem yk {t:zl} {i:Nat} (h:i<t.length):t.drop i=t[i]::t.drop (i+1):=List.drop_eq_getElem_cons h
theorem IC (b:UInt8):blank b=(decide ((b.toNat:Int)=32) || decide ((b.toNat:Int)=10)):=by
 unfold blank
 have h1:(b == 32)=decide ((b.toNat:Int)=32):=by
  rw [Bool.eq_iff_iff,beq_iff_eq,decide_eq_true_eq]
  exact⟨fun e=>by subst e;rfl,fun e=>UInt8.toNat_inj.mp (by show b.toNat=32;omega)⟩
 have h2:(b == 10)=decide ((b.toNat:Int)=10):=by
  rw [Bool.eq_iff_iff,beq_iff_eq,decide_eq_true_eq]
  exact⟨fun e=>by subst e;rfl,fun e=>UInt8.toNat_inj.mp (by show b.toNat=10;omega)⟩
 rw [h1,h2]
theorem inV2 (x a b:Int):inV (.int x) [V.int a,V.int b]=decide (x=a\/x=b):=by
 show(a == x || (b == x || false))=_
 rw [Bool.or_false,Bool.eq_iff_iff,Bool.or_eq_true,beq_iff_eq,beq_iff_eq,decide_eq_true_eq]
 exact⟨fun h=>h.elim (fun e=>.inl e.symm) fun e=>.inr e.symm,fun h=>h.elim (fun e=>.inl e.symm) fun e=>.inr e.symm⟩
theorem zbg (X:yf K mg) (W:y9 K mg):zj P w K mg base CX0 2 X.skip.f X.skip.fd ["self"] (spSkip X.S.C):=by
 have GB:=J0 (P:=P) (w:=w) (base:=base) X
 refine X.skip.F.ok scScSkip (fun vs H Q E h=>?_) (fun cdv A outer s H vs Q E hr h=>?_)
 ·obtain⟨_,_,_,_,_,rfl,_⟩:=h
  rfl
 ·obtain⟨p,tx,dx,t,i,rfl,⟨hp,ht,nt⟩,le,k⟩:=h
  refine⟨_,zc (jI PassesOwn.never (zx ZW (zS (pv 0) X.S.c X.byte.m GB hr X.byte.b .nil zk) (jB (z6 (zP W.blank rfl) (z6 (zP X.lf rfl) zb))) rfl)
   (zc (yj (pv 0) zi x5))),?_⟩
  refine⟨fun m σ H'=>∃j:Nat,σ=[some (.ref p)]/\m=t.length - j/\j<=t.length/\(t.drop j).dropWhile blank=(t.drop i).dropWhile blank/\H' p=some (.ins X.S.C dx (sf tx j))/\But [p] H H',⟨_,i,rfl,rfl,le,rfl,hp,But.refl _ _⟩,?_⟩
  rintro m σ H' ⟨j,rfl,rfl,lej,inv,hp',b⟩
  have ht':H' tx=some (.lst (wds t)):=b tx _ ht (by simpa using nt)
  refine⟨_,rfl,p,dx,_,rfl,hp',rfl,p,tx,dx,t,j,rfl,⟨hp',ht',nt⟩,(by show 2<=sizeLine;decide),fun tp htp=>?_⟩
  have ntp:p≠tp:=za hp' htp
  refine⟨tp,_,rfl,.inr (SqT.of z7),rfl,rfl,_,rfl,?_⟩
  show if (inV (.int (bAt t j)) [V.int 32,V.int 10])=true then _ else _
  rw [inV2]
  by_cases c:j<t.length
  ·have q:=IC t[j]
   rw [xZ c]
   by_cases e:(t[j].toNat:Int)=32\/(t[j].toNat:Int)=10
   ·rw [decide_eq_true e]
    refine zu ⟨fun σ' H''=>σ'=[some (.ref p)]/\H'' p=some (.ins X.S.C dx (sf tx (j+1)))/\But [p] H H'',?_,?_⟩
    ·rintro σ' H'' ⟨rfl,h1,h2⟩
     refine⟨t.length - (j+1),by omega,j+1,rfl,rfl,by omega,?_,h1,h2⟩
     rw [<-inv,yk c,List.dropWhile_cons,if_pos]
     rw [q]
     simpa using e
    ·refine⟨_,rfl,p,X.S.C,dx,_,_,rfl,by rw [z8 ntp];exact hp',X.S.c,X.S.n,rfl,_,_,rfl,rfl,dx,_,by rw [z8 ntp];exact hp',(by show 2<1000;decide),rfl,?_,(b.trans (But.new htp)).trans (But.upd (by simp))⟩
     rw [z7]
     rfl
   ·rw [decide_eq_false e]
    refine zr (k _ j lej ?_ (by rw [z8 ntp];exact hp') (b.trans (But.new htp)))
    rw [<-inv,yk c,List.dropWhile_cons,if_neg]
    rw [q]
    simpa using e
  ·rw [q0 c]
   refine zr (k _ j lej ?_ (by rw [z8 ntp];exact hp') (b.trans (But.new htp)))
   rw [<-inv,List.drop_eq_nil_of_le (by omega)]
   rfl
end
end Hm
end
section
namespace Hm
open PySem PySem.Spec PyProof.Rows L2
open Vaheda (Hedge Token blank wordByte isName small digit)
def lb:zl->Option (UInt8×Nat)
 | []=>none
 | c::r=>if c=92 then (match r with
   | []=>none
   | e::_=>if e=39\/e=92 then some (e,2) else none)
  else if Vaheda.plain c=true then some (c,1) else none
theorem zd9 {c:UInt8} (r:zl) (h1:¬c=39) (h2:¬c=92):lf (c::r)=if Vaheda.plain c=true then (lf r).map fun x=>(c::x.1,x.2) else none:=by
 conv=>lhs;unfold lf
 rw [if_neg h1,if_neg h2]
theorem zd3 (d:UInt8) (q:zl):lf (92::d::q)=if d=39\/d=92 then (lf q).map fun x=>(d::x.1,x.2) else none:=by
 conv=>lhs;unfold lf
 rw [if_neg (by decide),if_pos rfl]
theorem VU {c:UInt8} (r:zl) (h2:¬c=92):lb (c::r)=if Vaheda.plain c=true then some (c,1) else none:=by
 show(if c=92 then _ else _)=_
 rw [if_neg h2]
theorem VB (d:UInt8) (q:zl):lb (92::d::q)=if d=39\/d=92 then some (d,2) else none:=by
 have e:∀(c:UInt8) (r:zl),lb (c::r)=if c=92 then (match r with
   | []=>none
   | e::_=>if e=39\/e=92 then some (e,2) else none)
  else if Vaheda.plain c=true then some (c,1) else none:=fun _ _=>rfl
 rw [e,if_pos rfl]
theorem zd7 {r:zl} (h:r.head?≠some 39):lf r=match lb r with
  | none=>none
  | some x=>(lf (r.drop x.2)).map fun y=>(x.1::y.1,y.2):=by
 cases r with
 | nil=>rfl
 | cons c r=>
  have hc:¬c=39:=fun e=>h (by rw [e];rfl)
  by_cases h2:c=92
  ·subst h2
   cases r with
   | nil=>rfl
   | cons d q=>
    rw [zd3,VB]
    by_cases h3:d=39\/d=92
    ·rw [if_pos h3,if_pos h3];rfl
    ·rw [if_neg h3,if_neg h3]
  ·rw [zd9 r hc h2,VU r h2]
   by_cases h3:Vaheda.plain c=true
   ·rw [if_pos h3,if_pos h3];rfl
   ·rw [if_neg h3,if_neg h3]
theorem zd1 (r:zl):lf (39::r)=some ([],r):=by unfold lf;rw [if_pos rfl]
theorem zc1 {r:zl} {x:UInt8×Nat} (h:lb r=some x):1<=x.2/\x.2<=r.length:=by
 cases r with
 | nil=>cases h
 | cons c r=>
  by_cases h2:c=92
  ·subst h2
   cases r with
   | nil=>cases h
   | cons d q=>
    rw [VB] at h
    split at h
    ·cases h;exact⟨by show 1<=2;omega,by show 2<=q.length+1+1;omega⟩
    ·cases h
  ·rw [VU r h2] at h
   split at h
   ·cases h;exact⟨Nat.le_refl _,by show 1<=r.length+1;omega⟩
   ·cases h
theorem zah (b:UInt8):Vaheda.plain b=true↔(32<=(b.toNat:Int)/\(b.toNat:Int)<=126):=by
 unfold Vaheda.plain
 rw [Bool.and_eq_true,decide_eq_true_eq,decide_eq_true_eq,UInt8.le_iff_toNat_le,UInt8.le_iff_toNat_le]
 show(32<=b.toNat/\b.toNat<=126)↔_
 omega
theorem Y3 {b:UInt8} {n:Nat} (hn:n<256):(b.toNat:Int)=(n:Int)↔b=UInt8.ofNat n:=by
 constructor
 ·intro e
  apply UInt8.toNat_inj.mp
  rw [UInt8.toNat_ofNat']
  have:b.toNat=n:=by omega
  rw [this]
  omega
 ·intro e
  subst e
  rw [UInt8.toNat_ofNat']
  have:n % 2 ^ 8=n:=by omega
  omega
def spLByte (C NH:Addr):Sp:=fun vs H Q E=>∃(p tx dx:Addr) (t:zl) (i:Nat),vs=[.ref p]/\ScanAt C H p tx dx t i /\
 (∀x,lb (t.drop i)=some x->∀H',H' p=some (.ins C dx (sf tx (i+x.2)))->But [p] H H'->Q (.int x.1.toNat) H')/\(lb (t.drop i)=none->∀H',But [p] H H'->E (.ref NH) none H')
section
variable {P:Program} {w:World} {K:PySem.W.Frag} {mg:Str->Option Value} {base:Heap}
theorem scScLByte:zh ["self","byte"] ["self"] (zg sScLByte):=⟨rfl,rfl,rfl,by decide +kernel,rfl,by decide +kernel,by decide +kernel⟩
theorem Iu (X:yf K mg) (W:y9 K mg):zj P w K mg base (CXE P w) 2 X.lbyte.f X.lbyte.fd ["self"] (spLByte X.S.C X.NoHedge):=by
 have GB:=J0 (P:=P) (w:=w) (base:=base) X
 refine X.lbyte.F.okx scScLByte (fun vs H Q E h=>?_) (fun cdv A outer s H vs Q E hr h=>?_)
 ·obtain⟨_,_,_,_,_,rfl,_⟩:=h
  rfl
 ·obtain⟨p,tx,dx,t,i,rfl,⟨hp,ht,nt⟩,k,ke⟩:=h
  refine⟨_,z9 (zy (i:=1) scScLByte.nd rfl (Or.inl rfl) (zS (pv 0) X.S.c X.byte.m GB hr X.byte.b .nil zk))
   (z9 (yj (pv 0) zi x5)
   (z9 (zR (zx xO (pv 1) (zP W.back) (zG _))
    (z9 (zy (i:=1) scScLByte.nd rfl (Or.inl rfl) (zS (pv 0) X.S.c X.byte.m GB hr X.byte.b .nil zk))
    (z9 (yj (pv 0) zi x5)
    (zc (zR (zx J2 (pv 1) (jB (z6 (zP W.quote) (z6 (zP W.back) zb))) rfl) (zc (yN xc rfl rfl X.nh X.nhX)) zE)))) zE)
   (z9 (zR (qK (zx qw (pv 1) (zP W.blank) (zG _)) (qA (zx JY (pv 1) (zP X.last) (zG _)))).pt (zc (yN xc rfl rfl X.nh X.nhX)) zE)
   (zc (zn (pv 1)))))),?_⟩
  refine⟨_,rfl,p,dx,_,rfl,hp,rfl,p,tx,dx,t,i,rfl,⟨hp,ht,nt⟩,?_⟩
  refine⟨_,rfl,p,X.S.C,dx,_,_,rfl,hp,X.S.c,X.S.n,rfl,_,_,rfl,rfl,dx,_,hp,(by show 2<1000;decide),?_⟩
  rw [show y4 "place" (V.int ((i:Nat)+1:Int)) (sf tx i)=sf tx (i+1) from rfl]
  have b1:But [p] H (upd H p (.ins X.S.C dx (sf tx (i+1)))):=But.upd (by simp)
  refine⟨_,rfl,rfl,_,rfl,?_⟩
  by_cases c:i<t.length
  ·rw [xZ c]
   by_cases c92:(t[i].toNat:Int)=92
   ·rw [decide_eq_true (show V.int (t[i].toNat:Int)=V.int 92 by rw [c92])]
    refine zu ?_
    refine⟨_,rfl,p,dx,_,rfl,z7,rfl,p,tx,dx,t,i+1,rfl,⟨z7,by rw [z8 nt];exact ht,nt⟩,?_⟩
    refine⟨_,rfl,p,X.S.C,dx,_,_,rfl,z7,X.S.c,X.S.n,rfl,_,_,rfl,rfl,dx,_,z7,(by show 2<1000;decide),?_⟩
    rw [x6,show y4 "place" (V.int (((i+1:Nat):Int)+1)) (sf tx (i+1))=sf tx (i+2) from rfl]
    have b2:But [p] H (upd H p (.ins X.S.C dx (sf tx (i+2)))):=But.upd (by simp)
    refine⟨_,rfl,(by show 2<=sizeLine;decide),fun tp htp=>?_⟩
    have ntp:p≠tp:=za (z7 (H:=H) (a:=p)) htp
    have b3:=b2.trans (But.new (o:=.tup [V.int 39,V.int 92]) htp)
    refine⟨tp,_,rfl,.inr (SqT.of z7),rfl,rfl,_,rfl,?_⟩
    show if (!inV (.int (bAt t (i+1))) [V.int 39,V.int 92])=true then _ else _
    rw [inV2]
    have e92:t[i]=92:=(Y3 (n:=92) (by omega)).mp c92
    by_cases c2:i+1<t.length
    ·have dr:t.drop i=92::t[i+1]::t.drop (i+2):=by rw [yk c,yk c2,e92]
     rw [xZ c2]
     have q39:=Y3 (b:=t[i+1]) (n:=39) (by omega)
     have q92:=Y3 (b:=t[i+1]) (n:=92) (by omega)
     by_cases e:(t[i+1].toNat:Int)=39\/(t[i+1].toNat:Int)=92
     ·rw [decide_eq_true e]
      refine zr ?_
      have lbe:lb (t.drop i)=some (t[i+1],2):=by
       rw [dr,VB,if_pos (e.elim (fun z=>.inl (q39.mp z)) fun z=>.inr (q92.mp z))]
      refine⟨_,rfl,_,_,rfl,rfl,_,rfl,?_⟩
      rw [decide_eq_false (show ¬(t[i+1].toNat:Int)<32 by omega)]
      refine zr ⟨_,rfl,_,_,rfl,rfl,_,rfl,?_⟩
      rw [decide_eq_false (show ¬(126:Int)<(t[i+1].toNat:Int) by omega)]
      exact zr ⟨_,rfl,k _ lbe _ (by rw [z8 ntp,z7]) b3⟩
     ·rw [decide_eq_false e]
      refine zu (ke ?_ _ b3)
      rw [dr,VB,if_neg (fun z=>e (z.elim (fun y=>.inl (q39.mpr y)) fun y=>.inr (q92.mpr y)))]
    ·rw [q0 c2]
     refine zu (ke ?_ _ b3)
     rw [yk c,e92,List.drop_eq_nil_of_le (by omega)]
     rfl
   ·rw [decide_eq_false (show ¬V.int (t[i].toNat:Int)=V.int 92 from fun z=>c92 (V.int.inj z))]
    refine zr ?_
    have ne92:¬t[i]=92:=fun z=>c92 (by rw [z];rfl)
    have pl:=zah t[i]
    refine⟨_,rfl,_,_,rfl,rfl,_,rfl,?_⟩
    by_cases l1:(t[i].toNat:Int)<32
    ·rw [decide_eq_true l1]
     refine zu (zu (ke ?_ _ b1))
     rw [yk c,VU _ ne92,if_neg (fun z=>by have:=pl.mp z;omega)]
    ·rw [decide_eq_false l1]
     refine zr ⟨_,rfl,_,_,rfl,rfl,_,rfl,?_⟩
     by_cases l2:(126:Int)<(t[i].toNat:Int)
     ·rw [decide_eq_true l2]
      refine zu (ke ?_ _ b1)
      rw [yk c,VU _ ne92,if_neg (fun z=>by have:=pl.mp z;omega)]
     ·rw [decide_eq_false l2]
      refine zr ⟨_,rfl,k (t[i],1) ?_ _ z7 b1⟩
      rw [yk c,VU _ ne92,if_pos (pl.mpr (by omega))]
  ·rw [q0 c]
   refine zr ⟨_,rfl,_,_,rfl,rfl,_,rfl,zu (zu (ke ?_ _ b1))⟩
   rw [List.drop_eq_nil_of_le (by omega)]
   rfl
def okLeaf (x:zl):Bool:=!x.isEmpty && decide (x.length<=200)
def spLeaf (C NH:Addr):Sp:=fun vs H Q E=>∃(p tx dx:Addr) (t:zl) (i:Nat),vs=[.ref p]/\ScanAt C H p tx dx t i/\i<t.length/\t.length<sizeLine /\
 (∀x j,lf (t.drop (i+1))=some x->okLeaf x.1=true->j<=t.length->t.drop j=x.2->∀H' l,H l=none->H' l=some (.lst (wds x.1))->H' p=some (.ins C dx (sf tx j))->But [p] H H'->Q (.ref l) H') /\
 ((∀x,lf (t.drop (i+1))=some x->okLeaf x.1=false)->∀H',But [p] H H'->E (.ref NH) none H')
theorem scScLeaf:zh ["self","word"] ["self"] (zg sScLeaf):=⟨rfl,rfl,rfl,by decide +kernel,rfl,by decide +kernel,by decide +kernel⟩
theorem But.two {M:List Addr} {H H1 H2:Hp} {l:Addr} (hl:H l=none) (b1:But M H H1) (b2:But (l::M) H1 H2):But M H H2:=fun b o e n=>b2 b o (b1 b o e n) (by
 intro z
 rcases List.mem_cons.mp z with z | z
 ·rw [z,hl] at e;cases e
 ·exact n z)
theorem zb9 (X:yf K mg) (W:y9 K mg):zj P w K mg base (CXE P w) 3 X.leaf.f X.leaf.fd ["self"] (spLeaf X.S.C X.NoHedge):=by
 have GB:=J0 (P:=P) (w:=w) (base:=base) X
 have GL:=Iu (P:=P) (w:=w) (base:=base) X W
 refine X.leaf.F.okx scScLeaf (fun vs H Q E h=>?_) (fun cdv A outer s H vs Q E hr h=>?_)
 ·obtain⟨_,_,_,_,_,rfl,_⟩:=h
  rfl
 ·obtain⟨p,tx,dx,t,i,rfl,⟨hp,ht,nt⟩,lt,lz,k,ke⟩:=h
  have hr1:zJ 1 _:=hr.mono (by decide)
  refine⟨_,z9 (zy (i:=1) scScLeaf.nd rfl (Or.inl rfl) (zM zb))
   (z9 (yj (pv 0) zi x5)
   (z9 (jI PassesOwn.leaving (zx YG (zS (pv 0) X.S.c X.byte.m GB hr1 X.byte.b .nil zk) (zP W.quote) (zG _))
    (zc (zz (yK PySem.F.plainAttrs_list PySem.F.slot_list_append PySem.F.type_list_append yc (pv 1) (z6 (zS (pv 0) X.S.c X.lbyte.m GL hr X.lbyte.b .nil yh) zb)))))
   (z9 (yj (pv 0) zi x5)
   (z9 (zR (qK (zx qw (zU zF (by rfl) X.nlen PySem.boot_len (z6 (pv 1) zb)) zi (zG _)) (qA (zx JY (zU zF (by rfl) X.nlen PySem.boot_len (z6 (pv 1) zb)) (zP X.mLeaf) (zG _)))).pt (zc (yN xc rfl rfl X.nh X.nhX)) zE)
   (zc (zn (pv 1))))))),?_⟩
  refine⟨Nat.zero_le _,fun l hl=>?_⟩
  have npl:p≠l:=za hp hl
  have ntl:tx≠l:=za ht hl
  refine⟨_,rfl,p,X.S.C,dx,_,_,rfl,by rw [z8 npl];exact hp,X.S.c,X.S.n,rfl,_,_,rfl,rfl,dx,_,by rw [z8 npl];exact hp,(by show 2<1000;decide),?_⟩
  rw [show y4 "place" (V.int ((i:Nat)+1:Int)) (sf tx i)=sf tx (i+1) from rfl]
  refine⟨fun m σ H'=>∃(j:Nat) (u:zl),σ=[some (.ref p),some (.ref l)]/\m=t.length - j/\j<=t.length/\u.length<=j/\lf (t.drop (i+1))=(lf (t.drop j)).map (fun x=>(u++x.1,x.2))/\H' p=some (.ins X.S.C dx (sf tx j))/\H' l=some (.lst (wds u))/\But [p] H H',
   ⟨_,i+1,[],rfl,rfl,by omega,by show 0<=_;omega,?_,z7,by rw [z8 npl.symm,z7];rfl,(But.new hl).trans (But.upd (by simp))⟩,?_⟩
  ·cases lf (t.drop (i+1)) <;> rfl
  rintro m σ H' ⟨j,u,rfl,rfl,lej,leu,inv,hp',hl',b⟩
  have ht':H' tx=some (.lst (wds t)):=b tx _ ht (by simpa using nt)
  refine⟨_,rfl,p,dx,_,rfl,hp',rfl,p,tx,dx,t,j,rfl,⟨hp',ht',nt⟩,rfl,_,rfl,?_⟩
  by_cases c:bAt t j=39
  ·rw [c]
   refine zr ?_
   have cj:j<t.length:=by
    by_cases z:j<t.length
    ·exact z
    ·rw [q0 z] at c;cases c
   rw [xZ cj] at c
   have e39:t[j]=39:=(Y3 (n:=39) (by omega)).mp c
   have lfj:lf (t.drop (i+1))=some (u,t.drop (j+1)):=by
    rw [inv,yk cj,e39,zd1]
    show some (u++[],_)=_
    rw [List.append_nil]
   refine⟨_,rfl,p,X.S.C,dx,_,_,rfl,hp',X.S.c,X.S.n,rfl,_,_,rfl,rfl,dx,_,hp',(by show 2<1000;decide),?_⟩
   rw [show y4 "place" (V.int ((j:Nat)+1:Int)) (sf tx j)=sf tx (j+1) from rfl]
   have hl2:upd H' p (.ins X.S.C dx (sf tx (j+1))) l=some (.lst (wds u)):=by rw [z8 npl.symm];exact hl'
   have b2:But [p] H (upd H' p (.ins X.S.C dx (sf tx (j+1)))):=b.trans (But.upd (by simp))
   refine⟨_,rfl,l,_,rfl,.inl (SqL.of hl2),_,_,rfl,rfl,_,rfl,?_⟩
   rw [ye]
   by_cases c1:u.length<1
   ·rw [decide_eq_true (show((u.length:Nat):Int)<1 by omega)]
    refine zu (zu (ke (fun x hx=>?_) _ b2))
    rw [lfj] at hx
    cases hx
    have:u=[]:=List.eq_nil_of_length_eq_zero (by omega)
    rw [this];rfl
   ·rw [decide_eq_false (show ¬((u.length:Nat):Int)<1 by omega)]
    refine zr ⟨_,rfl,l,_,rfl,.inl (SqL.of hl2),_,_,rfl,rfl,_,rfl,?_⟩
    rw [ye]
    have une:u.isEmpty=false:=by
     cases u with
     | nil=>exact absurd (show([]:zl).length<1 by decide) c1
     | cons _ _=>rfl
    by_cases c2:200<u.length
    ·rw [decide_eq_true (show(200:Int)<((u.length:Nat):Int) by omega)]
     refine zu (ke (fun x hx=>?_) _ b2)
     rw [lfj] at hx
     cases hx
     unfold okLeaf
     rw [une,decide_eq_false (show ¬u.length<=200 by omega)];rfl
    ·rw [decide_eq_false (show ¬(200:Int)<((u.length:Nat):Int) by omega)]
     refine zr ⟨_,rfl,k _ (j+1) lfj ?_ (by omega) rfl _ l hl hl2 z7 b2⟩
     unfold okLeaf
     rw [une,decide_eq_true (show u.length<=200 by omega)];rfl
  ·rw [decide_eq_false (show ¬V.int (bAt t j)=V.int 39 from fun z=>c (V.int.inj z))]
   refine zu ?_
   have nh:(t.drop j).head?≠some 39:=fun z=>by
    by_cases cj:j<t.length
    ·rw [yk cj] at z
     have:t[j]=39:=Option.some.inj z
     rw [xZ cj,this] at c
     exact c rfl
    ·rw [List.drop_eq_nil_of_le (by omega)] at z;cases z
   have lfl:=zd7 nh
   refine⟨fun σ' H''=>∃x,lb (t.drop j)=some x/\σ'=[some (.ref p),some (.ref l)]/\H'' p=some (.ins X.S.C dx (sf tx (j+x.2)))/\H'' l=some (.lst (wds (u++[x.1])))/\But [p] H H'',?_,?_⟩
   ·rintro σ' H'' ⟨x,hx,rfl,h1,h2,h3⟩
    have ll:=zc1 hx
    have:(t.drop j).length=t.length - j:=List.length_drop
    refine⟨t.length - (j+x.2),by omega,j+x.2,u++[x.1],rfl,rfl,by omega,by rw [List.length_append];show _+1<=_;omega,?_,h1,h2,h3⟩
    rw [inv,lfl,hx]
    dsimp only
    rw [List.drop_drop]
    cases lf (t.drop (j+x.2)) with
    | none=>rfl
    | some y=>
     show some (u++x.1::y.1,y.2)=some ((u++[x.1])++y.1,y.2)
     rw [List.append_assoc];rfl
   ·refine⟨_,rfl,.inl ⟨rfl,_,SqL.of hl'⟩,_,rfl,p,dx,_,rfl,hp',rfl,p,tx,dx,t,j,rfl,⟨hp',ht',nt⟩,?_,?_⟩
    ·intro x hx H2 h1 b2
     have hl2:H2 l=some (.lst (wds u)):=b2 l _ hl' (by simpa using npl.symm)
     refine⟨l,_,_,rfl,rfl,hl2,by rw [ye];omega,x,hx,rfl,by rw [z8 npl];exact h1,?_,But.two hl (b.trans b2) (But.upd (by simp))⟩
     rw [z7,xo];rfl
    ·intro hx H2 b2
     refine ke (fun x hx'=>?_) H2 (b.trans b2)
     rw [inv,lfl,hx] at hx'
     cases hx'
end
end Hm
end
section
namespace Hm
open PySem PySem.Spec PyProof.Rows L2
open Vaheda (Hedge Token blank wordByte isName small digit)
theorem JP (b:UInt8):small b=decide (97<=(b.toNat:Int)/\(b.toNat:Int)<=122):=by
 unfold small
 rw [Bool.eq_iff_iff,Bool.and_eq_true,decide_eq_true_eq,decide_eq_true_eq,decide_eq_true_eq,UInt8.le_iff_toNat_le,UInt8.le_iff_toNat_le]
 show(97<=b.toNat/\b.toNat<=122)↔_
 omega
theorem U3 (b:UInt8):Vaheda.digit b=decide (48<=(b.toNat:Int)/\(b.toNat:Int)<=57):=by
 unfold Vaheda.digit
 rw [Bool.eq_iff_iff,Bool.and_eq_true,decide_eq_true_eq,decide_eq_true_eq,decide_eq_true_eq,UInt8.le_iff_toNat_le,UInt8.le_iff_toNat_le]
 show(48<=b.toNat/\b.toNat<=57)↔_
 omega
def spName (C NH:Addr):Sp:=fun vs H Q E=>∃(p tx dx:Addr) (t:zl) (i:Nat),vs=[.ref p]/\ScanAt C H p tx dx t i/\i<=t.length /\
 (isName ((t.drop i).takeWhile wordByte)=true->∀H' l j,H l=none->j<=t.length->t.drop j=(t.drop i).dropWhile wordByte->H' l=some (.lst (wds ((t.drop i).takeWhile wordByte)))->H' p=some (.ins C dx (sf tx j))->But [p] H H'->Q (.ref l) H') /\
 (isName ((t.drop i).takeWhile wordByte)=false->∀H',But [p] H H'->E (.ref NH) none H')
section
variable {P:Program} {w:World} {K:PySem.W.Frag} {mg:Str->Option Value} {base:Heap}
theorem scScName:zh ["self","start"] ["self"] (zg sScName):=⟨rfl,rfl,rfl,by decide +kernel,rfl,by decide +kernel,by decide +kernel⟩
theorem Y4 {α:Type} (p:α->Bool):∀l:List α,(l.takeWhile p).all p=true
 | []=>rfl
 | a::l=>by
  rw [List.takeWhile_cons]
  split
  ·rename_i h;rw [List.all_cons,h,Y4 p l];rfl
  ·rfl
theorem Uv {c:UInt8} {r:zl} (h:isName ((c::r).takeWhile wordByte)=true):small c=true:=by
 rw [List.takeWhile_cons] at h
 split at h
 ·unfold isName at h
  rw [Bool.and_eq_true] at h
  exact h.1
 ·cases h
theorem Nv {c:UInt8} {r:zl} (hs:small c=true):isName ((c::r).takeWhile wordByte)=decide (((c::r).takeWhile wordByte).length<=12):=by
 have hw:wordByte c=true:=by unfold wordByte;rw [hs];rfl
 have al:=Y4 wordByte (c::r)
 rw [List.takeWhile_cons,if_pos hw] at al ⊢
 unfold isName
 rw [al,Bool.and_true]
 show(small c && _)=_
 rw [hs,Bool.true_and]
theorem zcc (t:zl) (i j:Nat) (h1:i<=j) (h2:j<=t.length):jR (wds t) (some (i:Int)) (some (j:Int))=wds ((t.drop i).take (j - i)):=by
 unfold jR
 have e:∀(n d k:Nat),k<=n->HT.sIx n d (some (k:Int))=k:=by
  intro n d k hk
  unfold HT.sIx
  simp
  split <;> omega
 rw [e _ _ i (by rw [ye];omega),e _ _ j (by rw [ye];omega)]
 unfold wds
 rw [List.map_take,List.map_drop]
theorem zbs (X:yf K mg):zj P w K mg base (CXE P w) 2 X.name.f X.name.fd ["self"] (spName X.S.C X.NoHedge):=by
 have GB:=J0 (P:=P) (w:=w) (base:=base) X
 have GL:=OR (P:=P) (w:=w) (base:=base) X
 have GD:=zal (P:=P) (w:=w) (base:=base) X
 refine X.name.F.okx scScName (fun vs H Q E h=>?_) (fun cdv A outer s H vs Q E hr h=>?_)
 ·obtain⟨_,_,_,_,_,rfl,_⟩:=h
  rfl
 ·obtain⟨p,tx,dx,t,i,rfl,⟨hp,ht,nt⟩,le,k,ke⟩:=h
  refine⟨_,z9 (zy (i:=1) scScName.nd rfl (Or.inl rfl) (ze (pv 0) rfl))
   (z9 (zR (JA (zV (zC GL hr (by rfl) X.letter.m X.letter.F.kp X.letter.b .nil zk (z6 (zS (pv 0) X.S.c X.byte.m GB hr X.byte.b .nil zk) zb)) (fun _=>rfl))) (zc (yN xc rfl rfl X.nh X.nhX)) zE)
   (z9 (jI PassesOwn.leaving (qK (zV (zC GL hr (by rfl) X.letter.m X.letter.F.kp X.letter.b .nil zk (z6 (zS (pv 0) X.S.c X.byte.m GB hr X.byte.b .nil zk) zb)) (fun _=>rfl))
     (qA (zV (zC GD hr (by rfl) X.dig.m X.dig.F.kp X.dig.b .nil zk (z6 (zS (pv 0) X.S.c X.byte.m GB hr X.byte.b .nil zk) zb)) (fun _=>rfl)))).pt
    (zc (yj (pv 0) zi x5)))
   (z9 (zR (zx JY (yb qF (ze (pv 0) rfl) (pv 1)) (zP X.mName) (zG _)) (zc (yN xc rfl rfl X.nh X.nhX)) zE)
   (zc (zn (qi qX (ze (pv 0) rfl) (jO (pv 1)) (jO (ze (pv 0) rfl)))))))),?_⟩
  refine⟨_,rfl,p,X.S.C,dx,_,_,rfl,hp,X.S.c,X.S.n,rfl,?_⟩
  refine⟨_,rfl,p,dx,_,rfl,hp,rfl,p,tx,dx,t,i,rfl,⟨hp,ht,nt⟩,_,rfl,_,rfl,?_⟩
  have notLetter:∀{n:Nat},(¬(97<=bAt t n/\bAt t n<=122)/\¬(48<=bAt t n/\bAt t n<=57))->(t.drop n).takeWhile wordByte=[]/\(t.drop n).dropWhile wordByte=t.drop n:=by
   intro n ⟨h1,h2⟩
   by_cases c:n<t.length
   ·rw [xZ c] at h1 h2
    have:wordByte t[n]=false:=by
     unfold wordByte
     rw [JP,U3,decide_eq_false h1,decide_eq_false h2];rfl
    rw [yk c,List.takeWhile_cons,List.dropWhile_cons,this]
    exact⟨rfl,rfl⟩
   ·rw [List.drop_eq_nil_of_le (by omega)];exact⟨rfl,rfl⟩
  by_cases c1:97<=bAt t i/\bAt t i<=122
  ·rw [decide_eq_true c1]
   refine zr ?_
   have ci:i<t.length:=by
    by_cases z:i<t.length
    ·exact z
    ·rw [q0 z] at c1;omega
   have sm:small t[i]=true:=by rw [JP,<-xZ ci,decide_eq_true c1]
   have nm:=Nv (r:=t.drop (i+1)) sm
   rw [<-yk ci] at nm
   refine⟨fun m σ H'=>∃j:Nat,σ=[some (.ref p),some (.int i)]/\m=t.length - j/\i<=j/\j<=t.length/\(t.drop i).takeWhile wordByte=(t.drop i).take (j - i)++(t.drop j).takeWhile wordByte/\(t.drop i).dropWhile wordByte=(t.drop j).dropWhile wordByte/\H' p=some (.ins X.S.C dx (sf tx j))/\But [p] H H',
    ⟨_,i,rfl,rfl,Nat.le_refl _,le,by rw [Nat.sub_self];rfl,rfl,hp,But.refl _ _⟩,?_⟩
   rintro m σ H' ⟨j,rfl,rfl,leij,lej,i1,i2,hp',b⟩
   have ht':H' tx=some (.lst (wds t)):=b tx _ ht (by simpa using nt)
   have more:(wordByte <$> t[j]?)=some true->∃N:L2.St->Hp->Prop,(∀σ' H',N σ' H'->∃m',m'<t.length - j/\∃j:Nat,σ'=[some (.ref p),some (.int i)]/\m'=t.length - j/\i<=j/\j<=t.length/\(t.drop i).takeWhile wordByte=(t.drop i).take (j - i)++(t.drop j).takeWhile wordByte/\(t.drop i).dropWhile wordByte=(t.drop j).dropWhile wordByte/\H' p=some (.ins X.S.C dx (sf tx j))/\But [p] H H') /\
     N [some (.ref p),some (.int i)] (upd H' p (.ins X.S.C dx (sf tx (j+1)))):=by
    intro hw
    have cj:j<t.length:=by
     by_cases z:j<t.length
     ·exact z
     ·rw [List.getElem?_eq_none (by omega)] at hw;cases hw
    rw [List.getElem?_eq_getElem cj] at hw
    have hw:wordByte t[j]=true:=Option.some.inj hw
    refine⟨fun σ' H''=>σ'=[some (.ref p),some (.int i)]/\H'' p=some (.ins X.S.C dx (sf tx (j+1)))/\But [p] H H'',?_,rfl,z7,b.trans (But.upd (by simp))⟩
    rintro σ' H'' ⟨rfl,h1,h2⟩
    refine⟨t.length - (j+1),by omega,j+1,rfl,rfl,by omega,by omega,?_,?_,h1,h2⟩
    ·rw [i1,yk cj,List.takeWhile_cons,if_pos hw]
     have e1:(t.drop i).take (j+1 - i)=(t.drop i).take (j - i)++[t[j]]:=by
      rw [show j+1 - i=(j - i)+1 by omega]
      refine xK ?_
      rw [List.getElem?_drop,show i+(j - i)=j by omega,List.getElem?_eq_getElem cj]
     rw [e1,List.append_assoc];rfl
    ·rw [i2,yk cj,List.dropWhile_cons,if_pos hw]
   refine⟨_,rfl,p,dx,_,rfl,hp',rfl,p,tx,dx,t,j,rfl,⟨hp',ht',nt⟩,_,rfl,_,rfl,?_⟩
   by_cases d1:97<=bAt t j/\bAt t j<=122
   ·rw [decide_eq_true d1]
    have cj:j<t.length:=by
     by_cases z:j<t.length
     ·exact z
     ·rw [q0 z] at d1;omega
    obtain⟨N,n1,n2⟩:=more (by
     rw [List.getElem?_eq_getElem cj]
     show some (wordByte t[j])=some true
     unfold wordByte
     rw [JP,<-xZ cj,decide_eq_true d1];rfl)
    refine zu (zu ⟨N,n1,?_⟩)
    exact⟨_,rfl,p,X.S.C,dx,_,_,rfl,hp',X.S.c,X.S.n,rfl,_,_,rfl,rfl,dx,_,hp',(by show 2<1000;decide),n2⟩
   ·rw [decide_eq_false d1]
    refine zr ⟨_,rfl,p,dx,_,rfl,hp',rfl,p,tx,dx,t,j,rfl,⟨hp',ht',nt⟩,_,rfl,_,rfl,?_⟩
    by_cases d2:48<=bAt t j/\bAt t j<=57
    ·rw [decide_eq_true d2]
     have cj:j<t.length:=by
      by_cases z:j<t.length
      ·exact z
      ·rw [q0 z] at d2;omega
     obtain⟨N,n1,n2⟩:=more (by
      rw [List.getElem?_eq_getElem cj]
      show some (wordByte t[j])=some true
      unfold wordByte
      rw [U3,<-xZ cj,decide_eq_true d2,Bool.or_true])
     refine zu ⟨N,n1,?_⟩
     exact⟨_,rfl,p,X.S.C,dx,_,_,rfl,hp',X.S.c,X.S.n,rfl,_,_,rfl,rfl,dx,_,hp',(by show 2<1000;decide),n2⟩
    ·rw [decide_eq_false d2]
     refine zr ?_
     obtain⟨z1,z2⟩:=notLetter ⟨d1,d2⟩
     rw [z1,List.append_nil] at i1
     rw [z2] at i2
     have len:((t.drop i).takeWhile wordByte).length=j - i:=by
      rw [i1,List.length_take,List.length_drop];omega
     rw [len] at nm
     refine⟨_,rfl,p,X.S.C,dx,_,_,rfl,hp',X.S.c,X.S.n,rfl,_,rfl,_,_,rfl,rfl,_,_,rfl,rfl,_,rfl,?_⟩
     by_cases c12:j - i<=12
     ·rw [decide_eq_false (show ¬(12:Int)<((j:Nat):Int) - ((i:Nat):Int) by omega)]
      refine zr ?_
      refine⟨_,rfl,p,X.S.C,dx,_,_,rfl,hp',X.S.c,X.S.n,rfl,_,rfl,_,rfl,_,rfl,p,X.S.C,dx,_,_,rfl,hp',X.S.c,X.S.n,rfl,_,rfl,tx,_,rfl,SqL.of ht',fun l hl=>?_⟩
      rw [zcc t i j leij lej,<-i1]
      have hl0:H l=none:=by
       cases e:H l with
       | none=>rfl
       | some o=>
        by_cases z:l=p
        ·rw [z,hp'] at hl;cases hl
        ·rw [b l o e (by simpa using z)] at hl;cases hl
      have npl:p≠l:=za hp' hl
      exact k (by rw [nm];exact decide_eq_true c12) _ l j hl0 lej i2.symm z7 (by rw [z8 npl];exact hp') (b.trans (But.new hl))
     ·rw [decide_eq_true (show(12:Int)<((j:Nat):Int) - ((i:Nat):Int) by omega)]
      exact zu (ke (by rw [nm];exact decide_eq_false c12) _ b)
  ·rw [decide_eq_false c1]
   refine zu (ke ?_ _ (But.refl _ _))
   cases q:isName ((t.drop i).takeWhile wordByte) with
   | false=>rfl
   | true=>
    exfalso
    by_cases ci:i<t.length
    ·rw [yk ci] at q
     have:=Uv q
     rw [JP,<-xZ ci,decide_eq_true_eq] at this
     exact c1 this
    ·rw [List.drop_eq_nil_of_le (by omega)] at q;cases q
def kindN:Token->Int
 | .word _=>0
 | .leaf _=>1
 | .open_=>2
 | .close=>3
 | .bad _=>9
def tword:Token->zl
 | .word a=>a
 | .leaf x=>x
 | _=>[]
def spToken (C NH:Addr):Sp:=fun vs H Q E=>∃(p tx dx:Addr) (t r:zl) (c:UInt8) (i:Nat),vs=[.ref p]/\ScanAt C H p tx dx t i/\t.drop i=c::r/\t.length<sizeLine /\
 (∀x,jm c r=some x->∀H' a w j,H a=none->H w=none->H' a=some (.tup [.int (kindN x.1),.ref w])->H' w=some (.lst (wds (tword x.1)))->j<=t.length->t.drop j=x.2->H' p=some (.ins C dx (sf tx j))->But [p] H H'->Q (.ref a) H') /\
 (jm c r=none->∀H',But [p] H H'->E (.ref NH) none H')
theorem scScToken:zh ["self","byte"] ["self"] (zg sScToken):=⟨rfl,rfl,rfl,by decide +kernel,rfl,by decide +kernel,by decide +kernel⟩
theorem But.none {M:List Addr} {H H':Hp} (b:But M H H') {l:Addr} (hM:∀x∈M,H' x≠Option.none) (hl:H' l=Option.none):H l=Option.none:=by
 cases e:H l with
 | none=>rfl
 | some o=>
  by_cases z:l∈M
  ·exact absurd hl (hM l z)
  ·rw [b l o e z] at hl;cases hl
theorem IL (X:yf K mg) (W:y9 K mg):zj P w K mg base (CXE P w) 4 X.token.f X.token.fd ["self"] (spToken X.S.C X.NoHedge):=by
 have GB:=J0 (P:=P) (w:=w) (base:=base) X
 have GL:=zb9 (P:=P) (w:=w) (base:=base) X W
 have GN:=zbs (P:=P) (w:=w) (base:=base) X
 refine X.token.F.okx scScToken (fun vs H Q E h=>?_) (fun cdv A outer s H vs Q E hr h=>?_)
 ·obtain⟨_,_,_,_,_,_,_,rfl,_⟩:=h
  rfl
 ·obtain⟨p,tx,dx,t,r,c,i,rfl,⟨hp,ht,nt⟩,dr,lz,k,ke⟩:=h
  have hr1:zJ 1 _:=hr.mono (by decide)
  have hr2:zJ 2 _:=hr.mono (by decide)
  refine⟨_,z9 (zy (i:=1) scScToken.nd rfl (Or.inl rfl) (zS (pv 0) X.S.c X.byte.m GB hr1 X.byte.b .nil zk))
   (z9 (zR (zx xO (pv 1) (zP W.quote) (zG _)) (zc (zn (jB (z6 (zP X.kLeaf) (z6 (zS (pv 0) X.S.c X.leaf.m GL hr X.leaf.b .nil yh) zb))))) zE)
   (z9 (zR (zx xO (pv 1) (zP W.lpar) (zG _)) (z9 (yj (pv 0) zi x5) (zc (zn (jB (z6 (zP X.kDown) (z6 (zM zb) zb)))))) zE)
   (z9 (zR (zx xO (pv 1) (zP W.rpar) (zG _)) (z9 (yj (pv 0) zi x5) (zc (zn (jB (z6 (zP X.kUp) (z6 (zM zb) zb)))))) zE)
   (zc (zn (jB (z6 (zP X.kName) (z6 (zS (pv 0) X.S.c X.name.m GN hr2 X.name.b .nil yh) zb)))))))),?_⟩
  have ci:i<t.length:=by
   by_cases z:i<t.length
   ·exact z
   ·rw [List.drop_eq_nil_of_le (by omega)] at dr;cases dr
  have dr':=yk ci
  rw [dr] at dr'
  have ec:c=t[i]:=(List.cons.inj dr').1
  have er:r=t.drop (i+1):=(List.cons.inj dr').2
  subst er
  refine⟨_,rfl,p,dx,_,rfl,hp,rfl,p,tx,dx,t,i,rfl,⟨hp,ht,nt⟩,?_⟩
  rw [xZ ci,<-ec]
  have q39:=Y3 (b:=c) (n:=39) (by omega)
  have q40:=Y3 (b:=c) (n:=40) (by omega)
  have q41:=Y3 (b:=c) (n:=41) (by omega)
  refine⟨_,rfl,rfl,_,rfl,?_⟩
  by_cases c1:(c.toNat:Int)=39
  ·have e:c=39:=q39.mp c1
   rw [c1]
   refine zu ?_
   have t1:jm c (t.drop (i+1))=match lf (t.drop (i+1)) with
     | none=>none
     | some x=>if okLeaf x.1=true then some (.leaf x.1,x.2) else none:=by
    unfold jm
    rw [if_neg (by rw [e];decide),if_neg (by rw [e];decide),if_pos e]
    rfl
   refine⟨_,rfl,p,dx,_,rfl,hp,rfl,p,tx,dx,t,i,rfl,⟨hp,ht,nt⟩,ci,lz,?_,?_⟩
   ·intro x j hx ho lej dj H1 l hl hl1 hp1 b1
    refine⟨(by show 2<=sizeLine;decide),fun tp htp=>?_⟩
    have ntl:l≠tp:=za hl1 htp
    refine k (.leaf x.1,x.2) (by rw [t1,hx];dsimp only;rw [if_pos ho]) _ tp l j (b1.none (by simp [hp1]) htp) hl z7 (by rw [z8 ntl];exact hl1) lej dj (by rw [z8 (za hp1 htp)];exact hp1) (b1.trans (But.new htp))
   ·intro hx H1 b1
    refine ke ?_ H1 b1
    rw [t1]
    cases q:lf (t.drop (i+1)) with
    | none=>rfl
    | some x=>dsimp only;rw [if_neg (by rw [hx x q];decide)]
  ·rw [decide_eq_false (show ¬V.int (c.toNat:Int)=V.int 39 from fun z=>c1 (V.int.inj z))]
   refine zr ⟨_,rfl,rfl,_,rfl,?_⟩
   have paren:∀(kd:Int) (tk:Token),kindN tk=kd->tword tk=[]->jm c (t.drop (i+1))=some (tk,t.drop (i+1)) ->
     ∀l,upd H p (.ins X.S.C dx (sf tx (i+1))) l=Option.none->∀tp,upd (upd H p (.ins X.S.C dx (sf tx (i+1)))) l (.lst []) tp=Option.none->Q (.ref tp) (upd (upd (upd H p (.ins X.S.C dx (sf tx (i+1)))) l (.lst [])) tp (.tup [.int kd,.ref l])):=by
    intro kd tk hk hw ht1 l hl tp htp
    have b1:But [p] H (upd H p (.ins X.S.C dx (sf tx (i+1)))):=But.upd (by simp)
    have npl:p≠l:=za (z7 (H:=H) (a:=p)) hl
    have ntl:l≠tp:=za (z7 (a:=l)) htp
    have hp2:upd (upd H p (.ins X.S.C dx (sf tx (i+1)))) l (.lst []) p=some (.ins X.S.C dx (sf tx (i+1))):=by rw [z8 npl];exact z7
    have hl0:H l=Option.none:=b1.none (by simp [z7]) hl
    have b2:=b1.trans (But.new (o:=.lst []) hl)
    refine k (tk,t.drop (i+1)) ht1 _ tp l (i+1) (b2.none (by simp [hp2]) htp) hl0 (by rw [z7,hk]) (by rw [z8 ntl,z7,hw];rfl) (by omega) rfl (by rw [z8 (za hp2 htp)];exact hp2) (b2.trans (But.new htp))
   by_cases c2:(c.toNat:Int)=40
   ·have e:c=40:=q40.mp c2
    rw [c2]
    refine zu ?_
    refine⟨_,rfl,p,X.S.C,dx,_,_,rfl,hp,X.S.c,X.S.n,rfl,_,_,rfl,rfl,dx,_,hp,(by show 2<1000;decide),?_⟩
    refine⟨Nat.zero_le _,fun l hl=>⟨(by show 2<=sizeLine;decide),fun tp htp=>?_⟩⟩
    exact paren 2 .open_ rfl rfl (by unfold jm;rw [if_pos e]) l hl tp htp
   ·rw [decide_eq_false (show ¬V.int (c.toNat:Int)=V.int 40 from fun z=>c2 (V.int.inj z))]
    refine zr ⟨_,rfl,rfl,_,rfl,?_⟩
    have ne40:¬c=40:=fun z=>c2 (q40.mpr z)
    by_cases c3:(c.toNat:Int)=41
    ·have e:c=41:=q41.mp c3
     rw [c3]
     refine zu ?_
     refine⟨_,rfl,p,X.S.C,dx,_,_,rfl,hp,X.S.c,X.S.n,rfl,_,_,rfl,rfl,dx,_,hp,(by show 2<1000;decide),?_⟩
     refine⟨Nat.zero_le _,fun l hl=>⟨(by show 2<=sizeLine;decide),fun tp htp=>?_⟩⟩
     exact paren 3 .close rfl rfl (by unfold jm;rw [if_neg ne40,if_pos e]) l hl tp htp
    ·rw [decide_eq_false (show ¬V.int (c.toNat:Int)=V.int 41 from fun z=>c3 (V.int.inj z))]
     refine zr ?_
     have ne41:¬c=41:=fun z=>c3 (q41.mpr z)
     have ne39:¬c=39:=fun z=>c1 (q39.mpr z)
     have t1:jm c (t.drop (i+1))=if isName ((c::t.drop (i+1)).takeWhile wordByte)=true then some (.word ((c::t.drop (i+1)).takeWhile wordByte),(c::t.drop (i+1)).dropWhile wordByte) else none:=by
      unfold jm
      rw [if_neg ne40,if_neg ne41,if_neg ne39]
      by_cases hw:wordByte c=true
      ·rw [if_pos hw,List.takeWhile_cons,List.dropWhile_cons,if_pos hw,if_pos hw]
      ·rw [if_neg hw,List.takeWhile_cons,if_neg hw];rfl
     rw [<-dr] at t1
     refine⟨_,rfl,p,dx,_,rfl,hp,rfl,p,tx,dx,t,i,rfl,⟨hp,ht,nt⟩,by omega,?_,?_⟩
     ·intro hn H1 l j hl lej dj hl1 hp1 b1
      refine⟨(by show 2<=sizeLine;decide),fun tp htp=>?_⟩
      have ntl:l≠tp:=za hl1 htp
      exact k _ (by rw [t1,if_pos hn]) _ tp l j (b1.none (by simp [hp1]) htp) hl z7 (by rw [z8 ntl];exact hl1) lej dj (by rw [z8 (za hp1 htp)];exact hp1) (b1.trans (But.new htp))
     ·intro hn H1 b1
      exact ke (by rw [t1,if_neg (by rw [hn];decide)]) H1 b1
end
end Hm
end
section
namespace Hm
open PySem PySem.Spec PyProof.Rows L2
open Vaheda (Hedge Token blank wordByte isName small digit)
inductive j7 (G:Hp):List V->List Token->Prop where
 | nil:j7 G [] []
 | cons {a w:Addr} {tk:Token} {r:List V} {ts:List Token}:G a=some (.tup [.int (kindN tk),.ref w])->G w=some (.lst (wds (tword tk)))->j7 G r ts->j7 G (.ref a::r) (tk::ts)
theorem j7.mono {G G':Hp} {vs:List V} {ts:List Token} (T:j7 G vs ts) (s:zd G G'):j7 G' vs ts:=by
 induction T with
 | nil=>exact .nil
 | cons a b _ ih=>exact .cons (s _ _ a) (s _ _ b) ih
theorem j7.snoc {G:Hp} {vs:List V} {ts:List Token} (T:j7 G vs ts) {a w:Addr} {tk:Token} (h1:G a=some (.tup [.int (kindN tk),.ref w])) (h2:G w=some (.lst (wds (tword tk)))):j7 G (vs++[.ref a]) (ts++[tk]):=by
 induction T with
 | nil=>exact .cons h1 h2 .nil
 | cons a b _ ih=>exact .cons a b ih
theorem j7.len {G:Hp} {vs:List V} {ts:List Token} (T:j7 G vs ts):vs.length=ts.length:=by
 induction T with
 | nil=>rfl
 | cons a b _ ih=>rw [List.length_cons,List.length_cons,ih]
def Ju (H G:Hp):Hp:=fun b=>match H b with
 | none=>G b
 | some _=>none
theorem ZM {H G:Hp} {b:Addr} {o:HO} (h:H b=none) (e:G b=some o):Ju H G b=some o:=by unfold Ju;rw [h];exact e
theorem Vk {H G:Hp} {b:Addr} {o:HO} (e:Ju H G b=some o):H b=none/\G b=some o:=by
 unfold Ju at e
 cases q:H b with
 | none=>rw [q] at e;exact⟨rfl,e⟩
 | some u=>rw [q] at e;cases e
theorem Yt {H G G':Hp} (s:zd G G'):zd (Ju H G) (Ju H G'):=fun b o e=>by
 obtain⟨n,e⟩:=Vk e
 exact ZM n (s b o e)
def spCut (NH:Addr):Sp:=fun vs H Q E=>∃(tx:Addr) (t:zl),vs=[.ref tx]/\H tx=some (.lst (wds t))/\t.length<sizeLine /\
 (∀ts,toks t=some ts->∀H' l vs',H l=none->H' l=some (.lst vs')->j7 (Ju H H') vs' ts->zd H H'->Q (.ref l) H')/\(toks t=none->∀H',zd H H'->E (.ref NH) none H')
section
variable {P:Program} {w:World} {K:PySem.W.Frag} {mg:Str->Option Value} {base:Heap}
theorem scCut:zh ["text","tokens","scanner"] ["text"] (zg sCut):=⟨rfl,rfl,rfl,by decide +kernel,rfl,by decide +kernel,by decide +kernel⟩
theorem YW (t:zl) (j:Nat):(t.drop j).length=t.length - j:=List.length_drop
theorem zcx (X:yf K mg) (W:y9 K mg):zj P w K mg base (CXE P w) 5 X.cut.f X.cut.fd ["text"] (spCut X.NoHedge):=by
 have GB:=J0 (P:=P) (w:=w) (base:=base) X
 have GI:=Oe (P:=P) (w:=w) (base:=base) X
 have GS:=zbg (P:=P) (w:=w) (base:=base) X W
 have GT:=IL (P:=P) (w:=w) (base:=base) X W
 refine X.cut.F.okx scCut (fun vs H Q E h=>?_) (fun cdv A outer s H vs Q E hr h=>?_)
 ·obtain⟨_,_,rfl,_⟩:=h
  rfl
 ·obtain⟨tx,t,rfl,ht,lz,k,ke⟩:=h
  have hr1:zJ 1 _:=hr.mono (by decide)
  have hr2:zJ 2 _:=hr.mono (by decide)
  refine⟨_,z9 (zy (i:=1) scCut.nd rfl (Or.inl rfl) (zM zb))
   (z9 (zy (i:=2) scCut.nd rfl (Or.inl rfl) (xr X.mk1 GI hr2 rfl X.S.g X.init.b .nil zk (z6 (pv 0) zb)))
   (z9 (zz (zS (pv 2) X.S.c X.skip.m GS hr2 X.skip.b .nil zk))
   (z9 (jI PassesOwn.leaving (zx YG (zS (pv 2) X.S.c X.byte.m GB hr1 X.byte.b .nil zk) (zP X.past) (zG _))
    (z9 (zz (yK PySem.F.plainAttrs_list PySem.F.slot_list_append PySem.F.type_list_append yc (pv 1) (z6 (zS (pv 2) X.S.c X.token.m GT hr X.token.b .nil yh) zb)))
    (zc (zz (zS (pv 2) X.S.c X.skip.m GS hr2 X.skip.b .nil zk)))))
   (zc (zn (pv 1)))))),?_⟩
  refine⟨Nat.zero_le _,fun l hl=>?_⟩
  have ntl:tx≠l:=za ht hl
  refine⟨_,rfl,fun p dx hp hdx ndx=>⟨p,dx,tx,rfl,z7,fun H1 hp1 b1=>⟨rfl,?_⟩⟩⟩
  have hl0:upd H l (.lst []) l=some (.lst []):=z7
  have npl:l≠p:=za hl0 hp
  have ndl:l≠dx:=za hl0 hdx
  have ntp:tx≠p:=fun z=>by rw [z] at ht;rw [<-z] at hp;rw [z8 ntl] at hp;rw [z] at hp;rw [ht] at hp;cases hp
  have sH:zd H (upd H l (.lst [])):=zd.new hl
  have hp0:H p=none:=sH.free hp
  have s1:zd H H1:=fun b o e=>by
   have z:=sH b o e
   refine b1 b o ?_ (by simpa using za z hp)
   rw [z8 (za z hp),z8 (za z hdx)];exact z
  have hl1:H1 l=some (.lst []):=b1 l _ (by rw [z8 npl,z8 ndl];exact hl0) (by simpa using npl)
  have ht1:=s1 _ _ ht
  refine⟨_,rfl,p,dx,_,rfl,hp1,rfl,p,tx,dx,t,0,rfl,⟨hp1,ht1,ntp⟩,Nat.zero_le _,fun H2 j lej dj hp2 b2=>?_⟩
  have s2:zd H H2:=fun b o e=>b2 b o (s1 b o e) (by simpa using za e hp0)
  refine⟨fun m σ H'=>∃(j:Nat) (us:List V) (u:List Token),σ=[some (.ref tx),some (.ref l),some (.ref p)]/\m=t.length - j/\j<=t.length/\us.length<=j/\(t.drop j).dropWhile blank=t.drop j/\toks t=(toks (t.drop j)).map (fun x=>u++x) /\
    H' p=some (.ins X.S.C dx (sf tx j))/\H' l=some (.lst us)/\j7 (Ju H (hid [p,l] H')) us u/\zd H H',⟨_,j,[],[],rfl,rfl,lej,Nat.zero_le _,?_,?_,hp2,b2 l _ hl1 (by simpa using npl),.nil,s2⟩,?_⟩
  ·rw [dj]
   have idem:∀r:zl,(r.dropWhile blank).dropWhile blank=r.dropWhile blank:=by
    intro r
    induction r with
    | nil=>rfl
    | cons c r ih=>
     rw [List.dropWhile_cons]
     by_cases h:blank c=true
     ·rw [if_pos h];exact ih
     ·rw [if_neg h,List.dropWhile_cons,if_neg h]
   exact idem _
  ·rw [dj,Yr]
   show toks t=(toks t).map _
   cases toks t <;> rfl
  ·rintro m σ H' ⟨j,us,u,rfl,rfl,lej,leu,idem,inv,hp',hl',T,sm⟩
   have ht':=sm _ _ ht
   refine⟨_,rfl,p,dx,_,rfl,hp',rfl,p,tx,dx,t,j,rfl,⟨hp',ht',ntp⟩,rfl,_,rfl,?_⟩
   by_cases c:j<t.length
   ·have ne:¬V.int (bAt t j)=V.int (-1):=fun z=>by have:=V.int.inj z;rw [xZ c] at this;omega
    rw [decide_eq_false ne]
    refine zu ?_
    have dj:=yk c
    have nb:¬blank t[j]=true:=Oz (r:=t.drop j) (q:=t.drop (j+1)) (by rw [idem,dj])
    have tc:=Op (r:=t.drop (j+1)) nb
    rw [<-dj] at tc
    refine⟨fun σ' H''=>∃(j':Nat) (us':List V) (u':List Token),σ'=[some (.ref tx),some (.ref l),some (.ref p)]/\j<j'/\j'<=t.length/\us'.length<=j'/\(t.drop j').dropWhile blank=t.drop j'/\toks t=(toks (t.drop j')).map (fun x=>u'++x) /\
     H'' p=some (.ins X.S.C dx (sf tx j'))/\H'' l=some (.lst us')/\j7 (Ju H (hid [p,l] H'')) us' u'/\zd H H'',?_,?_⟩
    ·rintro σ' H'' ⟨j',us',u',rfl,h1,h2,h3,h4,h5,h6,h7,h8,h9⟩
     exact⟨t.length - j',by omega,j',us',u',rfl,rfl,h2,h3,h4,h5,h6,h7,h8,h9⟩
    ·refine⟨_,rfl,.inl ⟨rfl,_,SqL.of hl'⟩,_,rfl,p,dx,_,rfl,hp',rfl,p,tx,dx,t,t.drop (j+1),t[j],j,rfl,⟨hp',ht',ntp⟩,dj,lz,?_,?_⟩
     ·intro x hx H3 a w' j1 ha hw ha3 hw3 lej1 dj1 hp3 b3
      have hl3:H3 l=some (.lst us):=b3 l _ hl' (by simpa using npl)
      have nal:a≠l:=fun z=>by rw [z,hl'] at ha;cases ha
      have nwl:w'≠l:=fun z=>by rw [z,hl'] at hw;cases hw
      have nap:a≠p:=fun z=>by rw [z,hp'] at ha;cases ha
      have nwp:w'≠p:=fun z=>by rw [z,hp'] at hw;cases hw
      have tl:=Zc hx
      have d1:=YW t j1
      have d2:=YW t (j+1)
      rw [dj1] at d1
      rw [d2] at tl
      refine⟨l,_,_,rfl,rfl,hl3,by omega,?_⟩
      have T3:j7 (Ju H (hid [p,l] (upd H3 l (.lst (us++[.ref a]))))) (us++[.ref a]) (u++[x.1]):=by
       rw [xW (by simp)]
       exact(T.mono (Yt (fun b o e=>by
        obtain⟨n,e⟩:=zf e
        exact zt n (b3 b o e (by simp at n ⊢;exact n.1))))).snoc (ZM (sm.free ha) (zt (by simp [nap,nal]) ha3)) (ZM (sm.free hw) (zt (by simp [nwp,nwl]) hw3))
      have s3:zd H (upd H3 l (.lst (us++[.ref a]))):=fun b o e=>by
       rw [z8 (za e hl)]
       exact b3 b o (sm b o e) (by simpa using za e hp0)
      have hp4:upd H3 l (.lst (us++[.ref a])) p=some (.ins X.S.C dx (sf tx j1)):=by rw [z8 npl.symm];exact hp3
      refine⟨_,rfl,p,dx,_,rfl,hp4,rfl,p,tx,dx,t,j1,rfl,⟨hp4,s3 _ _ ht,ntp⟩,lej1,fun H5 j2 lej2 dj2 hp5 b5=>?_⟩
      have d3:=YW t j2
      have d4:=qJ blank (t.drop j1)
      rw [<-dj2,d3,dj1] at d4
      refine⟨j2,us++[.ref a],u++[x.1],rfl,by omega,lej2,by rw [List.length_append];show _+1<=_;omega,?_,?_,hp5,b5 l _ z7 (by simpa using npl),T3.mono (Yt fun b o e=>?_),fun b o e=>b5 b o (s3 b o e) (by simpa using za e hp0)⟩
      ·rw [dj2]
       have idem2:∀r:zl,(r.dropWhile blank).dropWhile blank=r.dropWhile blank:=by
        intro r
        induction r with
        | nil=>rfl
        | cons c r ih=>
         rw [List.dropWhile_cons]
         by_cases h:blank c=true
         ·rw [if_pos h];exact ih
         ·rw [if_neg h,List.dropWhile_cons,if_neg h]
       exact idem2 _
      ·rw [inv,tc,hx,dj2,Yr,dj1]
       dsimp only
       cases toks x.2 with
       | none=>rfl
       | some z=>show some (u++x.1::z)=some ((u++[x.1])++z);rw [List.append_assoc];rfl
      ·obtain⟨n,e⟩:=zf e
       exact zt n (b5 b o e (by simp at n ⊢;exact n.1))
     ·intro hx H3 b3
      refine ke ?_ H3 fun b o e=>b3 b o (sm b o e) (by simpa using za e hp0)
      rw [inv,tc,hx];rfl
   ·have:j=t.length:=by omega
    subst this
    rw [q0 (by omega)]
    refine zr ⟨_,rfl,?_⟩
    rw [List.drop_length,IZ] at inv
    have inv:toks t=some (u++[]):=inv
    rw [List.append_nil] at inv
    exact k u inv H' l us hl hl' (T.mono (Yt (yn _ _))) sm
end
end Hm
end
section
namespace Hm
open PySem PySem.Spec PyProof.Rows L2
open Vaheda (Hedge Token nodes append width)
abbrev sBInit:Stmt:=zK (top 64) 0
abbrev sBAdd:Stmt:=zK (top 64) 1
abbrev sBDown:Stmt:=zK (top 64) 2
abbrev sBUp:Stmt:=zK (top 64) 3
abbrev sBWhole:Stmt:=zK (top 64) 4
abbrev sRead:Stmt:=top 65
structure jD (K:PySem.W.Frag) (mg:Str->Option Value):Type where
 B:Cl K mg "Builder" ["rows","names","nodes"]
 init:Me K B.C "__init__" "Builder.__init__" sBInit ["self"]
 mk1:Mk K B.C init.f
 add:Me K B.C "add_tree" "Builder.add_tree" sBAdd ["self","leaf","word"]
 down:Me K B.C "go_down" "Builder.go_down" sBDown ["self"]
 up:Me K B.C "come_up" "Builder.come_up" sBUp ["self"]
 whole:Me K B.C "whole" "Builder.whole" sBWhole ["self"]
 read:Df K mg "read_hedge" sRead ["text"]
 mDepth:GlI mg "MOST_DEPTH" 40
 mNodes:GlI mg "MOST_NODES" 2000
def bf (R N:Addr) (n:Nat):List (Str×V):=[("rows",.ref R),("names",.ref N),("nodes",.int n)]
inductive BSt (C:Addr) (G H:Hp):List V->List V->List Addr->List (zl×Hedge)->Hedge->Prop where
 | base {r:Addr} {vs:List V} {cur:Hedge}:H r=some (.lst vs)->zm C G vs cur->BSt C G H [.ref r] [] [r] [] cur
 | push {rs ns:List V} {as:List Addr} {st:List (zl×Hedge)} {cur0 cur:Hedge} {r w:Addr} {vs:List V} {a:zl}:BSt C G H rs ns as st cur0->H r=some (.lst vs)->zm C G vs cur->G w=some (.lst (wds a)) ->
   BSt C G H (rs++[.ref r]) (ns++[.ref w]) (r::as) ((a,cur0)::st) cur
section
variable {C:Addr} {G G' H H':Hp} {rs ns vs vs':List V} {as:List Addr} {st:List (zl×Hedge)} {cur cur':Hedge}
theorem BSt.mono (B:BSt C G H rs ns as st cur) (s:zd G G') (e:∀a∈as,H' a=H a):BSt C G' H' rs ns as st cur:=by
 induction B with
 | base h f=>exact .base (by rw [e _ (by simp)];exact h) (f.mono s)
 | push b h f hw ih=>exact .push (ih fun a m=>e a (List.mem_cons_of_mem _ m)) (by rw [e _ (by simp)];exact h) (f.mono s) (s _ _ hw)
theorem BSt.live (B:BSt C G H rs ns as st cur):∀a∈as,H a≠none:=by
 induction B with
 | base h f=>intro a m;rw [List.mem_singleton.mp m,h];intro z;cases z
 | push b h f hw ih=>
  intro a m
  rcases List.mem_cons.mp m with m | m
  ·rw [m,h];intro z;cases z
  ·exact ih a m
theorem BSt.last (B:BSt C G H rs ns as st cur):∃r as' rs' vs,as=r::as'/\rs=rs'++[.ref r]/\H r=some (.lst vs)/\zm C G vs cur:=by
 cases B with
 | base h f=>exact⟨_,[],[],_,rfl,rfl,h,f⟩
 | push b h f hw=>exact⟨_,_,_,_,rfl,rfl,h,f⟩
theorem BSt.set {r:Addr} (B:BSt C G H rs ns (r::as) st cur) (s:zd G G') (e:∀a∈as,H' a=H a) (h':H' r=some (.lst vs')) (f':zm C G' vs' cur'):BSt C G' H' rs ns (r::as) st cur':=by
 cases B with
 | base h f=>exact .base h' f'
 | push b h f hw=>exact .push (b.mono s e) h' f' (s _ _ hw)
theorem BSt.lens (B:BSt C G H rs ns as st cur):rs.length=st.length+1/\ns.length=st.length:=by
 induction B with
 | base h f=>exact⟨rfl,rfl⟩
 | push b h f hw ih=>
  obtain⟨e1,e2⟩:=ih
  exact⟨by rw [List.length_append,e1];rfl,by rw [List.length_append,e2];rfl⟩
end
structure Bd (C CB:Addr) (H:Hp) (p:Addr) (M Mr:List Addr) (st:List (zl×Hedge)) (cur:Hedge) (n:Nat):Prop where
 ex:∃dx R Nn rs ns as,M=p::R::Nn::as/\M.Nodup/\(∀b∈M,b∉Mr)/\H p=some (.ins CB dx (bf R Nn n))/\H R=some (.lst rs)/\H Nn=some (.lst ns)/\BSt C (hid (M++Mr) H) H rs ns as st cur
 lv:∀b∈Mr,H b≠none
theorem Bd.live {C CB p:Addr} {H:Hp} {M Mr:List Addr} {st:List (zl×Hedge)} {cur:Hedge} {n:Nat} (B:Bd C CB H p M Mr st cur n):∀b∈M,H b≠none:=by
 obtain⟨dx,R,Nn,rs,ns,as,rfl,nd,n0,hp,hR,hN,S⟩:=B.ex
 intro b m
 rcases List.mem_cons.mp m with m | m
 ·rw [m,hp];intro z;cases z
 rcases List.mem_cons.mp m with m | m
 ·rw [m,hR];intro z;cases z
 rcases List.mem_cons.mp m with m | m
 ·rw [m,hN];intro z;cases z
 ·exact S.live b m
theorem Bd.same {C CB p:Addr} {H H':Hp} {M Mr:List Addr} {st:List (zl×Hedge)} {cur:Hedge} {n:Nat} (B:Bd C CB H p M Mr st cur n) (s:zd H H'):Bd C CB H' p M Mr st cur n:=by
 obtain⟨dx,R,Nn,rs,ns,as,e,nd,n0,hp,hR,hN,S⟩:=B.ex
 refine⟨⟨dx,R,Nn,rs,ns,as,e,nd,n0,s _ _ hp,s _ _ hR,s _ _ hN,S.mono ((But.of s).hid) fun a m=>?_⟩,fun b m=>?_⟩
 ·cases q:H a with
  | none=>exact absurd q (S.live a m)
  | some o=>exact s a o q
 ·obtain⟨o,q⟩:=zD (B.lv b m)
  rw [s _ _ q];intro z;cases z
theorem zd.made {C t dt:Addr} {H2 H4:Hp} (ht:H2 t=none) (hdt:H2 dt=none) (b:But [t] (upd (upd H2 dt (.own t)) t (.ins C dt [])) H4):zd H2 H4:=fun c o e=>
 b c o (by rw [z8 (za e ht),z8 (za e hdt)];exact e) (by simpa using za e ht)
def one1 (leaf:Bool) (w:zl):Hedge:=if leaf=true then .tx w .nil else .el w .nil .nil
def spBInit (C CB:Addr):Sp:=fun vs H Q _=>∃(p dx:Addr) (Mr:List Addr),vs=[.ref p]/\H p=some (.ins CB dx [])/\p∉Mr/\(∀b∈Mr,H b≠none)/\∀H' M,Bd C CB H' p M Mr [] .nil 0->(∀b∈M,b=p\/H b=none)->But [p] H H'->Q .non H'
def spBAdd (C CB NH:Addr):Sp:=fun vs H Q E=>∃(p w:Addr) (leaf:Bool) (word:zl) (M Mr:List Addr) (st:List (zl×Hedge)) (cur:Hedge) (n:Nat),vs=[.ref p,.bl leaf,.ref w]/\Bd C CB H p M Mr st cur n/\hid (M++Mr) H w=some (.lst (wds word))/\nodes cur<=2000 /\
 ((n<2000/\st.length<40)->∀H',Bd C CB H' p M Mr st (append cur (one1 leaf word)) (n+1)->But M H H'->Q .non H')/\(¬(n<2000/\st.length<40)->∀H',But M H H'->E (.ref NH) none H')
def spBDown (C CB:Addr):Sp:=fun vs H Q _=>∃(p:Addr) (M Mr:List Addr) (st:List (zl×Hedge)) (a:zl) (before:Hedge) (n:Nat),vs=[.ref p]/\Bd C CB H p M Mr st (append before (.el a .nil .nil)) n/\st.length<=40 /\
 ∀H' M',Bd C CB H' p M' Mr ((a,before)::st) .nil n->(∀b∈M',b∈M\/H b=none)->But M H H'->Q .non H'
def spBUp (C CB NH:Addr):Sp:=fun vs H Q E=>∃(p:Addr) (M Mr:List Addr) (st:List (zl×Hedge)) (cur:Hedge) (n:Nat),vs=[.ref p]/\Bd C CB H p M Mr st cur n/\nodes cur<=2000/\(∀ac∈st,nodes ac.2<=2000) /\
 (∀ac st',st=ac::st'->∀H' M',Bd C CB H' p M' Mr st' (append ac.2 (.el ac.1 cur .nil)) n->(∀b∈M',b∈M\/H b=none)->But M H H'->Q .non H')/\(st=[]->E (.ref NH) none H)
def spBWhole (C CB NH:Addr):Sp:=fun vs H Q E=>∃(p:Addr) (M Mr:List Addr) (st:List (zl×Hedge)) (cur:Hedge) (n:Nat),vs=[.ref p]/\Bd C CB H p M Mr st cur n /\
 (st=[]->∀l ts,H l=some (.lst ts)->l∈M->zm C (hid (M++Mr) H) ts cur->Q (.ref l) H)/\(st≠[]->E (.ref NH) none H)
theorem zm.snoc {C:Addr} {G:Hp}:∀{vs:List V} {b:Hedge} {a:zl},zm C G vs (Vaheda.append b (.el a .nil .nil))->∃vs' t,vs=vs'++[.ref t]/\zm C G vs' b/\xG C G t (.el a .nil .nil)
 | vs,.nil,a,F=>by
  have F:zm C G vs (.el a .nil .nil):=F
  obtain⟨t,r,rfl,T,F'⟩:=F.cons (by intro z;cases z)
  cases F'
  exact⟨[],t,rfl,.nil,T⟩
 | vs,.el n k m,a,F=>by
  have F:zm C G vs (.el n k (Vaheda.append m (.el a .nil .nil))):=F
  cases F with
  | el e1 e2 e3 f1 f2=>
   obtain⟨vs',t,rfl,F1,T⟩:=zm.snoc f2
   exact⟨_,t,rfl,.el e1 e2 e3 f1 F1,T⟩
 | vs,.tx n m,a,F=>by
  have F:zm C G vs (.tx n (Vaheda.append m (.el a .nil .nil))):=F
  cases F with
  | tx e1 e2 e3 f2=>
   obtain⟨vs',t,rfl,F1,T⟩:=zm.snoc f2
   exact⟨_,t,rfl,.tx e1 e2 e3 F1,T⟩
section
variable {P:Program} {w:World} {K:PySem.W.Frag} {mg:Str->Option Value} {base:Heap}
theorem scBInit:zh ["self"] ["self"] (zg sBInit):=⟨rfl,rfl,rfl,by decide +kernel,rfl,by decide +kernel,by decide +kernel⟩
theorem scBAdd:zh ["self","leaf","word"] ["self","leaf","word"] (zg sBAdd):=⟨rfl,rfl,rfl,by decide +kernel,rfl,by decide +kernel,by decide +kernel⟩
theorem scBDown:zh ["self"] ["self"] (zg sBDown):=⟨rfl,rfl,rfl,by decide +kernel,rfl,by decide +kernel,by decide +kernel⟩
theorem scBUp:zh ["self","kids"] ["self"] (zg sBUp):=⟨rfl,rfl,rfl,by decide +kernel,rfl,by decide +kernel,by decide +kernel⟩
theorem scBWhole:zh ["self"] ["self"] (zg sBWhole):=⟨rfl,rfl,rfl,by decide +kernel,rfl,by decide +kernel,by decide +kernel⟩
theorem za0 (X:jD K mg) (C:Addr):zj P w K mg base CX0 1 X.init.f X.init.fd ["self"] (spBInit C X.B.C):=by
 refine X.init.F.ok scBInit (fun vs H Q E h=>?_) (fun cdv A outer s H vs Q E hr h=>?_)
 ·obtain⟨_,_,_,rfl,_⟩:=h
  rfl
 ·obtain⟨p,dx,Mr,rfl,hp,pMr,lvr,k⟩:=h
  refine⟨_,z9 (zZ (pv 0) (zM (z6 (zM zb) zb)) rfl) (z9 (zZ (pv 0) (zM zb) rfl) (zc (zZ (pv 0) zi rfl))),?_⟩
  refine⟨Nat.zero_le _,fun r hr0=>⟨(by show 1<=sizeLine;decide),fun R hR0=>?_⟩⟩
  have npr:p≠r:=za hp hr0
  have h1:upd H r (.lst []) p=some (.ins X.B.C dx []):=by rw [z8 npr];exact hp
  have npR:p≠R:=za h1 hR0
  have nrR:r≠R:=za (z7 (H:=H) (a:=r)) hR0
  have hR1:H R=none:=by rw [z8 nrR.symm] at hR0;exact hR0
  refine⟨_,rfl,p,X.B.C,dx,_,rfl,by rw [z8 npR];exact h1,X.B.c,X.B.n,(by show 0<1000;decide),?_⟩
  refine⟨Nat.zero_le _,fun Nn hN0=>?_⟩
  have npN:p≠Nn:=fun z=>by rw [<-z,z7] at hN0;cases hN0
  have hN1:=hN0
  rw [z8 npN.symm] at hN1
  have nRN:R≠Nn:=za (z7 (a:=R)) hN1
  have hN2:=hN1
  rw [z8 nRN.symm] at hN2
  have nrN:r≠Nn:=za (z7 (H:=H) (a:=r)) hN2
  have hN3:H Nn=none:=by rw [z8 nrN.symm] at hN2;exact hN2
  refine⟨_,rfl,p,X.B.C,dx,_,rfl,by rw [z8 npN,z7],X.B.c,X.B.n,(by show 1<1000;decide),?_⟩
  refine⟨_,rfl,p,X.B.C,dx,_,rfl,z7,X.B.c,X.B.n,(by show 2<1000;decide),?_⟩
  have bH:But [p] H (upd (upd (upd (upd (upd (upd H r (.lst [])) R (.lst [.ref r])) p (.ins X.B.C dx (y4 "rows" (.ref R) []))) Nn (.lst [])) p (.ins X.B.C dx (y4 "names" (.ref Nn) (y4 "rows" (.ref R) [])))) p (.ins X.B.C dx (y4 "nodes" (.int 0) (y4 "names" (.ref Nn) (y4 "rows" (.ref R) []))))):=fun b o e n=>by
   have n:b≠p:=by simpa using n
   rw [z8 n,z8 n,z8 (za e hN3),z8 n,z8 (za e hR1),z8 (za e hr0)]
   exact e
  refine k _ [p,R,Nn,r] ⟨⟨dx,R,Nn,_,_,[r],rfl,?_,?_,z7,?_,?_,.base ?_ .nil⟩,?_⟩ ?_ bH
  ·simp [npr,npR,npN,nRN,nrR.symm,nrN.symm]
  ·intro b m z
   simp only [List.mem_cons,List.not_mem_nil,or_false] at m
   rcases m with m | m | m | m
   ·exact pMr (by rw [<-m];exact z)
   ·exact lvr b z (by rw [m];exact hR1)
   ·exact lvr b z (by rw [m];exact hN3)
   ·exact lvr b z (by rw [m];exact hr0)
  ·rw [z8 npR.symm,z8 npR.symm,z8 nRN,z8 npR.symm,z7]
  ·rw [z8 npN.symm,z8 npN.symm,z7]
  ·rw [z8 npr.symm,z8 npr.symm,z8 nrN,z8 npr.symm,z8 nrR,z7]
  ·intro b m
   obtain⟨o,q⟩:=zD (lvr b m)
   have nb:b≠p:=fun z=>pMr (by rw [<-z];exact m)
   rw [bH b o q (by simpa using nb)];intro z;cases z
  ·intro b m
   simp only [List.mem_cons,List.not_mem_nil,or_false] at m
   rcases m with m | m | m | m
   ·exact .inl m
   ·exact .inr (by rw [m];exact hR1)
   ·exact .inr (by rw [m];exact hN3)
   ·exact .inr (by rw [m];exact hr0)
theorem Ox (X:jD K mg) (S:yf K mg) (C:Addr):zj P w K mg base (CXE P w) 1 X.whole.f X.whole.fd ["self"] (spBWhole C X.B.C S.NoHedge):=by
 refine X.whole.F.okx scBWhole (fun vs H Q E h=>?_) (fun cdv A outer s H vs Q E hr h=>?_)
 ·obtain⟨_,_,_,_,_,_,rfl,_⟩:=h
  rfl
 ·obtain⟨p,M,Mr,st,cur,n,rfl,B,k,ke⟩:=h
  refine⟨_,z9 (zR (zV (ze (pv 0) rfl) (fun _=>rfl)) (zc (yN xc rfl rfl S.nh S.nhX)) zE) (zc (zn (zN zA (ze (pv 0) rfl) zi (fun _ _=>rfl)))),?_⟩
  obtain⟨dx,R,Nn,rs,ns,as,rfl,nd,n0,hp,hR,hN,B⟩:=B.ex
  refine⟨_,rfl,p,X.B.C,dx,_,_,rfl,hp,X.B.c,X.B.n,rfl,_,YX (SqL.of hN),?_⟩
  cases B with
  | @base r vs cur hr f=>
   refine zr ?_
   refine⟨_,rfl,p,X.B.C,dx,_,_,rfl,hp,X.B.c,X.B.n,rfl,R,_,_,_,rfl,rfl,SqL.of hR,zp (j:=0) rfl,?_⟩
   exact k rfl r vs hr (by simp) f
  | @push rs ns as st cur0 cur r w vs a b h f hw=>
   rw [show(ns++[V.ref w]).isEmpty=false by cases ns <;> rfl]
   exact zu (ke (by intro z;cases z))
theorem zar (X:jD K mg) (S:yf K mg) (T:zw K mg):zj P w K mg base (CXE P w) 4 X.add.f X.add.fd ["self","leaf","word"] (spBAdd T.T.C X.B.C S.NoHedge):=by
 have GT:=Js (P:=P) (w:=w) (base:=base) T
 refine X.add.F.okx scBAdd (fun vs H Q E h=>?_) (fun cdv A outer s H vs Q E hr h=>?_)
 ·obtain⟨_,_,_,_,_,_,_,_,_,rfl,_⟩:=h
  rfl
 ·obtain⟨p,w',leaf,word,M,Mr,st,cur,n,rfl,B,hw,cz,k,ke⟩:=h
  have lv:=B.live
  have lvr:=B.lv
  refine⟨_,z9 (yj (pv 0) zi x5)
   (z9 (zR (qK (zx JY (ze (pv 0) rfl) (zP X.mNodes) (zG _)) (qA (zx JY (zU zF (by rfl) S.nlen PySem.boot_len (z6 (ze (pv 0) rfl) zb)) (zP X.mDepth) (zG _)))).pt (zc (yN xc rfl rfl S.nh S.nhX)) zE)
   (zc (zz (yK PySem.F.plainAttrs_list PySem.F.slot_list_append PySem.F.type_list_append yc (zN zA (ze (pv 0) rfl) (j5 xy zi) (fun _ _=>rfl))
    (z6 (xr T.mk1 GT hr rfl T.T.g T.init.b .nil zk (z6 (pv 1) (z6 (pv 2) (z6 (zM zb) zb)))) zb))))),?_⟩
  obtain⟨dx,R,Nn,rs,ns,as,rfl,nd,n0,hp,hR,hN,B⟩:=B.ex
  obtain⟨el,el2⟩:=B.lens
  obtain⟨r,as',rs',vs,rfl,rfl,hr,f⟩:=B.last
  simp only [List.nodup_cons,List.mem_cons,not_or] at nd
  obtain⟨⟨npR,npN,npr,npa⟩,⟨nRN,nRr,nRa⟩,⟨nNr,nNa⟩,nra,nd'⟩:=nd
  refine⟨_,rfl,p,X.B.C,dx,_,_,rfl,hp,X.B.c,X.B.n,rfl,_,_,rfl,rfl,dx,_,hp,(by show 3<1000;decide),?_⟩
  rw [show y4 "nodes" (V.int ((n:Nat)+1:Int)) (bf R Nn n)=bf R Nn (n+1) from rfl]
  have b1:But (p::R::Nn::r::as') H (upd H p (.ins X.B.C dx (bf R Nn (n+1)))):=But.upd (by simp)
  have hp1:upd H p (.ins X.B.C dx (bf R Nn (n+1))) p=some (.ins X.B.C dx (bf R Nn (n+1))):=z7
  have hR1:upd H p (.ins X.B.C dx (bf R Nn (n+1))) R=some (.lst (rs'++[.ref r])):=by rw [z8 (Ne.symm npR)];exact hR
  refine⟨_,rfl,p,X.B.C,dx,_,_,rfl,hp1,X.B.c,X.B.n,rfl,_,_,rfl,rfl,_,rfl,?_⟩
  by_cases c1:(2000:Int)<((n+1:Nat):Int)
  ·rw [decide_eq_true c1]
   exact zu (zu (ke (by omega) _ b1))
  rw [decide_eq_false c1]
  refine zr ⟨_,rfl,p,X.B.C,dx,_,_,rfl,hp1,X.B.c,X.B.n,rfl,R,_,rfl,.inl (SqL.of hR1),_,_,rfl,rfl,_,rfl,?_⟩
  rw [el]
  by_cases c2:(40:Int)<((st.length+1:Nat):Int)
  ·rw [decide_eq_true c2]
   exact zu (ke (by omega) _ b1)
  rw [decide_eq_false c2]
  refine zr ?_
  have hr1:upd H p (.ins X.B.C dx (bf R Nn (n+1))) r=some (.lst vs):=by rw [z8 (Ne.symm npr)];exact hr
  refine⟨_,rfl,p,X.B.C,dx,_,_,rfl,hp1,X.B.c,X.B.n,rfl,_,rfl,R,_,_,_,rfl,rfl,SqL.of hR1,J8 _ _,.inl ⟨rfl,_,SqL.of hr1⟩,_,rfl,_,rfl,Nat.zero_le _,fun k0 hk0=>?_⟩
  intro t dt ht hdt ndt
  have nkt:k0≠t:=za (z7 (a:=k0)) ht
  have nkd:k0≠dt:=za (z7 (a:=k0)) hdt
  refine⟨t,dt,w',k0,leaf,[],.nil,rfl,z7,by rw [z8 nkt,z8 nkd,z7],nkt,.nil,(by show 0<sizeLine;decide),fun H4 ht4 b4=>⟨rfl,?_⟩⟩
  have s4:=(zd.new (o:=.lst []) hk0).trans (zd.made ht hdt b4)
  have hk4:H4 k0=some (.lst []):=zd.made ht hdt b4 _ _ z7
  have ht1:upd H p (.ins X.B.C dx (bf R Nn (n+1))) t=none:=(zd.new (o:=.lst []) hk0).free ht
  have vl:=f.len
  have wl:=yo cur
  have hr4:=s4 _ _ hr1
  refine⟨r,vs,.ref t,rfl,rfl,hr4,?_,?_⟩
  ·have:sizeLine=16777216:=sizeLine_eq
   omega
  have b4':But (p::R::Nn::r::as') H (upd H4 r (.lst (vs++[.ref t]))):=(b1.trans (But.of s4)).trans (But.upd (by simp))
  have lv1:∀b∈p::R::Nn::r::as',upd H p (.ins X.B.C dx (bf R Nn (n+1))) b≠none:=fun b m=>by
   by_cases z:b=p
   ·rw [z,z7];intro y;cases y
   ·rw [z8 z];exact lv b m
  have tM:t∉p::R::Nn::r::as':=fun z=>lv1 t z ht1
  have kM:k0∉p::R::Nn::r::as':=fun z=>lv1 k0 z hk0
  have tr:t≠r:=fun z=>tM (by simp [z])
  have kr:k0≠r:=fun z=>kM (by simp [z])
  have b4r:=(b4'.mono (N:=(p::R::Nn::r::as')++Mr) (fun b m=>List.mem_append_left _ m)).hid
  have tMr:t∉Mr:=fun z=>by
   obtain⟨o,q⟩:=zD (lvr t z)
   rw [b1 _ _ q (fun y=>n0 t y z)] at ht1;cases ht1
  have kMr:k0∉Mr:=fun z=>by
   obtain⟨o,q⟩:=zD (lvr k0 z)
   rw [b1 _ _ q (fun y=>n0 k0 y z)] at hk0;cases hk0
  refine k ⟨by omega,by omega⟩ _ ⟨⟨dx,R,Nn,_,_,r::as',rfl,?_,n0,?_,?_,?_,B.set b4r (fun a m=>?_) z7 (zm.append (f.mono b4r) ?_)⟩,fun b m=>?_⟩ b4'
  ·simp only [List.nodup_cons,List.mem_cons,not_or]
   exact⟨⟨npR,npN,npr,npa⟩,⟨nRN,nRr,nRa⟩,⟨nNr,nNa⟩,nra,nd'⟩
  ·rw [z8 npr];exact s4 _ _ hp1
  ·rw [z8 nRr];exact s4 _ _ hR1
  ·rw [z8 nNr];exact s4 _ _ (by rw [z8 (Ne.symm npN)];exact hN)
  ·have nar:a≠r:=fun z=>nra (by rw [<-z];exact m)
   have nap:a≠p:=fun z=>npa (by rw [<-z];exact m)
   rw [z8 nar]
   cases q:H a with
   | none=>exact absurd q (lv a (by simp [m]))
   | some o=>exact s4 a o (by rw [z8 nap];exact q)
  ·have e1:hid ((p::R::Nn::r::as')++Mr) (upd H4 r (.lst (vs++[.ref t]))) t=some (.ins T.T.C dt (tf leaf w' k0 1)):=zt (fun z=>(List.mem_append.mp z).elim tM tMr) (by rw [z8 tr];exact ht4)
   have e2:hid ((p::R::Nn::r::as')++Mr) (upd H4 r (.lst (vs++[.ref t]))) w'=some (.lst (wds word)):=b4r _ _ hw
   have e3:hid ((p::R::Nn::r::as')++Mr) (upd H4 r (.lst (vs++[.ref t]))) k0=some (.lst []):=zt (fun z=>(List.mem_append.mp z).elim kM kMr) (by rw [z8 kr];exact hk4)
   cases leaf with
   | true=>exact .tx e1 e2 e3 .nil
   | false=>exact .el e1 e2 e3 .nil .nil
  ·obtain⟨o,q⟩:=zD (lvr b m)
   rw [b4' _ _ q (fun y=>n0 b y m)];intro z;cases z
end
end Hm
end
section
namespace Hm
open PySem PySem.Spec PyProof.Rows L2
open Vaheda (Hedge Token nodes append width)
theorem Zd {α:Type} (l:List α) (x:α):(l++[x])[(l++[x]).length - 1]? = some x:=by
 rw [List.length_append,List.length_singleton,Nat.add_sub_cancel,List.getElem?_append_right (Nat.le_refl _),Nat.sub_self]
 rfl
section
variable {P:Program} {w:World} {K:PySem.W.Frag} {mg:Str->Option Value} {base:Heap}
theorem za5 (X:jD K mg) (T:zw K mg):zj P w K mg base CX0 1 X.down.f X.down.fd ["self"] (spBDown T.T.C X.B.C):=by
 refine X.down.F.ok scBDown (fun vs H Q E h=>?_) (fun cdv A outer s H vs Q E hr h=>?_)
 ·obtain⟨_,_,_,_,_,_,_,rfl,_⟩:=h
  rfl
 ·obtain⟨p,M,Mr,st,a,before,n,rfl,B,sz,k⟩:=h
  have lv:=B.live
  have lvr:=B.lv
  have hz:sizeLine=16777216:=sizeLine_eq
  refine⟨_,z9 (zz (yK PySem.F.plainAttrs_list PySem.F.slot_list_append PySem.F.type_list_append yc (ze (pv 0) rfl)
    (z6 (ze (Ub PySem.F.plainAttrs_list PySem.F.slot_list_pop PySem.F.type_list_pop Uu (zN zA (ze (pv 0) rfl) (j5 xy zi) (fun _ _=>rfl))) rfl) zb)))
   (zc (zz (yK PySem.F.plainAttrs_list PySem.F.slot_list_append PySem.F.type_list_append yc (ze (pv 0) rfl) (z6 (zM zb) zb)))),?_⟩
  obtain⟨dx,R,Nn,rs,ns,as,rfl,nd,n0,hp,hR,hN,B⟩:=B.ex
  obtain⟨el,el2⟩:=B.lens
  obtain⟨r,as',rs',vs,rfl,rfl,hr,f⟩:=B.last
  obtain⟨vs',t,rfl,f',T1⟩:=f.snoc
  obtain⟨⟨dt,w1,k1,ks,a1,a2,a3,f1⟩,ne⟩:=T1
  have nd0:=nd
  simp only [List.nodup_cons,List.mem_cons,not_or] at nd
  obtain⟨⟨npR,npN,npr,npa⟩,⟨nRN,nRr,nRa⟩,⟨nNr,nNa⟩,nra,nd'⟩:=nd
  obtain⟨tM,a1'⟩:=zf a1
  have tM:t∉p::R::Nn::r::as':=fun z=>tM (List.mem_append_left _ z)
  simp only [List.mem_cons,not_or] at tM
  obtain⟨ntp,ntR,ntN,ntr,nta⟩:=tM
  refine⟨_,rfl,p,X.B.C,dx,_,_,rfl,hp,X.B.c,X.B.n,rfl,.inl ⟨rfl,_,SqL.of hN⟩,?_⟩
  refine⟨_,rfl,p,X.B.C,dx,_,_,rfl,hp,X.B.c,X.B.n,rfl,_,rfl,R,_,_,_,rfl,rfl,SqL.of hR,J8 _ _,.inl ⟨rfl,_,SqL.of hr⟩,r,_,_,rfl,rfl,hr,Zd _ _,?_⟩
  rw [List.dropLast_concat]
  refine⟨t,T.T.C,dt,_,_,rfl,by rw [z8 ntr];exact a1',T.T.c,T.T.n,rfl,Nn,ns,_,rfl,rfl,by rw [z8 nNr];exact hN,by omega,?_⟩
  have hp2:upd (upd H r (.lst vs')) Nn (.lst (ns++[.ref w1])) p=some (.ins X.B.C dx (bf R Nn n)):=by rw [z8 npN,z8 npr];exact hp
  have hR2:upd (upd H r (.lst vs')) Nn (.lst (ns++[.ref w1])) R=some (.lst (rs'++[.ref r])):=by rw [z8 nRN,z8 nRr];exact hR
  refine⟨_,rfl,p,X.B.C,dx,_,_,rfl,hp2,X.B.c,X.B.n,rfl,.inl ⟨rfl,_,SqL.of hR2⟩,Nat.zero_le _,fun r2 hr2=>?_⟩
  have b2:But (p::R::Nn::r::as') H (upd (upd H r (.lst vs')) Nn (.lst (ns++[.ref w1]))):=(But.upd (by simp)).trans (But.upd (by simp))
  have lv2:∀b∈p::R::Nn::r::as',upd (upd H r (.lst vs')) Nn (.lst (ns++[.ref w1])) b≠none:=fun b m=>by
   by_cases z:b=Nn
   ·rw [z,z7];intro y;cases y
   ·rw [z8 z]
    by_cases z:b=r
    ·rw [z,z7];intro y;cases y
    ·rw [z8 z];exact lv b m
  have r2M:r2∉p::R::Nn::r::as':=fun z=>lv2 r2 z hr2
  have r2H:H r2=none:=b2.none lv2 hr2
  have r2M':=r2M
  simp only [List.mem_cons,not_or] at r2M'
  obtain⟨n2p,n2R,n2N,n2r,n2a⟩:=r2M'
  refine⟨R,_,_,rfl,rfl,by rw [z8 (Ne.symm n2R),z8 nRN,z8 nRr];exact hR,by rw [el];omega,?_⟩
  have b4:But (p::R::Nn::r::as') H (upd (upd (upd (upd H r (.lst vs')) Nn (.lst (ns++[.ref w1]))) r2 (.lst [])) R (.lst ((rs'++[.ref r])++[.ref r2]))):=(b2.trans (But.new hr2)).trans (But.upd (by simp))
  have mm:∀b∈p::R::Nn::r2::r::as',b∈p::R::Nn::r::as'\/H b=none:=fun b m=>by
   simp only [List.mem_cons] at m ⊢
   rcases m with m | m | m | m | m | m
   ·exact .inl (.inl m)
   ·exact .inl (.inr (.inl m))
   ·exact .inl (.inr (.inr (.inl m)))
   ·exact .inr (by rw [m];exact r2H)
   ·exact .inl (.inr (.inr (.inr (.inl m))))
   ·exact .inl (.inr (.inr (.inr (.inr m))))
  have s4:zd (hid ((p::R::Nn::r::as')++Mr) H) (hid ((p::R::Nn::r2::r::as')++Mr) (upd (upd (upd (upd H r (.lst vs')) Nn (.lst (ns++[.ref w1]))) r2 (.lst [])) R (.lst ((rs'++[.ref r])++[.ref r2])))):=
   (b4.mono (fun b m=>List.mem_append_left _ m)).hidM fun b m=>by
    rcases List.mem_append.mp m with m | m
    ·rcases mm b m with y | y
     ·exact .inl (List.mem_append_left _ y)
     ·exact .inr y
    ·exact .inl (List.mem_append_right _ m)
  refine k _ (p::R::Nn::r2::r::as') ⟨⟨dx,R,Nn,_,_,r2::r::as',rfl,?_,fun b m=>?_,?_,z7,?_,.push (B.set (vs':=vs') s4 (fun b m=>?_) ?_ (f'.mono s4)) ?_ .nil (s4 _ _ a2)⟩,fun b m=>?_⟩ mm b4
  ·simp only [List.nodup_cons,List.mem_cons,not_or]
   exact⟨⟨npR,npN,Ne.symm n2p,npr,npa⟩,⟨nRN,Ne.symm n2R,nRr,nRa⟩,⟨Ne.symm n2N,nNr,nNa⟩,⟨n2r,n2a⟩,nra,nd'⟩
  ·rcases mm b m with y | y
   ·exact n0 b y
   ·exact fun q=>lvr b q y
  ·rw [z8 npR,z8 (Ne.symm n2p),z8 npN,z8 npr];exact hp
  ·rw [z8 (Ne.symm nRN),z8 (Ne.symm n2N),z7]
  ·have nbR:b≠R:=fun z=>nRa (by rw [<-z];exact m)
   have nb2:b≠r2:=fun z=>n2a (by rw [<-z];exact m)
   have nbN:b≠Nn:=fun z=>nNa (by rw [<-z];exact m)
   have nbr:b≠r:=fun z=>nra (by rw [<-z];exact m)
   rw [z8 nbR,z8 nb2,z8 nbN,z8 nbr]
  ·rw [z8 (Ne.symm nRr),z8 (Ne.symm n2r),z8 (Ne.symm nNr),z7]
  ·rw [z8 n2R,z7]
  ·obtain⟨o,q⟩:=zD (lvr b m)
   rw [b4 _ _ q (fun y=>n0 b y m)];intro z;cases z
theorem zcb (X:jD K mg) (S:yf K mg) (T:zw K mg):zj P w K mg base (CXE P w) 4 X.up.f X.up.fd ["self"] (spBUp T.T.C X.B.C S.NoHedge):=by
 have GT:=Js (P:=P) (w:=w) (base:=base) T
 refine X.up.F.okx scBUp (fun vs H Q E h=>?_) (fun cdv A outer s H vs Q E hr h=>?_)
 ·obtain⟨_,_,_,_,_,_,rfl,_⟩:=h
  rfl
 ·obtain⟨p,M,Mr,st,cur,n,rfl,B,cz,sz,k,ke⟩:=h
  have lv:=B.live
  have lvr:=B.lv
  have hz:sizeLine=16777216:=sizeLine_eq
  refine⟨_,z9 (zR (JA (zV (ze (pv 0) rfl) (fun _=>rfl))) (zc (yN xc rfl rfl S.nh S.nhX)) zE)
   (z9 (zy (i:=1) scBUp.nd rfl (Or.inl rfl) (Ub PySem.F.plainAttrs_list PySem.F.slot_list_pop PySem.F.type_list_pop Uu (ze (pv 0) rfl)))
   (zc (zz (yK PySem.F.plainAttrs_list PySem.F.slot_list_append PySem.F.type_list_append yc (zN zA (ze (pv 0) rfl) (j5 xy zi) (fun _ _=>rfl))
    (z6 (xr T.mk1 GT hr rfl T.T.g T.init.b .nil zk (z6 ZC (z6 (Ub PySem.F.plainAttrs_list PySem.F.slot_list_pop PySem.F.type_list_pop Uu (ze (pv 0) rfl)) (z6 (pv 1) zb)))) zb))))),?_⟩
  obtain⟨dx,R,Nn,rs,ns,as,rfl,nd,n0,hp,hR,hN,B⟩:=B.ex
  refine⟨_,rfl,p,X.B.C,dx,_,_,rfl,hp,X.B.c,X.B.n,rfl,_,YX (SqL.of hN),?_⟩
  cases B with
  | @base r vs cur hr f=>exact zu (ke rfl)
  | @push rs ns as st cur0 cur r w vs a B0 h f hw=>
   have ee:(ns++[V.ref w]).isEmpty=false:=by cases ns <;> rfl
   rw [ee]
   refine zr ?_
   obtain⟨el,el2⟩:=B0.lens
   obtain⟨r0,as',rs',vs0,rfl,rfl,hr0,f0⟩:=B0.last
   have nd0:=nd
   simp only [List.nodup_cons,List.mem_cons,not_or] at nd
   obtain⟨⟨npR,npN,npr,npr0,npa⟩,⟨nRN,nRr,nRr0,nRa⟩,⟨nNr,nNr0,nNa⟩,⟨nrr0,nra⟩,nr0a,nd'⟩:=nd
   refine⟨_,rfl,p,X.B.C,dx,_,_,rfl,hp,X.B.c,X.B.n,rfl,.inl ⟨rfl,_,SqL.of hR⟩,R,_,_,rfl,rfl,hR,Zd _ _,?_⟩
   rw [List.dropLast_concat]
   have hR1:upd H R (.lst (rs'++[.ref r0])) R=some (.lst (rs'++[.ref r0])):=z7
   have hp1:upd H R (.lst (rs'++[.ref r0])) p=some (.ins X.B.C dx (bf R Nn n)):=by rw [z8 npR];exact hp
   have hN1:upd H R (.lst (rs'++[.ref r0])) Nn=some (.lst (ns++[.ref w])):=by rw [z8 (Ne.symm nRN)];exact hN
   refine⟨_,rfl,p,X.B.C,dx,_,_,rfl,hp1,X.B.c,X.B.n,rfl,_,rfl,R,_,_,_,rfl,rfl,SqL.of hR1,J8 _ _,.inl ⟨rfl,_,SqL.of (by rw [z8 (Ne.symm nRr0)];exact hr0)⟩,?_⟩
   refine⟨_,rfl,p,X.B.C,dx,_,_,rfl,hp1,X.B.c,X.B.n,rfl,.inl ⟨rfl,_,SqL.of hN1⟩,Nn,_,_,rfl,rfl,hN1,Zd _ _,?_⟩
   rw [List.dropLast_concat]
   refine⟨_,rfl,fun t dt ht hdt ndt=>?_⟩
   have b2:But (p::R::Nn::r::r0::as') H (upd (upd H R (.lst (rs'++[.ref r0]))) Nn (.lst ns)):=(But.upd (by simp)).trans (But.upd (by simp))
   have lv2:∀b∈p::R::Nn::r::r0::as',upd (upd H R (.lst (rs'++[.ref r0]))) Nn (.lst ns) b≠none:=fun b m=>by
    by_cases z:b=Nn
    ·rw [z,z7];intro y;cases y
    ·rw [z8 z]
     by_cases z:b=R
     ·rw [z,z7];intro y;cases y
     ·rw [z8 z];exact lv b m
   have tM:t∉p::R::Nn::r::r0::as':=fun z=>lv2 t z ht
   have tH:H t=none:=b2.none lv2 ht
   have dM:dt∉p::R::Nn::r::r0::as':=fun z=>lv2 dt z hdt
   have tM':=tM
   have dM':=dM
   simp only [List.mem_cons,not_or] at tM' dM'
   obtain⟨ntp,ntR,ntN,ntr,ntr0,nta⟩:=tM'
   have hr2:upd (upd H R (.lst (rs'++[.ref r0]))) Nn (.lst ns) r=some (.lst vs):=by rw [z8 (Ne.symm nNr),z8 (Ne.symm nRr)];exact h
   have hr02:upd (upd H R (.lst (rs'++[.ref r0]))) Nn (.lst ns) r0=some (.lst vs0):=by rw [z8 (Ne.symm nNr0),z8 (Ne.symm nRr0)];exact hr0
   refine⟨t,dt,w,r,false,vs,cur,rfl,z7,by rw [z8 (Ne.symm ntr),z8 (Ne.symm dM'.2.2.2.1)];exact hr2,Ne.symm ntr,f.mono (fun b o e=>?_),by omega,fun H4 ht4 b4=>⟨rfl,?_⟩⟩
   ·obtain⟨nb,e⟩:=zf e
    have nb:b∉p::R::Nn::r::r0::as':=fun z=>nb (List.mem_append_left _ z)
    have nbt:b≠t:=za e tH
    have e2:=b2 b o e nb
    exact zt (by simpa using nbt) (by rw [z8 nbt,z8 (za e2 hdt)];exact e2)
   have s4:=zd.made ht hdt b4
   have hr04:=s4 _ _ hr02
   have vl:=f0.len
   have wl:=yo cur0
   have sz0:=sz (a,cur0) (by simp)
   refine⟨r0,vs0,.ref t,rfl,rfl,hr04,by dsimp only at sz0;omega,?_⟩
   have b5:But (p::R::Nn::r::r0::as') H (upd H4 r0 (.lst (vs0++[.ref t]))):=(b2.trans (But.of s4)).trans (But.upd (by simp))
   have mm:∀b∈p::R::Nn::r0::as',b∈p::R::Nn::r::r0::as'\/H b=none:=fun b m=>by
    simp only [List.mem_cons] at m ⊢
    rcases m with m | m | m | m
    ·exact .inl (.inl m)
    ·exact .inl (.inr (.inl m))
    ·exact .inl (.inr (.inr (.inl m)))
    ·exact .inl (.inr (.inr (.inr (.inr m))))
   have s5:zd (hid ((p::R::Nn::r::r0::as')++Mr) H) (hid ((p::R::Nn::r0::as')++Mr) (upd H4 r0 (.lst (vs0++[.ref t])))):=
    (b5.mono (fun b m=>List.mem_append_left _ m)).hidM fun b m=>by
     rcases List.mem_append.mp m with m | m
     ·rcases mm b m with y | y
      ·exact .inl (List.mem_append_left _ y)
      ·exact .inr y
     ·exact .inl (List.mem_append_right _ m)
   have tMr:t∉Mr:=fun z=>lvr t z tH
   have rMr:r∉Mr:=n0 r (by simp)
   refine k (a,cur0) st rfl _ (p::R::Nn::r0::as') ⟨⟨dx,R,Nn,_,_,r0::as',rfl,?_,fun b m=>?_,?_,?_,?_,B0.set s5 (fun b m=>?_) z7 (zm.append (f0.mono s5) ?_)⟩,fun b m=>?_⟩ mm b5
   ·simp only [List.nodup_cons,List.mem_cons,not_or]
    exact⟨⟨npR,npN,npr0,npa⟩,⟨nRN,nRr0,nRa⟩,⟨nNr0,nNa⟩,nr0a,nd'⟩
   ·rcases mm b m with y | y
    ·exact n0 b y
    ·exact fun q=>lvr b q y
   ·rw [z8 npr0];exact s4 _ _ (by rw [z8 npN];exact hp1)
   ·rw [z8 nRr0];exact s4 _ _ (by rw [z8 nRN];exact hR1)
   ·rw [z8 nNr0];exact s4 _ _ z7
   ·have nbr:b≠r0:=fun z=>nr0a (by rw [<-z];exact m)
    have nbR:b≠R:=fun z=>nRa (by rw [<-z];exact m)
    have nbN:b≠Nn:=fun z=>nNa (by rw [<-z];exact m)
    rw [z8 nbr]
    cases q:H b with
    | none=>exact absurd q (lv b (by simp [m]))
    | some o=>exact s4 b o (by rw [z8 nbN,z8 nbR];exact q)
   ·refine .el (zt (by simp [ntp,ntR,ntN,ntr0,nta,tMr]) (by rw [z8 ntr0];exact ht4)) (s5 _ _ hw) (zt ?_ ?_) (f.mono s5) .nil
    ·simp [Ne.symm npr,Ne.symm nRr,Ne.symm nNr,nrr0,nra,rMr]
    ·rw [z8 nrr0];exact s4 _ _ hr2
   ·obtain⟨o,q⟩:=zD (lvr b m)
    rw [b5 _ _ q (fun y=>n0 b y m)];intro z;cases z
end
end Hm
end
section
namespace Hm
open PySem PySem.Spec PyProof.Rows L2
open Vaheda (Hedge Token nodes append width deep readText)
theorem j7.get {G:Hp} {vs:List V} {ts:List Token} (T:j7 G vs ts):∀{i:Nat} {v:V},vs[i]? = some v->∃a w tk,v=.ref a/\ts.drop i=tk::ts.drop (i+1)/\G a=some (.tup [.int (kindN tk),.ref w])/\G w=some (.lst (wds (tword tk))):=by
 induction T with
 | nil=>intro i v e;simp at e
 | @cons a w tk r ts h1 h2 _ ih=>
  intro i v e
  cases i with
  | zero=>exact⟨a,w,tk,(Option.some.inj e).symm,rfl,h1,h2⟩
  | succ i=>exact ih e
def spRead (C NH:Addr):Sp:=fun vs H Q E=>∃(tx:Addr) (t:zl) (Mr:List Addr),vs=[.ref tx]/\H tx=some (.lst (wds t))/\t.length<sizeLine/\(∀b∈Mr,H b≠none) /\
 (∀h,toO id (readText t)=some h->yi Wok h->deep h<=40->nodes h<=2000->∀H' l ts,H l=none->H' l=some (.lst ts)->zm C (hid Mr H') ts h->zd H H'->Q (.ref l) H')/\(toO id (readText t)=none->∀H',zd H H'->E (.ref NH) none H')
theorem Iy {st:List (zl×Hedge)} {ac:zl×Hedge} (m:ac∈st):nodes ac.2<=qu st:=by
 induction st with
 | nil=>cases m
 | cons x st ih=>
  show nodes ac.2<=1+nodes x.2+qu st
  rcases List.mem_cons.mp m with m | m
  ·rw [m];omega
  ·have:=ih m;omega
section
variable {P:Program} {w:World} {K:PySem.W.Frag} {mg:Str->Option Value} {base:Heap}
theorem scRead:zh ["text","builder","kind_before","token","kind"] ["text"] (zg sRead):=⟨rfl,rfl,rfl,by decide +kernel,rfl,by decide +kernel,by decide +kernel⟩
theorem zbe (X:jD K mg) (S:yf K mg) (W:y9 K mg) (T:zw K mg):zj P w K mg base (CXE P w) 6 X.read.f X.read.fd ["text"] (spRead T.T.C S.NoHedge):=by
 have GI:=za0 (P:=P) (w:=w) (base:=base) X T.T.C
 have GC:=zcx (P:=P) (w:=w) (base:=base) S W
 have GA:=zar (P:=P) (w:=w) (base:=base) X S T
 have GD:=za5 (P:=P) (w:=w) (base:=base) X T
 have GU:=zcb (P:=P) (w:=w) (base:=base) X S T
 have GW:=Ox (P:=P) (w:=w) (base:=base) X S T.T.C
 refine X.read.F.okx scRead (fun vs H Q E h=>?_) (fun cdv A outer s H vs Q E hr h=>?_)
 ·obtain⟨_,_,_,rfl,_⟩:=h
  rfl
 ·obtain⟨tx,t,Mr,rfl,ht,lz,lvr,k,ke⟩:=h
  have hr1:zJ 1 _:=hr.mono (by decide)
  have hr2:zJ 2 _:=hr.mono (by decide)
  have hr4:zJ 4 _:=hr.mono (by decide)
  refine⟨_,z9 (zy (i:=1) scRead.nd rfl (Or.inl rfl) (U4 X.mk1 GI hr2 rfl X.B.g X.init.b .nil zk))
   (z9 (zy (i:=2) scRead.nd rfl (Or.inl rfl) (zP S.kUp))
   (z9 (xF PassesOwn.leaving rfl (jh (zC GC hr (by rfl) S.cut.m S.cut.F.kp S.cut.b .nil yh (z6 (pv 0) zb))) (yA (i:=3) scRead.nd rfl (Or.inl rfl))
    (z9 (zy (i:=4) scRead.nd rfl (Or.inl rfl) (zN Zw (pv 3) zi (fun _ _=>rfl)))
    (z9 (zR (zx xO (pv 4) (zP S.kDown) (zG _))
     (z9 (zR (zx YG (pv 2) (zP S.kName) (zG _)) (zc (yN xc rfl rfl S.nh S.nhX)) zE)
      (zc (zz (zS (pv 1) X.B.c X.down.m GD hr1 X.down.b .nil zk))))
     (zc (zR (zx xO (pv 4) (zP S.kUp) (zG _)) (zc (zz (zS (pv 1) X.B.c X.up.m GU hr4 X.up.b .nil yh)))
      (zc (zz (zT (pv 1) X.B.c X.add.m GA hr4 X.add.b .nil yh (z6 (JC xO (pv 4) (zP S.kLeaf) (zG _)) (z6 (zN Zw (pv 3) zi (fun _ _=>rfl)) zb))))))))
    (zc (zy (i:=2) scRead.nd rfl (Or.inl rfl) (pv 4))))))
   (zc (zn (zS (pv 1) X.B.c X.whole.m GW hr1 X.whole.b .nil yh))))),?_⟩
  intro p dx hp hdx ndx
  have sI:zd H (upd (upd H dx (.own p)) p (.ins X.B.C dx [])):=(zd.new hdx).trans (zd.new (by rw [z8 (Ne.symm ndx)];exact hp))
  refine⟨p,dx,Mr,rfl,z7,fun z=>lvr p z hp,fun b m=>?_,fun H1 M1 B1 m1 b1=>⟨rfl,?_⟩⟩
  ·obtain⟨o,q⟩:=zD (lvr b m)
   rw [sI _ _ q];intro z;cases z
  have s1:zd H H1:=zd.made hp hdx b1
  have m1':∀b∈M1,H b=none:=fun b m=>by
   rcases m1 b m with z | z
   ·rw [z];exact hp
   ·cases q:H b with
    | none=>rfl
    | some o=>rw [z8 (za q hp),z8 (za q hdx),q] at z;cases z
  refine⟨_,rfl,tx,t,rfl,s1 _ _ ht,lz,?_,?_⟩
  ·intro ts hts H2 l vs' hl hl2 T2 s2
   have rs:=OE hts
   have tok:=zbb hts
   have lMr:∀{x:Addr},H1 x=none->x∉M1++Mr:=fun {x} hx z=>by
    rcases List.mem_append.mp z with z | z
    ·exact B1.live x z hx
    ·exact B1.lv x z hx
   have lM:=lMr hl
   refine⟨l,rfl,⟨_,SqL.of hl2⟩,jq (K:=K) (a:=l) (xs:=vs') (fun i σ H'=>∃(kb:Int) (v3 v4:Option V) (st:List (zl×Hedge)) (cur:Hedge) (n:Nat) (pv:Option (zl×Hedge)) (M:List Addr),
     σ=[some (.ref tx),some (.ref p),some (.int kb),v3,v4]/\yG ts [] .nil 0 none=yG (ts.drop i) st cur n pv/\(kb=0↔pv≠none)/\MOk st cur n pv/\Bd T.T.C X.B.C H' p M Mr st cur n/\hid (M++Mr) H' l=some (.lst vs')/\j7 (hid (M++Mr) H') vs' ts/\zd H H'/\∀b∈M,H b=none)
    ⟨3,none,none,[],.nil,0,none,M1,rfl,rfl,⟨fun z=>(by cases z),fun z=>absurd rfl z⟩,MOk.start,B1.same s2,zt lM hl2,T2.mono (fun b o e=>?_),s1.trans s2,m1'⟩ (fun i σ H' _ ⟨_,_,_,_,_,_,_,_,_,_,_,_,_,hl',_⟩=>SqL.of (zf hl').2) ?_ ?_⟩
   ·obtain⟨n,e⟩:=Vk e
    exact zt (lMr n) e
   ·rintro i x σ H' hi ⟨kb,v3,v4,st,cur,n,pv,M,rfl,inv,kbi,mok,B,hl',TT,sm,mM⟩
    obtain⟨a,w',tk,rfl,dr,ha,hw⟩:=TT.get hi
    have tkm:tk∈ts:=List.mem_of_mem_drop (i:=i) (by rw [dr];simp)
    have tko:=tok tk tkm
    obtain⟨naM,ha'⟩:=zf ha
    have nn:=mok.n_
    have nm:=mok.m
    rw [dr] at inv
    refine⟨_,rfl,a,_,_,_,rfl,rfl,SqT.of ha',zp (j:=0) rfl,_,rfl,rfl,_,rfl,?_⟩
    obtain⟨dx',hp'⟩:∃dx R Nn n,H' p=some (.ins X.B.C dx (bf R Nn n)):=by
     obtain⟨dx,R,Nn,_,_,_,_,_,_,h,_⟩:=B.ex
     exact⟨dx,R,Nn,n,h⟩
    obtain⟨R',Nn',n',hp'⟩:=hp'
    have hMr:∀(H3:Hp) (M3:List Addr),(∀b∈M3,b∈M\/H' b=none)->But M H' H3->zd (hid (M++Mr) H') (hid (M3++Mr) H3):=fun H3 M3 mm b3=>
     (b3.mono (fun b m=>List.mem_append_left _ m)).hidM fun b m=>by
      rcases List.mem_append.mp m with m | m
      ·rcases mm b m with y | y
       ·exact .inl (List.mem_append_left _ y)
       ·exact .inr y
      ·exact .inl (List.mem_append_right _ m)
    have nxt:∀(H3:Hp) (M3:List Addr),(∀b∈M3,b∈M\/H' b=none)->But M H' H3->hid (M3++Mr) H3 l=some (.lst vs')/\j7 (hid (M3++Mr) H3) vs' ts/\zd H H3/\∀b∈M3,H b=none:=fun H3 M3 mm b3=>
     ⟨hMr H3 M3 mm b3 _ _ hl',TT.mono (hMr H3 M3 mm b3),fun b o e=>b3 b o (sm b o e) (fun z=>by rw [mM b z] at e;cases e),fun b z=>by
      rcases mm b z with q | q
      ·exact mM b q
      ·exact sm.free q⟩
    cases tk with
    | bad f=>exact absurd tko id
    | open_=>
     refine zu ?_
     refine⟨_,rfl,rfl,_,rfl,?_⟩
     cases pv with
     | none=>
      have kn:¬kb=0:=fun z=>(kbi.mp z) rfl
      rw [decide_eq_false (show ¬V.int kb=V.int 0 from fun z=>kn (V.int.inj z))]
      refine zu (ke ?_ _ sm)
      rw [rs,inv];rfl
     | some ac=>
      have kn:kb=0:=kbi.mpr (by intro z;cases z)
      rw [kn]
      refine zr ?_
      obtain⟨ec,el⟩:=mok.p_ ac rfl
      rw [ec] at B
      refine⟨_,rfl,p,dx',_,rfl,hp',rfl,p,M,Mr,st,ac.1,ac.2,n,rfl,B,by omega,fun H3 M3 B3 mm b3=>?_⟩
      obtain⟨q1,q2,q3,q4⟩:=nxt H3 M3 mm b3
      exact⟨_,rfl,2,_,_,ac::st,.nil,n,none,M3,rfl,inv,⟨fun z=>(by cases z),fun z=>absurd rfl z⟩,mok.opened,B3,q1,q2,q3,q4⟩
    | close=>
     refine zr ?_
     refine⟨_,rfl,rfl,_,rfl,zu ?_⟩
     refine⟨_,rfl,p,dx',_,rfl,hp',rfl,p,M,Mr,st,cur,n,rfl,B,by omega,fun ac m=>by have:=Iy m;omega,?_,?_⟩
     ·rintro ac st' rfl H3 M3 B3 mm b3
      obtain⟨q1,q2,q3,q4⟩:=nxt H3 M3 mm b3
      exact⟨_,rfl,3,_,_,st',_,n,none,M3,rfl,inv,⟨fun z=>(by cases z),fun z=>absurd rfl z⟩,mok.closed,B3,q1,q2,q3,q4⟩
     ·rintro rfl
      refine ke ?_ _ sm
      rw [rs,inv];rfl
    | word b=>
     refine zr ?_
     refine⟨_,rfl,rfl,_,rfl,zr ?_⟩
     refine⟨_,rfl,p,dx',_,rfl,hp',rfl,_,rfl,rfl,_,rfl,a,_,_,_,rfl,rfl,SqT.of ha',zp (j:=1) rfl,p,w',false,b,M,Mr,st,cur,n,rfl,B,hw,by omega,?_,?_⟩
     ·intro c H3 B3 b3
      obtain⟨q1,q2,q3,q4⟩:=nxt H3 M (fun b z=>.inl z) b3
      refine⟨_,rfl,0,_,_,st,_,n+1,some (b,cur),M,rfl,?_,⟨fun z=>(by intro y;cases y),fun z=>rfl⟩,mok.word c tko,B3,q1,q2,q3,q4⟩
      rw [inv]
      show(if n<2000/\st.length<40 then _ else none)=_
      rw [if_pos c]
     ·intro c H3 b3
      refine ke ?_ _ (nxt H3 M (fun b z=>.inl z) b3).2.2.1
      rw [rs,inv]
      show(if n<2000/\st.length<40 then _ else none)=_
      rw [if_neg c]
    | leaf b=>
     refine zr ?_
     refine⟨_,rfl,rfl,_,rfl,zr ?_⟩
     refine⟨_,rfl,p,dx',_,rfl,hp',rfl,_,rfl,rfl,_,rfl,a,_,_,_,rfl,rfl,SqT.of ha',zp (j:=1) rfl,p,w',true,b,M,Mr,st,cur,n,rfl,B,hw,by omega,?_,?_⟩
     ·intro c H3 B3 b3
      obtain⟨q1,q2,q3,q4⟩:=nxt H3 M (fun b z=>.inl z) b3
      refine⟨_,rfl,1,_,_,st,_,n+1,none,M,rfl,?_,⟨fun z=>(by cases z),fun z=>absurd rfl z⟩,mok.leaf c tko,B3,q1,q2,q3,q4⟩
      rw [inv]
      show(if n<2000/\st.length<40 then _ else none)=_
      rw [if_pos c]
     ·intro c H3 b3
      refine ke ?_ _ (nxt H3 M (fun b z=>.inl z) b3).2.2.1
      rw [rs,inv]
      show(if n<2000/\st.length<40 then _ else none)=_
      rw [if_neg c]
   ·rintro σ H' ⟨kb,v3,v4,st,cur,n,pv,M,rfl,inv,kbi,mok,B,hl',TT,sm,mM⟩
    have vl:=TT.len
    rw [vl,List.drop_length] at inv
    have inv:yG ts [] .nil 0 none=if st.isEmpty=true then some cur else none:=inv
    obtain⟨dx',R',Nn',hp'⟩:∃dx R Nn,H' p=some (.ins X.B.C dx (bf R Nn n)):=by
     obtain⟨dx,R,Nn,_,_,_,_,_,_,h,_⟩:=B.ex
     exact⟨dx,R,Nn,h⟩
    refine⟨_,rfl,p,dx',_,rfl,hp',rfl,p,M,Mr,st,cur,n,rfl,B,?_,?_⟩
    ·rintro rfl l0 ts0 h0 m0 F0
     have rd:toO id (readText t)=some cur:=by rw [rs,inv];rfl
     have fn:=qB ts [] .nil 0 none cur tok MOk.start (by rw [inv];rfl)
     exact k cur rd fn.1 fn.2.1 fn.2.2 H' l0 ts0 (mM l0 m0) h0 (F0.mono fun x o e=>by obtain⟨nx,e⟩:=zf e;exact zt (fun z=>nx (List.mem_append_right _ z)) e) sm
    ·intro ne
     refine ke ?_ _ sm
     rw [rs,inv]
     cases st with
     | nil=>exact absurd rfl ne
     | cons _ _=>rfl
  ·intro hn H2 s2
   exact ke (Oq hn) H2 (s1.trans s2)
end
end Hm
end
section
namespace Hm
open PySem PySem.Spec PyProof.Rows L2
open Vaheda (Hedge nodes append width deep children saying dropTrees)
abbrev sGInit:Stmt:=zK (top 15) 0
abbrev sGLast:Stmt:=zK (top 15) 1
abbrev sGBefore:Stmt:=zK (top 15) 2
abbrev sGPair:Stmt:=zK (top 15) 3
abbrev sGFirst:Stmt:=zK (top 15) 4
abbrev sInner:Stmt:=top 16
structure ym (K:PySem.W.Frag) (mg:Str->Option Value):Type where
 G:Cl K mg "Grid" ["lead","old","new","inner","costs"]
 init:Me K G.C "__init__" "Grid.__init__" sGInit ["self","old","new"]
 mk1:Mk K G.C init.f
 last:Me K G.C "last_costs" "Grid.last_costs" sGLast ["self"]
 before:Me K G.C "costs_before" "Grid.costs_before" sGBefore ["self","i"]
 pair:Me K G.C "pair_cost" "Grid.pair_cost" sGPair ["self","i","j"]
 first:Me K G.C "first_step" "Grid.first_step" sGFirst ["self","i","j"]
 inner:Df K mg "inner_grid" sInner ["one","other"]
 kPair:GlI mg "PAIR" 0
 kDrop:GlI mg "DROP" 1
 kPut:GlI mg "PUT" 2
 nlen:mg "len"=none
 nmin:mg "min"=none
 nrange:mg "range"=none
theorem Ut:∀(n:Nat) (h g:Hedge),n<=zI h g->D h g=D (dropTrees n h) (dropTrees n g)
 | 0,h,g,_=>by rw [zL,zL]
 | n+1,h,g,e=>by
  have hh:h≠.nil:=fun z=>by rw [z,ji] at e;omega
  have hg:g≠.nil:=fun z=>by rw [z,qm] at e;omega
  by_cases q:hd h=hd g
  ·obtain⟨q1,q2,q3⟩:=(JO hh hg).mp q
   rw [xm hh hg q] at e
   have s:∀(x:Hedge),x≠.nil->dropTrees (n+1) x=dropTrees n (tl x):=fun x hx=>by
    cases x with
    | nil=>exact absurd rfl hx
    | el a k m=>rfl
    | tx a m=>rfl
   rw [(JU hh hg q1 q2 q3).1,Ut n (tl h) (tl g) (by omega),s h hh,s g hg]
  ·rw [xM q] at e;omega
theorem JG:∀(h g:Hedge),zI h g<=width h/\zI h g<=width g
 | .nil,g=>by rw [ji];exact⟨Nat.zero_le _,Nat.zero_le _⟩
 | .el a k n,g=>by
  by_cases q:hd (.el a k n)=hd g
  ·have hg:g≠.nil:=fun z=>by rw [z] at q;cases q
   have:=JG n (tl g)
   rw [xm (by intro z;cases z) hg q]
   have w1:width (Hedge.el a k n)=1+width n:=rfl
   have w2:width g=1+width (tl g):=by
    cases g with
    | nil=>exact absurd rfl hg
    | el b j m=>rfl
    | tx u m=>rfl
   have t1:tl (Hedge.el a k n)=n:=rfl
   rw [w1,w2,t1]
   omega
  ·rw [xM q];exact⟨Nat.zero_le _,Nat.zero_le _⟩
 | .tx a n,g=>by
  by_cases q:hd (.tx a n)=hd g
  ·have hg:g≠.nil:=fun z=>by rw [z] at q;cases q
   have:=JG n (tl g)
   rw [xm (by intro z;cases z) hg q]
   have w1:width (Hedge.tx a n)=1+width n:=rfl
   have w2:width g=1+width (tl g):=by
    cases g with
    | nil=>exact absurd rfl hg
    | el b j m=>rfl
    | tx u m=>rfl
   have t1:tl (Hedge.tx a n)=n:=rfl
   rw [w1,w2,t1]
   omega
  ·rw [xM q];exact⟨Nat.zero_le _,Nat.zero_le _⟩
theorem xj:∀(i:Nat) (h:Hedge),nodes (dropTrees i h)<=nodes h
 | 0,h=>by rw [zL];exact Nat.le_refl _
 | i+1,h=>by
  rw [zo]
  have:=xj i h
  have:=ya (dropTrees i h)
  omega
theorem ja {i:Nat} {h:Hedge} (e:width h<=i):dropTrees i h=.nil:=by
 have:=xp i h
 exact yO.mp (by omega)
def gf (l o n q c:Addr):List (Str×V):=[("lead",.ref l),("old",.ref o),("new",.ref n),("inner",.ref q),("costs",.ref c)]
def oV:Option Addr->V
 | none=>.non
 | some a=>.ref a
def yS (h g:Hedge) (i:Nat):List V:=(List.range (width g+1)).map fun j=>V.int (D (dropTrees i h) (dropTrees j g))
theorem qp (h g:Hedge) (i:Nat):(yS h g i).length=width g+1:=by unfold yS;rw [List.length_map,List.length_range]
theorem yx {h g:Hedge} {i j:Nat} (e:j<=width g):(yS h g i)[j]? = some (V.int (D (dropTrees i h) (dropTrees j g))):=by
 unfold yS
 rw [List.getElem?_map,List.getElem?_range (by omega)]
 rfl
inductive xz (C CG:Addr) (G:Hp):Addr->Hedge->Hedge->Prop where
 | mk {a dx l o n q c:Addr} {h g h' g':Hedge} {hs gs qs cs:List V} (inn:Nat->Nat->Option Addr) :
   h'=dropTrees (zI h g) h->g'=dropTrees (zI h g) g ->
   G a=some (.ins CG dx (gf l o n q c))->zm C G hs h->zm C G gs g ->
   G l=some (.lst (gs.take (zI h g)))->G o=some (.lst (hs.drop (zI h g)))->G n=some (.lst (gs.drop (zI h g))) ->
   G q=some (.lst qs)->(∀i,i<width h'->∃r xs,qs[i]? = some (.ref r)/\G r=some (.lst xs)/\∀j,j<width g'->xs[j]? = some (oV (inn i j))) ->
   (∀i j,i<width h'->j<width g'->(inn i j=none↔(children (dropTrees i h')=.nil\/children (dropTrees j g')=.nil))) ->
   (∀i j b,i<width h'->j<width g'->inn i j=some b->xz C CG G b (children (dropTrees i h')) (children (dropTrees j g'))) ->
   G c=some (.lst cs)->(∀i,i<=width h'->∃r,cs[i]? = some (.ref r)/\G r=some (.lst (yS h' g' i)))->xz C CG G a h g
structure jw (C CG:Addr) (H:Hp) (p dx l o n q c:Addr) (h g:Hedge) (inn:Nat->Nat->Option Addr):Prop where
 hp:H p=some (.ins CG dx (gf l o n q c))
 ho:∃os,H o=some (.lst os)/\zm C H os h
 hn:∃ns,H n=some (.lst ns)/\zm C H ns g
 hq:∃qs,H q=some (.lst qs)/\∀i,i<width h->∃r xs,qs[i]? = some (.ref r)/\H r=some (.lst xs)/\∀j,j<width g->xs[j]? = some (oV (inn i j))
 hi:∀i j,i<width h->j<width g->(inn i j=none↔(children (dropTrees i h)=.nil\/children (dropTrees j g)=.nil))
 hg:∀i j b,i<width h->j<width g->inn i j=some b->xz C CG H b (children (dropTrees i h)) (children (dropTrees j g))
def CostsAt (H:Hp) (c:Addr) (h g:Hedge) (k:Nat):Prop:=∃cs,H c=some (.lst cs)/\cs.length=width h+1/\∀i,k<=i->i<=width h->∃r,cs[i]? = some (.ref r)/\H r=some (.lst (yS h g i))
section
variable {C CG:Addr} {G G':Hp}
theorem xz.mono {a:Addr} {h g:Hedge} (A:xz C CG G a h g) (s:zd G G'):xz C CG G' a h g:=by
 induction A with
 | mk inn e1 e2 ha fh fg hl ho hn hq hqr hi hg hc hcr ih=>
  refine .mk inn e1 e2 (s _ _ ha) (fh.mono s) (fg.mono s) (s _ _ hl) (s _ _ ho) (s _ _ hn) (s _ _ hq) (fun i hi=>?_) hi ih (s _ _ hc) (fun i hi=>?_)
  ·obtain⟨r,xs,q1,q2,q3⟩:=hqr i hi
   exact⟨r,xs,q1,s _ _ q2,q3⟩
  ·obtain⟨r,q1,q2⟩:=hcr i hi
   exact⟨r,q1,s _ _ q2⟩
theorem jw.mono {p dx l o n q c:Addr} {h g:Hedge} {inn:Nat->Nat->Option Addr} (A:jw C CG G p dx l o n q c h g inn) (s:zd G G'):jw C CG G' p dx l o n q c h g inn:=by
 obtain⟨hp,⟨os,ho,fo⟩,⟨ns,hn,fn⟩,⟨qs,hq,hqr⟩,hi,hg⟩:=A
 refine⟨s _ _ hp,⟨os,s _ _ ho,fo.mono s⟩,⟨ns,s _ _ hn,fn.mono s⟩,⟨qs,s _ _ hq,fun i hi=>?_⟩,hi,fun i j b h1 h2 h3=>(hg i j b h1 h2 h3).mono s⟩
 obtain⟨r,xs,q1,q2,q3⟩:=hqr i hi
 exact⟨r,xs,q1,s _ _ q2,q3⟩
theorem xz.mid {a:Addr} {h g:Hedge} (A:xz C CG G a h g):∃dx l o n q c inn gs,jw C CG G a dx l o n q c (dropTrees (zI h g) h) (dropTrees (zI h g) g) inn/\(∃cs,G c=some (.lst cs)/\∀i,i<=width (dropTrees (zI h g) h)->∃r,cs[i]? = some (.ref r)/\G r=some (.lst (yS (dropTrees (zI h g) h) (dropTrees (zI h g) g) i))) /\
  G l=some (.lst (gs.take (zI h g)))/\zm C G gs g:=by
 cases A with
 | @mk _ dx l o n q c _ _ _ _ hs gs qs cs inn e1 e2 ha fh fg hl ho hn hq hqr hi hg hc hcr=>
  subst e1 e2
  exact⟨dx,l,o,n,q,c,inn,gs,⟨ha,⟨_,ho,fh.drop _⟩,⟨_,hn,fg.drop _⟩,⟨qs,hq,hqr⟩,hi,hg⟩,⟨cs,hc,hcr⟩,hl,fg⟩
theorem xz.cost {a:Addr} {h g:Hedge} (A:xz C CG G a h g):∃dx l o n q c cs r,G a=some (.ins CG dx (gf l o n q c))/\G c=some (.lst cs)/\cs[0]? = some (.ref r)/\∃xs,G r=some (.lst xs)/\xs[0]? = some (V.int (D h g)):=by
 obtain⟨dx,l,o,n,q,c,inn,gs,A,⟨cs,hc,hcr⟩,_,_⟩:=A.mid
 obtain⟨r,q1,q2⟩:=hcr 0 (Nat.zero_le _)
 refine⟨dx,l,o,n,q,c,cs,r,A.hp,hc,q1,_,q2,?_⟩
 rw [yx (Nat.zero_le _),zL,zL,<-Ut _ _ _ (Nat.le_refl _)]
end
def spGLast (C CG:Addr):Sp:=fun vs H Q _=>∃(p dx l o n q c:Addr) (h g:Hedge) (ns:List V),vs=[.ref p]/\H p=some (.ins CG dx (gf l o n q c))/\H n=some (.lst ns)/\zm C H ns g/\nodes g<=2000 /\
 ∀H' r,H r=none->H' r=some (.lst (yS h g (width h)))->zd H H'->Q (.ref r) H'
def spGPair (C CG:Addr):Sp:=fun vs H Q _=>∃(p dx l o n q c:Addr) (h g:Hedge) (inn:Nat->Nat->Option Addr) (i j:Nat),vs=[.ref p,.int i,.int j]/\jw C CG H p dx l o n q c h g inn/\i<width h/\j<width g /\
 Q (.int (pc (dropTrees i h) (dropTrees j g))) H
def spGBefore (C CG:Addr):Sp:=fun vs H Q _=>∃(p dx l o n q c:Addr) (h g:Hedge) (inn:Nat->Nat->Option Addr) (i:Nat),vs=[.ref p,.int i]/\jw C CG H p dx l o n q c h g inn/\i<width h/\CostsAt H c h g (i+1)/\nodes g<=2000 /\
 ∀H' r,H r=none->H' r=some (.lst (yS h g i))->zd H H'->Q (.ref r) H'
section
variable {P:Program} {w:World} {K:PySem.W.Frag} {mg:Str->Option Value} {base:Heap}
theorem scGLast:zh ["self","line","j"] ["self"] (zg sGLast):=⟨rfl,rfl,rfl,by decide +kernel,rfl,by decide +kernel,by decide +kernel⟩
theorem jo:zh ["self","i","drop","after","line","j","least"] ["self","i"] (zg sGBefore):=⟨rfl,rfl,rfl,by decide +kernel,rfl,by decide +kernel,by decide +kernel⟩
theorem scGPair:zh ["self","i","j","one","other","renewed","inner"] ["self","i","j"] (zg sGPair):=⟨rfl,rfl,rfl,by decide +kernel,rfl,by decide +kernel,by decide +kernel⟩
theorem scGFirst:zh ["self","i","j","cost"] ["self","i","j"] (zg sGFirst):=⟨rfl,rfl,rfl,by decide +kernel,rfl,by decide +kernel,by decide +kernel⟩
theorem scInner:zh ["one","other"] ["one","other"] (zg sInner):=⟨rfl,rfl,rfl,by decide +kernel,rfl,by decide +kernel,by decide +kernel⟩
theorem VM (X:ym K mg) (T:zw K mg):zj P w K mg base CX0 1 X.pair.f X.pair.fd ["self","i","j"] (spGPair T.T.C X.G.C):=by
 refine X.pair.F.ok scGPair (fun vs H Q E h=>?_) (fun cdv A outer s H vs Q E hr h=>?_)
 ·obtain⟨_,_,_,_,_,_,_,_,_,_,_,_,rfl,_⟩:=h
  rfl
 ·obtain⟨p,dx,l,o,n,q,c,h,g,inn,i,j,rfl,M,li,lj,k⟩:=h
  refine⟨_,z9 (zy (i:=3) scGPair.nd rfl (Or.inl rfl) (zN zA (ze (pv 0) rfl) (pv 1) (fun _ _=>rfl)))
   (z9 (zy (i:=4) scGPair.nd rfl (Or.inl rfl) (zN zA (ze (pv 0) rfl) (pv 2) (fun _ _=>rfl)))
   (z9 (zy (i:=5) scGPair.nd rfl (Or.inl rfl) (jL (zx (zbv hr.units) (ze (pv 3) rfl) (ze (pv 4) rfl) (zG _)) zi zi))
   (z9 (zy (i:=6) scGPair.nd rfl (Or.inl rfl) (zN zA (zN zA (ze (pv 0) rfl) (pv 1) (fun _ _=>rfl)) (pv 2) (fun _ _=>rfl)))
   (z9 (zR (zx qa (pv 6) xB (zG _)) (zc (zn (yb qF (yb yC (yb yC (pv 5) (ze (pv 3) rfl)) (ze (pv 4) rfl)) zi))) zE)
   (zc (zn (yb yC (pv 5) (zN zA (zN zA (ze (pv 6) rfl) zi (fun _ _=>rfl)) zi (fun _ _=>rfl))))))))),?_⟩
  obtain⟨hp,⟨os,ho,fo⟩,⟨ns,hn,fn⟩,⟨qs,hq,hqr⟩,hi,hg⟩:=M
  have ol:=fo.len
  have nl:=fn.len
  obtain⟨v1,hv1⟩:∃v,os[i]? = some v:=⟨_,List.getElem?_eq_getElem (by omega)⟩
  obtain⟨v2,hv2⟩:∃v,ns[j]? = some v:=⟨_,List.getElem?_eq_getElem (by omega)⟩
  obtain⟨t1,rfl,⟨⟨d1,w1,k1,ks1,a1,a2,a3,a4⟩,ne1⟩⟩:=fo.get hv1
  obtain⟨t2,rfl,⟨⟨d2,w2,k2,ks2,b1,b2,b3,b4⟩,ne2⟩⟩:=fn.get hv2
  refine⟨_,rfl,p,X.G.C,dx,_,_,rfl,hp,X.G.c,X.G.n,rfl,_,rfl,o,os,_,_,rfl,rfl,SqL.of ho,zp hv1,?_⟩
  refine⟨_,rfl,p,X.G.C,dx,_,_,rfl,hp,X.G.c,X.G.n,rfl,_,rfl,n,ns,_,_,rfl,rfl,SqL.of hn,zp hv2,?_⟩
  refine⟨_,rfl,t1,T.T.C,d1,_,_,rfl,a1,T.T.c,T.T.n,rfl,_,rfl,t2,T.T.C,d2,_,_,rfl,b1,T.T.c,T.T.n,rfl,rEqW a2 b2 ⟨_,rfl,?_⟩⟩
  obtain⟨r,xs,q1,q2,q3⟩:=hqr i li
  have q3:=q3 j lj
  have pce:((pc (dropTrees i h) (dropTrees j g):Nat):Int)=(if saying (dropTrees i h)=saying (dropTrees j g) then (0:Int) else 1)+(D (children (dropTrees i h)) (children (dropTrees j g)):Nat):=by
   unfold pc
   split <;> simp
  have nd1:=yT ne1
  have nd2:=yT ne2
  cases e:inn i j with
  | none=>
   rw [e] at q3
   have z:=(hi i j li lj).mp e
   have De:D (children (dropTrees i h)) (children (dropTrees j g))=nodes (children (dropTrees i h))+nodes (children (dropTrees j g)):=by
    rcases z with z | z
    ·rw [z,qO];show _=0+_;omega
    ·rw [z,D_r];show _=_+0;omega
   by_cases c:saying (dropTrees i h)=saying (dropTrees j g)
   ·rw [if_pos c] at pce
    rw [decide_eq_true c]
    refine zu ?_
    refine⟨_,rfl,p,X.G.C,dx,_,_,rfl,hp,X.G.c,X.G.n,rfl,_,rfl,q,qs,_,_,rfl,rfl,SqL.of hq,zp q1,_,rfl,r,xs,_,_,rfl,rfl,SqL.of q2,zp q3,?_⟩
    refine⟨_,rfl,rfl,_,rfl,zu ?_⟩
    refine⟨_,rfl,_,rfl,t1,T.T.C,d1,_,_,rfl,a1,T.T.c,T.T.n,rfl,_,_,rfl,rfl,_,rfl,t2,T.T.C,d2,_,_,rfl,b1,T.T.c,T.T.n,rfl,_,_,rfl,rfl,_,_,rfl,rfl,?_⟩
    rw [pce,De] at k
    show Q (V.int ((0:Int)+((nodes (hd (dropTrees i h)):Nat):Int)+((nodes (hd (dropTrees j g)):Nat):Int) - 2)) H
    rw [show(0:Int)+((nodes (hd (dropTrees i h)):Nat):Int)+((nodes (hd (dropTrees j g)):Nat):Int) - 2=0+((nodes (children (dropTrees i h))+nodes (children (dropTrees j g)):Nat):Int) by omega]
    exact k
   ·rw [if_neg c] at pce
    rw [decide_eq_false c]
    refine zr ?_
    refine⟨_,rfl,p,X.G.C,dx,_,_,rfl,hp,X.G.c,X.G.n,rfl,_,rfl,q,qs,_,_,rfl,rfl,SqL.of hq,zp q1,_,rfl,r,xs,_,_,rfl,rfl,SqL.of q2,zp q3,?_⟩
    refine⟨_,rfl,rfl,_,rfl,zu ?_⟩
    refine⟨_,rfl,_,rfl,t1,T.T.C,d1,_,_,rfl,a1,T.T.c,T.T.n,rfl,_,_,rfl,rfl,_,rfl,t2,T.T.C,d2,_,_,rfl,b1,T.T.c,T.T.n,rfl,_,_,rfl,rfl,_,_,rfl,rfl,?_⟩
    rw [pce,De] at k
    show Q (V.int ((1:Int)+((nodes (hd (dropTrees i h)):Nat):Int)+((nodes (hd (dropTrees j g)):Nat):Int) - 2)) H
    rw [show(1:Int)+((nodes (hd (dropTrees i h)):Nat):Int)+((nodes (hd (dropTrees j g)):Nat):Int) - 2=1+((nodes (children (dropTrees i h))+nodes (children (dropTrees j g)):Nat):Int) by omega]
    exact k
  | some b=>
   rw [e] at q3
   obtain⟨dx',l',o',n',q',c',cs',r',z1,z2,z3,xs',z4,z5⟩:=(hg i j b li lj e).cost
   by_cases c:saying (dropTrees i h)=saying (dropTrees j g)
   ·rw [if_pos c] at pce
    rw [decide_eq_true c]
    refine zu ?_
    refine⟨_,rfl,p,X.G.C,dx,_,_,rfl,hp,X.G.c,X.G.n,rfl,_,rfl,q,qs,_,_,rfl,rfl,SqL.of hq,zp q1,_,rfl,r,xs,_,_,rfl,rfl,SqL.of q2,zp q3,?_⟩
    refine⟨_,rfl,rfl,_,rfl,zr ?_⟩
    refine⟨_,rfl,_,rfl,b,X.G.C,dx',_,_,rfl,z1,X.G.c,X.G.n,rfl,c',cs',_,_,rfl,rfl,SqL.of z2,zp (j:=0) z3,r',xs',_,_,rfl,rfl,SqL.of z4,zp (j:=0) z5,_,_,rfl,rfl,?_⟩
    rw [pce] at k
    exact k
   ·rw [if_neg c] at pce
    rw [decide_eq_false c]
    refine zr ?_
    refine⟨_,rfl,p,X.G.C,dx,_,_,rfl,hp,X.G.c,X.G.n,rfl,_,rfl,q,qs,_,_,rfl,rfl,SqL.of hq,zp q1,_,rfl,r,xs,_,_,rfl,rfl,SqL.of q2,zp q3,?_⟩
    refine⟨_,rfl,rfl,_,rfl,zr ?_⟩
    refine⟨_,rfl,_,rfl,b,X.G.C,dx',_,_,rfl,z1,X.G.c,X.G.n,rfl,c',cs',_,_,rfl,rfl,SqL.of z2,zp (j:=0) z3,r',xs',_,_,rfl,rfl,SqL.of z4,zp (j:=0) z5,_,_,rfl,rfl,?_⟩
    rw [pce] at k
    exact k
end
end Hm
end
section
namespace Hm
open PySem PySem.Spec PyProof.Rows L2
open Vaheda (Hedge nodes append width deep children saying dropTrees)
theorem qY {n j:Nat} (h:j<n):ixN n (j:Int)=some j:=by
 unfold ixN
 rw [if_pos (by omega),if_pos (by omega)]
 rfl
theorem VP {n:Nat} (h:0<n):ixN n (-1)=some (n - 1):=by
 unfold ixN
 rw [if_neg (by omega),if_pos (by omega)]
 congr 1
 omega
theorem OW {α:Type} {xs:List α} {v:α} (h:xs[xs.length - 1]? = some v) (h0:0<xs.length):atI xs (-1)=some v:=by
 unfold atI
 rw [VP h0]
 exact h
theorem ZJ (w:Nat) (h:w<=2000):RgC ((w:Int) - 1) (-1) (-1) w:=by
 have:=RgC.neg (i:=(w:Int) - 1) (j:=-1) (by omega) (by omega) (by omega) (by omega)
 rwa [show((w:Int) - 1 - -1).toNat=w by omega] at this
theorem Zz {h g:Hedge} {i:Nat} {xs:List V} (e:xs.length=width g+1) (q:∀j,j<=width g->xs[j]? = some (V.int (D (dropTrees i h) (dropTrees j g)))):xs=yS h g i:=by
 apply List.ext_getElem?
 intro j
 by_cases c:j<=width g
 ·rw [q j c,yx c]
 ·rw [List.getElem?_eq_none (by omega),List.getElem?_eq_none (by rw [qp];omega)]
theorem qW {α:Type} {xs:List α} {j k:Nat} {v:α} (h:j<xs.length):(xs.set j v)[k]? = if k=j then some v else xs[k]?:=by
 rw [List.getElem?_set]
 by_cases c:j=k
 ·rw [if_pos c,if_pos c.symm,if_pos h]
 ·rw [if_neg c,if_neg (fun z=>c z.symm)]
section
variable {P:Program} {w:World} {K:PySem.W.Frag} {mg:Str->Option Value} {base:Heap}
theorem zai (X:ym K mg) (T:zw K mg):zj P w K mg base CX0 1 X.last.f X.last.fd ["self"] (spGLast T.T.C X.G.C):=by
 refine X.last.F.ok scGLast (fun vs H Q E h=>?_) (fun cdv A outer s H vs Q E hr h=>?_)
 ·obtain⟨_,_,_,_,_,_,_,_,_,_,rfl,_⟩:=h
  rfl
 ·obtain⟨p,dx,l,o,n,q,c,h,g,ns,rfl,hp,hn,fn,sz,k⟩:=h
  have nl:=fn.len
  have wl:=yo g
  have hz:sizeLine=16777216:=sizeLine_eq
  refine⟨_,z9 (zy (i:=1) scGLast.nd rfl (Or.inl rfl) (yb U2 (zM (z6 zi zb)) (yb yC (zU zF (by rfl) X.nlen PySem.boot_len (z6 (ze (pv 0) rfl) zb)) zi)))
   (z9 (xF PassesOwn.never rfl (Yv (by rfl) X.nrange (z6 (yb qF (zU zF (by rfl) X.nlen PySem.boot_len (z6 (ze (pv 0) rfl) zb)) zi) (z6 (j5 xy zi) (z6 (j5 xy zi) zb)))) (yA (i:=2) scGLast.nd rfl (Or.inl rfl))
    (zc (JD (yb yC (zN zA (pv 1) (yb yC (pv 2) zi) (fun _ _=>rfl)) (ze (zN zA (ze (pv 0) rfl) (pv 2) (fun _ _=>rfl)) rfl)) (Jy (pv 1) (pv 2) qh))))
   (zc (zn (pv 1)))),?_⟩
  refine⟨(by show 1<=sizeLine;decide),fun l0 hl0=>?_⟩
  have s0:zd H (upd H l0 (.lst [V.int 0])):=zd.new hl0
  refine⟨_,rfl,p,X.G.C,dx,_,_,rfl,s0 _ _ hp,X.G.c,X.G.n,rfl,n,ns,rfl,.inl (SqL.of (s0 _ _ hn)),_,_,rfl,rfl,l0,((ns.length:Nat):Int)+1,[V.int 0],rfl,rfl,z7,by omega,by omega,?_,fun r hr0=>?_⟩
  ·show 1*_<=_
   omega
  have s1:=s0.trans (zd.new (o:=.lst (List.replicate (((ns.length:Nat):Int)+1).toNat [V.int 0]).flatten) hr0)
  refine⟨_,rfl,p,X.G.C,dx,_,_,rfl,s1 _ _ hp,X.G.c,X.G.n,rfl,n,ns,rfl,.inl (SqL.of (s1 _ _ hn)),_,_,rfl,rfl,_,rfl,_,rfl,_,_,_,width g,rfl,?_,?_⟩
  ·rw [nl];exact ZJ _ (by omega)
  have r0H:H r=none:=s0.free hr0
  refine Y0 (n:=width g) (fun t σ H'=>∃v xs,σ=[some (.ref p),some (.ref r),v]/\H' r=some (.lst xs)/\xs.length=width g+1/\(∀j,width g - t<=j->j<=width g->xs[j]? = some (V.int (D (dropTrees (width h) h) (dropTrees j g))))/\zd H H')
   ⟨none,_,rfl,z7,?_,?_,s1⟩ ?_ ?_
  ·rw [YB]
   show _*1=_
   omega
  ·intro j h1 h2
   have:j=width g:=by omega
   subst this
   rw [ja (Nat.le_refl _),ja (Nat.le_refl _),qH]
   have:∀m j,j<m->(List.replicate m [V.int 0]).flatten[j]? = some (V.int 0):=by
    intro m
    induction m with
    | zero=>intro j h;omega
    | succ m ih=>
     intro j h
     rw [List.replicate_succ,List.flatten_cons]
     cases j with
     | zero=>rfl
     | succ j=>exact ih j (by omega)
   exact this _ _ (by omega)
  ·rintro t σ H' ht ⟨v,xs,rfl,hr',xl,xq,sm⟩
   rw [show((ns.length:Nat):Int) - 1+((t:Nat):Int)*-1=((width g - 1 - t:Nat):Int) by omega]
   generalize ej:width g - 1 - t=j
   have lj:j<width g:=by omega
   obtain⟨v2,hv2⟩:∃v,ns[j]? = some v:=⟨_,List.getElem?_eq_getElem (by omega)⟩
   obtain⟨t2,rfl,⟨⟨d2,w2,k2,ks2,b1,b2,b3,b4⟩,ne2⟩⟩:=fn.get hv2
   have x1:=xq (j+1) (by omega) (by omega)
   refine⟨_,rfl,_,rfl,_,_,rfl,rfl,r,xs,_,_,rfl,rfl,SqL.of hr',zp (j:=j+1) x1,?_⟩
   refine⟨_,rfl,p,X.G.C,dx,_,_,rfl,sm _ _ hp,X.G.c,X.G.n,rfl,_,rfl,n,ns,_,_,rfl,rfl,SqL.of (sm _ _ hn),zp hv2,t2,T.T.C,d2,_,_,rfl,sm _ _ b1,T.T.c,T.T.n,rfl,_,_,rfl,rfl,?_⟩
   refine⟨_,rfl,_,rfl,r,xs,_,j,rfl,rfl,hr',qY (by omega),?_⟩
   refine⟨_,_,rfl,z7,by rw [List.length_set];exact xl,fun j' h1 h2=>?_,fun b ob e=>by rw [z8 (za e r0H)];exact sm b ob e⟩
   rw [qW (by omega)]
   by_cases c:j'=j
   ·rw [if_pos c,c]
    have e9:((D (dropTrees (width h) h) (dropTrees (j+1) g):Nat):Int)+((nodes (hd (dropTrees j g)):Nat):Int)=((D (dropTrees (width h) h) (dropTrees j g):Nat):Int):=by
     rw [ja (Nat.le_refl _),qO,qO,zo]
     have:=ya (dropTrees j g)
     omega
    exact congrArg (fun z=>some (V.int z)) e9
   ·rw [if_neg c]
    exact xq j' (by omega) h2
  ·rintro σ H' ⟨v,xs,rfl,hr',xl,xq,sm⟩
   refine⟨_,rfl,k H' r r0H ?_ sm⟩
   rw [hr',Zz xl (fun j hj=>xq j (by omega) hj)]
theorem NR (X:ym K mg) (T:zw K mg):zj P w K mg base CX0 2 X.before.f X.before.fd ["self","i"] (spGBefore T.T.C X.G.C):=by
 have GP:=VM (P:=P) (w:=w) (base:=base) X T
 refine X.before.F.ok jo (fun vs H Q E h=>?_) (fun cdv A outer s H vs Q E hr h=>?_)
 ·obtain⟨_,_,_,_,_,_,_,_,_,_,_,rfl,_⟩:=h
  rfl
 ·obtain⟨p,dx,l,o,n,q,c,h,g,inn,i,rfl,M,li,⟨cs,hc,cl,cq⟩,sz,k⟩:=h
  have wl:=yo g
  have hz:sizeLine=16777216:=sizeLine_eq
  obtain⟨ra,ca,hra⟩:=cq (i+1) (Nat.le_refl _) (by omega)
  refine⟨_,z9 (zy (i:=2) jo.nd rfl (Or.inl rfl) (ze (zN zA (ze (pv 0) rfl) (pv 1) (fun _ _=>rfl)) rfl))
   (z9 (zy (i:=3) jo.nd rfl (Or.inl rfl) (zN zA (ze (pv 0) rfl) (yb yC (pv 1) zi) (fun _ _=>rfl)))
   (z9 (zy (i:=4) jo.nd rfl (Or.inl rfl) (yb U2 (zM (z6 zi zb)) (yb yC (zU zF (by rfl) X.nlen PySem.boot_len (z6 (ze (pv 0) rfl) zb)) zi)))
   (z9 (JD (yb yC (zN zA (pv 3) (j5 xy zi) (fun _ _=>rfl)) (pv 2)) (Jy (pv 4) (j5 xy zi) qh))
   (z9 (xF PassesOwn.never rfl (Yv (by rfl) X.nrange (z6 (yb qF (zU zF (by rfl) X.nlen PySem.boot_len (z6 (ze (pv 0) rfl) zb)) zi) (z6 (j5 xy zi) (z6 (j5 xy zi) zb)))) (yA (i:=5) jo.nd rfl (Or.inl rfl))
    (z9 (zy (i:=6) jo.nd rfl (Or.inl rfl) (zU (Vd rfl) (by rfl) X.nmin (by decide +kernel) (z6 (yb yC (zN zA (pv 3) (pv 5) (fun _ _=>rfl)) (pv 2)) (z6 (yb yC (zN zA (pv 4) (yb yC (pv 5) zi) (fun _ _=>rfl)) (ze (zN zA (ze (pv 0) rfl) (pv 5) (fun _ _=>rfl)) rfl)) zb))))
    (z9 (zR (zx xO (ze (zN zA (ze (pv 0) rfl) (pv 1) (fun _ _=>rfl)) rfl) (ze (zN zA (ze (pv 0) rfl) (pv 5) (fun _ _=>rfl)) rfl) (zG _))
     (zc (zy (i:=6) jo.nd rfl (Or.inl rfl) (zU (Vd rfl) (by rfl) X.nmin (by decide +kernel) (z6 (pv 6) (z6 (yb yC (zN zA (pv 3) (yb yC (pv 5) zi) (fun _ _=>rfl)) (zT (pv 0) X.G.c X.pair.m GP hr X.pair.b .nil zk (z6 (pv 1) (z6 (pv 5) zb)))) zb))))) zE)
    (zc (JD (pv 6) (Jy (pv 4) (pv 5) qh))))))
   (zc (zn (pv 4))))))),?_⟩
  obtain⟨hp,⟨os,ho,fo⟩,⟨ns,hn,fn⟩,hqq,hi,hg⟩:=id M
  have ol:=fo.len
  have nl:=fn.len
  obtain⟨v1,hv1⟩:∃v,os[i]? = some v:=⟨_,List.getElem?_eq_getElem (by omega)⟩
  obtain⟨t1,rfl,⟨⟨d1,w1,k1,ks1,a1,a2,a3,a4⟩,ne1⟩⟩:=fo.get hv1
  refine⟨_,rfl,p,X.G.C,dx,_,_,rfl,hp,X.G.c,X.G.n,rfl,_,rfl,o,os,_,_,rfl,rfl,SqL.of ho,zp hv1,t1,T.T.C,d1,_,_,rfl,a1,T.T.c,T.T.n,rfl,?_⟩
  refine⟨_,rfl,p,X.G.C,dx,_,_,rfl,hp,X.G.c,X.G.n,rfl,_,rfl,_,_,rfl,rfl,c,cs,_,_,rfl,rfl,SqL.of hc,zp (j:=i+1) ca,?_⟩
  refine⟨(by show 1<=sizeLine;decide),fun l0 hl0=>?_⟩
  have s0:zd H (upd H l0 (.lst [V.int 0])):=zd.new hl0
  refine⟨_,rfl,p,X.G.C,dx,_,_,rfl,s0 _ _ hp,X.G.c,X.G.n,rfl,n,ns,rfl,.inl (SqL.of (s0 _ _ hn)),_,_,rfl,rfl,l0,((ns.length:Nat):Int)+1,[V.int 0],rfl,rfl,z7,by omega,by omega,?_,fun r hr0=>?_⟩
  ·show 1*_<=_
   omega
  have s1:=s0.trans (zd.new (o:=.lst (List.replicate (((ns.length:Nat):Int)+1).toNat [V.int 0]).flatten) hr0)
  have r0H:H r=none:=s0.free hr0
  have el:(List.replicate (((ns.length:Nat):Int)+1).toNat [V.int 0]).flatten.length=width g+1:=by
   rw [YB]
   show _*1=_
   omega
  generalize hX:(List.replicate (((ns.length:Nat):Int)+1).toNat [V.int 0]).flatten=X0 at el
  rw [hX] at s1
  have al:(yS h g (i+1))[(yS h g (i+1)).length - 1]? = some (V.int (D (dropTrees (i+1) h) (dropTrees (width g) g))):=by
   rw [qp]
   exact yx (Nat.le_refl _)
  refine⟨_,rfl,_,rfl,ra,_,_,_,rfl,rfl,SqL.of (s1 _ _ hra),OW al (by rw [qp];omega),_,rfl,_,_,rfl,rfl,_,rfl,_,rfl,r,X0,_,_,rfl,rfl,z7,VP (by omega),?_⟩
  rw [x6]
  have s2:zd H (upd (upd H l0 (.lst [V.int 0])) r (.lst (X0.set (X0.length - 1) (V.int ((D (dropTrees (i+1) h) (dropTrees (width g) g):Nat)+(nodes (hd (dropTrees i h)):Nat)))))):=s0.trans (zd.new hr0)
  refine⟨_,rfl,p,X.G.C,dx,_,_,rfl,s2 _ _ hp,X.G.c,X.G.n,rfl,n,ns,rfl,.inl (SqL.of (s2 _ _ hn)),_,_,rfl,rfl,_,rfl,_,rfl,_,_,_,width g,rfl,?_,?_⟩
  ·rw [nl];exact ZJ _ (by omega)
  refine Y0 (n:=width g) (fun t σ H'=>∃v v' xs,σ=[some (.ref p),some (.int i),some (.int (nodes (hd (dropTrees i h)))),some (.ref ra),some (.ref r),v,v']/\H' r=some (.lst xs)/\xs.length=width g+1/\(∀j,width g - t<=j->j<=width g->xs[j]? = some (V.int (D (dropTrees i h) (dropTrees j g))))/\zd H H')
   ⟨none,none,_,rfl,z7,by rw [List.length_set];exact el,?_,s2⟩ ?_ ?_
  ·intro j h1 h2
   have:j=width g:=by omega
   subst this
   rw [qW (by omega),if_pos (by omega)]
   have e9:((D (dropTrees (i+1) h) (dropTrees (width g) g):Nat):Int)+((nodes (hd (dropTrees i h)):Nat):Int)=((D (dropTrees i h) (dropTrees (width g) g):Nat):Int):=by
    rw [ja (Nat.le_refl _),D_r,D_r,zo]
    have:=ya (dropTrees i h)
    omega
   exact congrArg (fun z=>some (V.int z)) e9
  ·rintro t σ H' ht ⟨v,v',xs,rfl,hr',xl,xq,sm⟩
   rw [show((ns.length:Nat):Int) - 1+((t:Nat):Int)*-1=((width g - 1 - t:Nat):Int) by omega]
   generalize ej:width g - 1 - t=j
   have lj:j<width g:=by omega
   obtain⟨v2,hv2⟩:∃v,ns[j]? = some v:=⟨_,List.getElem?_eq_getElem (by omega)⟩
   obtain⟨t2,rfl,⟨⟨d2,w2,k2,ks2,b1,b2,b3,b4⟩,ne2⟩⟩:=fn.get hv2
   have x1:=xq (j+1) (by omega) (by omega)
   have M':=M.mono sm
   refine⟨_,rfl,_,rfl,ra,_,_,_,rfl,rfl,SqL.of (sm _ _ hra),zp (yx (show j<=width g by omega)),_,rfl,_,_,rfl,rfl,?_⟩
   refine⟨_,rfl,_,rfl,_,_,rfl,rfl,r,xs,_,_,rfl,rfl,SqL.of hr',zp (j:=j+1) x1,?_⟩
   refine⟨_,rfl,p,X.G.C,dx,_,_,rfl,sm _ _ hp,X.G.c,X.G.n,rfl,_,rfl,n,ns,_,_,rfl,rfl,SqL.of (sm _ _ hn),zp hv2,t2,T.T.C,d2,_,_,rfl,sm _ _ b1,T.T.c,T.T.n,rfl,_,_,rfl,rfl,_,_,rfl,?_⟩
   generalize em:(if ((D (dropTrees i h) (dropTrees (j+1) g):Nat):Int)+((nodes (hd (dropTrees j g)):Nat):Int)<((D (dropTrees (i+1) h) (dropTrees j g):Nat):Int)+((nodes (hd (dropTrees i h)):Nat):Int) then ((D (dropTrees i h) (dropTrees (j+1) g):Nat):Int)+((nodes (hd (dropTrees j g)):Nat):Int) else ((D (dropTrees (i+1) h) (dropTrees j g):Nat):Int)+((nodes (hd (dropTrees i h)):Nat):Int))=m1
   have em1:m1=((dp (dropTrees i h) (dropTrees j g):Nat):Int):=by
    unfold dp
    rw [zo,zo] at em
    rw [<-em]
    split <;> omega
   have fin:∀(v6:Int),v6=((D (dropTrees i h) (dropTrees j g):Nat):Int)->∃v v' xs',[some (V.ref p),some (V.int i),some (V.int (nodes (hd (dropTrees i h)))),some (V.ref ra),some (V.ref r),some (V.int j),some (V.int v6)]=[some (V.ref p),some (V.int i),some (V.int (nodes (hd (dropTrees i h)))),some (V.ref ra),some (V.ref r),v,v']/\(upd H' r (.lst (xs.set j (V.int v6)))) r=some (.lst xs')/\xs'.length=width g+1/\(∀j,width g - (t+1)<=j->j<=width g->xs'[j]? = some (V.int (D (dropTrees i h) (dropTrees j g))))/\zd H (upd H' r (.lst (xs.set j (V.int v6)))):=fun v6 e6=>by
    refine⟨_,_,_,rfl,z7,by rw [List.length_set];exact xl,fun j' h1 h2=>?_,fun b ob e=>by rw [z8 (za e r0H)];exact sm b ob e⟩
    rw [qW (by omega)]
    by_cases c:j'=j
    ·rw [if_pos c,c,e6]
    ·rw [if_neg c]
     exact xq j' (by omega) h2
   refine⟨_,rfl,p,X.G.C,dx,_,_,rfl,sm _ _ hp,X.G.c,X.G.n,rfl,_,rfl,o,os,_,_,rfl,rfl,SqL.of (sm _ _ ho),zp hv1,t1,T.T.C,d1,_,_,rfl,sm _ _ a1,T.T.c,T.T.n,rfl,?_⟩
   refine⟨_,rfl,p,X.G.C,dx,_,_,rfl,sm _ _ hp,X.G.c,X.G.n,rfl,_,rfl,n,ns,_,_,rfl,rfl,SqL.of (sm _ _ hn),zp hv2,t2,T.T.C,d2,_,_,rfl,sm _ _ b1,T.T.c,T.T.n,rfl,rfl,_,rfl,?_⟩
   by_cases e:zq (dropTrees i h)=zq (dropTrees j g)
   ·rw [decide_eq_true (show V.bl (zq (dropTrees i h))=V.bl (zq (dropTrees j g)) by rw [e])]
    refine zu ?_
    refine⟨_,rfl,_,rfl,_,rfl,_,_,rfl,rfl,ra,_,_,_,rfl,rfl,SqL.of (sm _ _ hra),zp (yx (j:=j+1) (by omega)),?_⟩
    refine⟨_,rfl,p,dx,_,rfl,sm _ _ hp,rfl,_,rfl,_,rfl,p,dx,l,o,n,q,c,h,g,inn,i,j,rfl,M',li,lj,_,_,rfl,rfl,_,_,rfl,?_⟩
    refine⟨_,rfl,_,rfl,_,rfl,r,xs,_,j,rfl,rfl,hr',qY (by omega),?_⟩
    refine fin _ ?_
    rw [J6 ne1 ne2 e,zo,zo,em1]
    split <;> omega
   ·rw [decide_eq_false (show ¬V.bl (zq (dropTrees i h))=V.bl (zq (dropTrees j g)) from fun z=>e (V.bl.inj z))]
    refine zr ?_
    refine⟨_,rfl,_,rfl,_,rfl,r,xs,_,j,rfl,rfl,hr',qY (by omega),?_⟩
    refine fin _ ?_
    rw [Y8 ne1 ne2 e,em1]
  ·rintro σ H' ⟨v,v',xs,rfl,hr',xl,xq,sm⟩
   refine⟨_,rfl,k H' r r0H ?_ sm⟩
   rw [hr',Zz xl (fun j hj=>xq j (by omega) hj)]
end
end Hm
end
section
namespace Hm
open PySem PySem.Spec PyProof.Rows L2
open Vaheda (Hedge nodes append width deep children saying dropTrees)
theorem CostsAt.mono {H H':Hp} {c:Addr} {h g:Hedge} {k:Nat} (A:CostsAt H c h g k) (s:zd H H'):CostsAt H' c h g k:=by
 obtain⟨cs,hc,cl,cq⟩:=A
 refine⟨cs,s _ _ hc,cl,fun i h1 h2=>?_⟩
 obtain⟨r,q1,q2⟩:=cq i h1 h2
 exact⟨r,q1,s _ _ q2⟩
def InnerV (C CG:Addr) (G:Hp) (v:V) (h g:Hedge):Prop:=(v=.non/\(children h=.nil\/children g=.nil))\/∃b,v=.ref b/\¬(children h=.nil\/children g=.nil)/\xz C CG G b (children h) (children g)
theorem InnerV.mono {C CG:Addr} {G G':Hp} {v:V} {h g:Hedge} (A:InnerV C CG G v h g) (s:zd G G'):InnerV C CG G' v h g:=by
 rcases A with A | ⟨b,e,n,A⟩
 ·exact .inl A
 ·exact .inr ⟨b,e,n,A.mono s⟩
def spGInit (C CG:Addr) (d:Nat):Sp:=fun vs H Q _=>∃(p dx oA nA:Addr) (h g:Hedge) (hs gs:List V) (M:List Addr),vs=[.ref p,.ref oA,.ref nA]/\H p=some (.ins CG dx [])/\p∉M/\(∀b∈M,H b≠none)/\H oA=some (.lst hs)/\H nA=some (.lst gs) /\
 zm C (hid (p::M) H) hs h/\zm C (hid (p::M) H) gs g/\deep h<=d/\nodes h<=2000/\nodes g<=2000/\∀H',xz C CG (hid M H') p h g->But [p] H H'->Q .non H'
def spInner (C CG:Addr) (d:Nat):Sp:=fun vs H Q _=>∃(a b:Addr) (h g:Hedge) (M:List Addr),vs=[.ref a,.ref b]/\(∀b∈M,H b≠none)/\xG C (hid M H) a h/\xG C (hid M H) b g/\deep (hd h)<=d/\nodes (hd h)<=2000/\nodes (hd g)<=2000 /\
 ∀H' v,InnerV C CG (hid M H') v h g->zd H H'->Q v H'
def InRow (C CG:Addr) (G:Hp) (xs:List V) (h g:Hedge) (i k:Nat):Prop:=∀j,j<k->∃v,xs[j]? = some v/\InnerV C CG G v (dropTrees i h) (dropTrees j g)
def InRows (C CG:Addr) (G:Hp) (qs:List V) (h g:Hedge) (k:Nat):Prop:=∀i,i<k->∃r xs,qs[i]? = some (.ref r)/\G r=some (.lst xs)/\InRow C CG G xs h g i (width g)
theorem InRow.mono {C CG:Addr} {G G':Hp} {xs:List V} {h g:Hedge} {i k:Nat} (A:InRow C CG G xs h g i k) (s:zd G G'):InRow C CG G' xs h g i k:=fun j hj=>by
 obtain⟨v,e,A⟩:=A j hj
 exact⟨v,e,A.mono s⟩
def qr (G:Hp) (qs:List V) (i j:Nat):Option Addr:=match qs[i]? with
 | some (.ref r)=>match G r with
  | some (.lst xs)=>match xs[j]? with
   | some (.ref b)=>some b
   | _=>none
  | _=>none
 | _=>none
theorem InRows.open_ {C CG:Addr} {G:Hp} {qs:List V} {h g:Hedge} (A:InRows C CG G qs h g (width h)) :
  (∀i,i<width h->∃r xs,qs[i]? = some (.ref r)/\G r=some (.lst xs)/\∀j,j<width g->xs[j]? = some (oV (qr G qs i j))) /\
  (∀i j,i<width h->j<width g->(qr G qs i j=none↔(children (dropTrees i h)=.nil\/children (dropTrees j g)=.nil))) /\
  (∀i j b,i<width h->j<width g->qr G qs i j=some b->xz C CG G b (children (dropTrees i h)) (children (dropTrees j g))):=by
 refine⟨fun i hi=>?_,fun i j hi hj=>?_,fun i j b hi hj e=>?_⟩
 ·obtain⟨r,xs,e1,e2,A⟩:=A i hi
  refine⟨r,xs,e1,e2,fun j hj=>?_⟩
  obtain⟨v,e3,A⟩:=A j hj
  have q:qr G qs i j=match xs[j]? with
   | some (.ref b)=>some b
   | _=>none:=by unfold qr;rw [e1];dsimp only;rw [e2]
  rw [q,e3]
  rcases A with ⟨rfl,_⟩ | ⟨b,rfl,_,_⟩ <;> rfl
 ·obtain⟨r,xs,e1,e2,A⟩:=A i hi
  obtain⟨v,e3,A⟩:=A j hj
  have q:qr G qs i j=match xs[j]? with
   | some (.ref b)=>some b
   | _=>none:=by unfold qr;rw [e1];dsimp only;rw [e2]
  rw [q,e3]
  rcases A with ⟨rfl,z⟩ | ⟨b,rfl,z,_⟩
  ·exact⟨fun _=>z,fun _=>rfl⟩
  ·exact⟨fun y=>(by cases y),fun y=>absurd y z⟩
 ·obtain⟨r,xs,e1,e2,A⟩:=A i hi
  obtain⟨v,e3,A⟩:=A j hj
  have q:qr G qs i j=match xs[j]? with
   | some (.ref b)=>some b
   | _=>none:=by unfold qr;rw [e1];dsimp only;rw [e2]
  rw [q,e3] at e
  rcases A with ⟨rfl,_⟩ | ⟨b',rfl,_,A⟩
  ·cases e
  ·cases e;exact A
theorem zcf (xs:List V) (n:Nat):jR xs none (some (n:Int))=xs.take n:=by
 unfold jR
 rw [HT.sIx_none,HT.sIx_nat,List.drop_zero,Nat.sub_zero]
 by_cases c:n<=xs.length
 ·rw [Nat.min_eq_left c]
 ·rw [Nat.min_eq_right (by omega),List.take_of_length_le (Nat.le_refl _),List.take_of_length_le (by omega)]
theorem VZ (xs:List V) (n:Nat):jR xs (some (n:Int)) none=xs.drop n:=by
 unfold jR
 rw [HT.sIx_none,HT.sIx_nat]
 by_cases c:n<=xs.length
 ·rw [Nat.min_eq_left c,List.take_of_length_le (by rw [List.length_drop];omega)]
 ·rw [Nat.min_eq_right (by omega),List.drop_eq_nil_of_le (Nat.le_refl _),List.drop_eq_nil_of_le (by omega),List.take_nil]
section
variable {P:Program} {w:World} {K:PySem.W.Frag} {mg:Str->Option Value} {base:Heap}
theorem O1 (X:ym K mg) (T:zw K mg) (k:Nat):zj P w K mg base CX0 k X.inner.f X.inner.fd ["one","other"] (spInner T.T.C X.G.C 0):=
 ⟨fun vs H Q E h=>by obtain⟨_,_,_,_,_,rfl,_⟩:=h;rfl,fun A outer s H args us vs Q E _ _ _ _ h=>by
   obtain⟨_,_,h,_,_,_,_,T,_,e,_⟩:=h
   have:=Jo T.ne
   omega⟩
theorem ID {d k0:Nat} (X:ym K mg) (T:zw K mg) (GI:zj P w K mg base CX0 k0 X.init.f X.init.fd ["self","old","new"] (spGInit T.T.C X.G.C d)):zj P w K mg base CX0 (k0+2) X.inner.f X.inner.fd ["one","other"] (spInner T.T.C X.G.C (d+1)):=by
 refine X.inner.F.ok scInner (fun vs H Q E h=>?_) (fun cdv A outer s H vs Q E hr h=>?_)
 ·obtain⟨_,_,_,_,_,rfl,_⟩:=h
  rfl
 ·obtain⟨a,b,h,g,M,rfl,lv,T1,T2,dp,z1,z2,k⟩:=h
  refine⟨_,z9 (zR (jQ (zV (ze (pv 0) rfl) (fun _=>rfl)) (qj (zV (ze (pv 1) rfl) (fun _=>rfl)))).pt
    (zc (zn (xr X.mk1 GI hr rfl X.G.g X.init.b .nil zk (z6 (ze (pv 0) rfl) (z6 (ze (pv 1) rfl) zb))))) zE)
   (zc (zn xB)),?_⟩
  obtain⟨⟨d1,w1,k1,ks1,a1,a2,a3,a4⟩,ne1⟩:=T1
  obtain⟨⟨d2,w2,k2,ks2,b1,b2,b3,b4⟩,ne2⟩:=T2
  have nd1:=yT ne1
  have nd2:=yT ne2
  have a1':=(zf a1).2
  have a3':=(zf a3).2
  have b1':=(zf b1).2
  have b3':=(zf b3).2
  have l1:=a4.len
  have l2:=b4.len
  refine⟨_,rfl,a,T.T.C,d1,_,_,rfl,a1',T.T.c,T.T.n,rfl,_,YX (SqL.of a3'),?_⟩
  have emp:∀{ks:List V} {x:Hedge},ks.length=width x->ks.isEmpty=decide (x=.nil):=fun {ks x} e=>by
   cases ks with
   | nil=>rw [decide_eq_true (yO.mp e.symm)];rfl
   | cons v vs=>
    rw [decide_eq_false (fun z=>by rw [z] at e;cases e)]
    rfl
  rw [emp l1]
  by_cases c1:children h=.nil
  ·rw [decide_eq_true c1]
   exact zr (zr (k H .non (.inl ⟨rfl,.inl c1⟩) (zd.refl _)))
  rw [decide_eq_false c1]
  refine zu ?_
  refine⟨_,rfl,b,T.T.C,d2,_,_,rfl,b1',T.T.c,T.T.n,rfl,_,YX (SqL.of b3'),?_⟩
  rw [emp l2]
  by_cases c2:children g=.nil
  ·rw [decide_eq_true c2]
   exact zr (k H .non (.inl ⟨rfl,.inr c2⟩) (zd.refl _))
  rw [decide_eq_false c2]
  refine zu ?_
  refine⟨_,rfl,a,T.T.C,d1,_,_,rfl,a1',T.T.c,T.T.n,rfl,_,rfl,b,T.T.C,d2,_,_,rfl,b1',T.T.c,T.T.n,rfl,fun p dx hp hdx ndx=>?_⟩
  have pM:p∉M:=fun z=>lv p z hp
  have sN:zd (hid M H) (hid (p::M) (upd (upd H dx (.own p)) p (.ins X.G.C dx []))):=fun b o e=>by
   obtain⟨n,e⟩:=zf e
   have nb:=za e hp
   exact zt (by simp [nb,n]) (by rw [z8 nb,z8 (za e hdx)];exact e)
  refine⟨p,dx,k1,k2,children h,children g,ks1,ks2,M,rfl,z7,pM,fun b m=>?_,?_,?_,a4.mono sN,b4.mono sN,xu dp,by omega,by omega,fun H' G' b'=>⟨rfl,k H' _ (.inr ⟨p,rfl,fun z=>z.elim c1 c2,G'⟩) (zd.made hp hdx b')⟩⟩
  ·obtain⟨o,q⟩:=zD (lv b m)
   rw [z8 (za q hp),z8 (za q hdx),q]
   intro z;cases z
  ·rw [z8 (za a3' hp),z8 (za a3' hdx)];exact a3'
  ·rw [z8 (za b3' hp),z8 (za b3' hdx)];exact b3'
theorem scGInit:zh ["self","old","new","alike","tree","i","other"] ["self","old","new"] (zg sGInit):=⟨rfl,rfl,rfl,by decide +kernel,rfl,by decide +kernel,by decide +kernel⟩
theorem VL {d k0:Nat} (X:ym K mg) (T:zw K mg) (hk:3*d+2<=k0) (GI:zj P w K mg base CX0 k0 X.inner.f X.inner.fd ["one","other"] (spInner T.T.C X.G.C d)):zj P w K mg base CX0 (k0+1) X.init.f X.init.fd ["self","old","new"] (spGInit T.T.C X.G.C d):=by
 have GS:=(VY (P:=P) (w:=w) (base:=base) T d).mono hk
 have GL:=zai (P:=P) (w:=w) (base:=base) X T
 have GB:=NR (P:=P) (w:=w) (base:=base) X T
 refine X.init.F.ok scGInit (fun vs H Q E h=>?_) (fun cdv A outer s H vs Q E hr h=>?_)
 ·obtain⟨_,_,_,_,_,_,_,_,_,rfl,_⟩:=h
  rfl
 ·obtain⟨p,dx,oA,nA,h,g,hs,gs,M,rfl,hp,pM,lv,hoA,hnA,fh,fg,dp,z1,z2,k⟩:=h
  have hr1:zJ 1 _:=hr.mono (by omega)
  have hr2:zJ 2 _:=hr.mono (by omega)
  have hz:sizeLine=16777216:=sizeLine_eq
  refine⟨_,z9 (zy (i:=3) scGInit.nd rfl (Or.inl rfl) (zC GS hr (by rfl) T.sLead.m T.sLead.F.kp T.sLead.b .nil zk (z6 (pv 1) (z6 (pv 2) zb))))
   (z9 (zZ (pv 0) (qi qX (pv 2) YL (jO (pv 3))) rfl)
   (z9 (zZ (pv 0) (qi qX (pv 1) (jO (pv 3)) YL) rfl)
   (z9 (zZ (pv 0) (qi qX (pv 2) (jO (pv 3)) YL) rfl)
   (z9 (zZ (pv 0) (zM zb) rfl)
   (z9 (xF PassesOwn.never rfl (jh (ze (pv 0) rfl)) (yA (i:=4) scGInit.nd rfl (Or.inr rfl))
    (zc (zz (yK PySem.F.plainAttrs_list PySem.F.slot_list_append PySem.F.type_list_append yc (ze (pv 0) rfl) (z6
     (zap (own:=[("other",6)]) (te:=tCall (spInner T.T.C X.G.C d) [] E0 (jy (js 4) (jy (js 6) JM))) rfl scGInit.nd (jh (ze (pv 0) rfl)) (by exact VS (by show blkC ["self","old","new","alike","tree","i","other"] (zg sGInit) _ [("other",6)]=true;decide +kernel))
      (fun s H C cl fp=>yA (i:=6) scGInit.nd rfl (Or.inl rfl)) (fun s H C cl fp=>Na) (fun s H C cl fp=>by exact zC GI hr (by rfl) X.inner.m X.inner.F.kp X.inner.b .nil zk (z6 (pv 4) (z6 (pv 6) zb)))) zb)))))
   (z9 (zZ (pv 0) (yb U2 (zM (z6 (zM zb) zb)) (yb yC (zU zF (by rfl) X.nlen PySem.boot_len (z6 (ze (pv 0) rfl) zb)) zi)) rfl)
   (z9 (JD (zS (pv 0) X.G.c X.last.m GL hr1 X.last.b .nil zk) (Jy (ze (pv 0) rfl) (zU zF (by rfl) X.nlen PySem.boot_len (z6 (ze (pv 0) rfl) zb)) qh))
   (zc (xF PassesOwn.never rfl (Yv (by rfl) X.nrange (z6 (yb qF (zU zF (by rfl) X.nlen PySem.boot_len (z6 (ze (pv 0) rfl) zb)) zi) (z6 (j5 xy zi) (z6 (j5 xy zi) zb)))) (yA (i:=5) scGInit.nd rfl (Or.inl rfl))
    (zc (JD (zT (pv 0) X.G.c X.before.m GB hr2 X.before.b .nil zk (z6 (pv 5) zb)) (Jy (ze (pv 0) rfl) (pv 5) qh)))))))))))),?_⟩
  have ll:=JG h g
  have lh:=fh.len
  have lg:=fg.len
  refine⟨_,rfl,_,rfl,oA,nA,hs,gs,h,g,rfl,hoA,hnA,fh.mono (yn _ _),fg.mono (yn _ _),dp,?_⟩
  have noA:oA≠p:=fun z=>by rw [z,hp] at hoA;cases hoA
  have nnA:nA≠p:=fun z=>by rw [z,hp] at hnA;cases hnA
  refine⟨_,rfl,_,rfl,_,rfl,nA,gs,rfl,SqL.of hnA,fun l hl=>?_⟩
  rw [zcf]
  have nlp:l≠p:=Ne.symm (za hp hl)
  refine⟨_,rfl,p,X.G.C,dx,_,rfl,by rw [z8 (Ne.symm nlp)];exact hp,X.G.c,X.G.n,(by show 0<1000;decide),?_⟩
  obtain⟨H1,eH1⟩:∃H1,upd (upd H l (.lst (gs.take (zI h g)))) p (.ins X.G.C dx (y4 "lead" (.ref l) []))=H1:=⟨_,rfl⟩
  have hp1:H1 p=some (.ins X.G.C dx [("lead",.ref l)]):=by rw [<-eH1,z7];rfl
  have hl1:H1 l=some (.lst (gs.take (zI h g))):=by rw [<-eH1,z8 nlp,z7]
  have b1:But [p] H H1:=by rw [<-eH1];exact(But.new hl).trans (But.upd (by simp))
  rw [eH1]
  refine⟨_,rfl,_,rfl,_,rfl,oA,hs,rfl,SqL.of (b1 _ _ hoA (by simpa using noA)),fun o ho=>?_⟩
  rw [VZ]
  have nop:o≠p:=Ne.symm (za hp1 ho)
  refine⟨_,rfl,p,X.G.C,dx,_,rfl,by rw [z8 (Ne.symm nop)];exact hp1,X.G.c,X.G.n,(by show 1<1000;decide),?_⟩
  obtain⟨H2,eH2⟩:∃H2,upd (upd H1 o (.lst (hs.drop (zI h g)))) p (.ins X.G.C dx (y4 "old" (.ref o) [("lead",.ref l)]))=H2:=⟨_,rfl⟩
  have hp2:H2 p=some (.ins X.G.C dx [("lead",.ref l),("old",.ref o)]):=by rw [<-eH2,z7];rfl
  have ho2:H2 o=some (.lst (hs.drop (zI h g))):=by rw [<-eH2,z8 nop,z7]
  have b12:But [p] H1 H2:=by rw [<-eH2];exact(But.new ho).trans (But.upd (by simp))
  have b2:=b1.trans b12
  have hl2:=b12 _ _ hl1 (by simpa using nlp)
  have hoH:H o=none:=b1.none (by simp [hp1]) ho
  rw [eH2]
  refine⟨_,rfl,_,rfl,_,rfl,nA,gs,rfl,SqL.of (b2 _ _ hnA (by simpa using nnA)),fun n hn=>?_⟩
  rw [VZ]
  have nnp:n≠p:=Ne.symm (za hp2 hn)
  refine⟨_,rfl,p,X.G.C,dx,_,rfl,by rw [z8 (Ne.symm nnp)];exact hp2,X.G.c,X.G.n,(by show 2<1000;decide),?_⟩
  obtain⟨H3,eH3⟩:∃H3,upd (upd H2 n (.lst (gs.drop (zI h g)))) p (.ins X.G.C dx (y4 "new" (.ref n) [("lead",.ref l),("old",.ref o)]))=H3:=⟨_,rfl⟩
  have hp3:H3 p=some (.ins X.G.C dx [("lead",.ref l),("old",.ref o),("new",.ref n)]):=by rw [<-eH3,z7];rfl
  have hn3:H3 n=some (.lst (gs.drop (zI h g))):=by rw [<-eH3,z8 nnp,z7]
  have b23:But [p] H2 H3:=by rw [<-eH3];exact(But.new hn).trans (But.upd (by simp))
  have b3:=b2.trans b23
  have hl3:=b23 _ _ hl2 (by simpa using nlp)
  have ho3:=b23 _ _ ho2 (by simpa using nop)
  have hnH:H n=none:=b2.none (by simp [hp2]) hn
  rw [eH3]
  refine⟨Nat.zero_le _,fun q hq=>?_⟩
  have nqp:q≠p:=Ne.symm (za hp3 hq)
  refine⟨_,rfl,p,X.G.C,dx,_,rfl,by rw [z8 (Ne.symm nqp)];exact hp3,X.G.c,X.G.n,(by show 3<1000;decide),?_⟩
  obtain⟨H4,eH4⟩:∃H4,upd (upd H3 q (.lst [])) p (.ins X.G.C dx (y4 "inner" (.ref q) [("lead",.ref l),("old",.ref o),("new",.ref n)]))=H4:=⟨_,rfl⟩
  have hp4:H4 p=some (.ins X.G.C dx [("lead",.ref l),("old",.ref o),("new",.ref n),("inner",.ref q)]):=by rw [<-eH4,z7];rfl
  have hq4:H4 q=some (.lst []):=by rw [<-eH4,z8 nqp,z7]
  have b34:But [p] H3 H4:=by rw [<-eH4];exact(But.new hq).trans (But.upd (by simp))
  have b4:=b3.trans b34
  have hl4:=b34 _ _ hl3 (by simpa using nlp)
  have ho4:=b34 _ _ ho3 (by simpa using nop)
  have hn4:=b34 _ _ hn3 (by simpa using nnp)
  have hqH:H q=none:=b3.none (by simp [hp3]) hq
  have noq:o≠q:=za ho3 hq
  have nnq:n≠q:=za hn3 hq
  have nlq:l≠q:=za hl3 hq
  rw [eH4]
  have new_M:∀x,H x=none->x∉M:=fun x hx z=>lv x z hx
  have lM:=new_M l hl
  have oM:=new_M o hoH
  have nM:=new_M n hnH
  have qM:=new_M q hqH
  obtain⟨h',eh'⟩:∃h',dropTrees (zI h g) h=h':=⟨_,rfl⟩
  obtain⟨g',eg'⟩:∃g',dropTrees (zI h g) g=g':=⟨_,rfl⟩
  have fh':zm T.T.C (hid (p::M) H) (hs.drop (zI h g)) h':=by rw [<-eh'];exact fh.drop _
  have fg':zm T.T.C (hid (p::M) H) (gs.drop (zI h g)) g':=by rw [<-eg'];exact fg.drop _
  have zh':nodes h'<=2000:=by rw [<-eh'];exact Nat.le_trans (xj _ _) z1
  have zg':nodes g'<=2000:=by rw [<-eg'];exact Nat.le_trans (xj _ _) z2
  have dh':deep h'<=d:=by rw [<-eh'];exact Nat.le_trans (xL _ _) dp
  have lh':=fh'.len
  have lg':=fg'.len
  have wh':=yo h'
  have wg':=yo g'
  generalize hsd:hs.drop (zI h g)=hsD at *
  generalize gsd:gs.drop (zI h g)=gsD at *
  have sP:∀{H':Hp} (N:List Addr),But [p] H H'->(∀b∈N,b=p\/b∈M\/H b=none)->zd (hid (p::M) H) (hid N H'):=fun N b m x o e=>by
   obtain⟨nx,e⟩:=zf e
   simp only [List.mem_cons,not_or] at nx
   refine zt (fun z=>?_) (b x o e (by simpa using nx.1))
   rcases m x z with y | y | y
   ·exact nx.1 y
   ·exact nx.2 y
   ·rw [e] at y;cases y
  refine⟨_,rfl,p,X.G.C,dx,_,_,rfl,hp4,X.G.c,X.G.n,rfl,o,rfl,⟨_,SqL.of ho4⟩,jq (K:=K) (a:=o) (xs:=hsD)
   (fun i σ H'=>∃v4 v5 v6 qs,σ=[some (.ref p),some (.ref oA),some (.ref nA),some (.int (zI h g)),v4,v5,v6]/\H' q=some (.lst qs)/\qs.length=i/\InRows T.T.C X.G.C (hid (p::q::M) H') qs h' g' i/\But [q] H4 H')
   ⟨none,none,none,[],rfl,hq4,rfl,fun i hi=>absurd hi (Nat.not_lt_zero _),But.refl _ _⟩ (fun i σ H' _ ⟨_,_,_,_,_,_,_,_,b⟩=>SqL.of (b _ _ ho4 (by simpa using noq))) ?_ ?_⟩
  ·rintro i x σ H' hi ⟨v4,v5,v6,qs,rfl,hq',ql,R,b⟩
   obtain⟨a,rfl,T1⟩:=fh'.get hi
   have li:i<width h':=xT.mp T1.ne
   have bH:But [p] H H':=fun x o e nx=>b x o (b4 x o e nx) (by simpa using za e hqH)
   have hp':=b _ _ hp4 (by simpa using Ne.symm nqp)
   have hn':=b _ _ hn4 (by simpa using nnq)
   have lv':∀b∈M,H' b≠none:=fun x m=>by
    obtain⟨o,e⟩:=zD (lv x m)
    rw [bH x o e (by simpa using fun z=>pM (by rw [<-z];exact m))]
    intro z;cases z
   refine⟨_,rfl,p,X.G.C,dx,_,_,rfl,hp',X.G.c,X.G.n,rfl,.inl ⟨rfl,_,SqL.of hq'⟩,?_⟩
   refine⟨_,rfl,p,X.G.C,dx,_,_,rfl,hp',X.G.c,X.G.n,rfl,n,rfl,⟨_,SqL.of hn'⟩,fun D hD=>?_⟩
   have nDq:D≠q:=Ne.symm (za hq' hD)
   have nDp:D≠p:=Ne.symm (za hp' hD)
   have DM:D∉M:=fun z=>lv' D z hD
   refine N3 (K:=K) (a:=n) (xs:=gsD) (fun j H''=>∃acc,H'' D=some (.lst acc)/\acc.length=j/\InRow T.T.C X.G.C (hid (D::p::q::M) H'') acc h' g' i j/\zd H' H'')
    ⟨[],z7,rfl,fun j hj=>absurd hj (Nat.not_lt_zero _),zd.new hD⟩ (fun j H'' _ ⟨_,_,_,_,sm⟩=>SqL.of (sm _ _ hn')) ?_ ?_
   ·rintro j y H'' hj ⟨acc,hD',al,RR,sm⟩
    obtain⟨b2',rfl,T2⟩:=fg'.get hj
    have lj:j<width g':=xT.mp T2.ne
    have bH'':But [p] H H'':=bH.trans (But.of sm)
    have sT:zd (hid (p::M) H) (hid (D::p::q::M) H''):=sP _ bH'' (fun x m=>by
     simp only [List.mem_cons] at m
     rcases m with m | m | m | m
     ·exact .inr (.inr (by rw [m];exact bH.none (by simp [hp']) hD))
     ·exact .inl m
     ·exact .inr (.inr (by rw [m];exact hqH))
     ·exact .inr (.inl m))
    refine⟨rfl,Ug ?_⟩
    refine⟨_,rfl,_,rfl,a,b2',dropTrees i h',dropTrees j g',D::p::q::M,rfl,fun x m=>?_,T1.mono sT,T2.mono sT,jZ dh',?_,?_,fun H5 v IV s5=>⟨acc,s5 _ _ hD',by omega,?_⟩⟩
    ·simp only [List.mem_cons] at m
     rcases m with m | m | m | m
     ·rw [m,hD'];intro z;cases z
     ·rw [m,sm _ _ hp'];intro z;cases z
     ·rw [m,sm _ _ hq'];intro z;cases z
     ·obtain⟨o,e⟩:=zD (lv' x m)
      rw [sm _ _ e];intro z;cases z
    ·have:=xj i h'
     have:=ya (dropTrees i h')
     omega
    ·have:=xj j g'
     have:=ya (dropTrees j g')
     omega
    ·refine⟨_,z7,by rw [List.length_append,al];rfl,fun j' hj'=>?_,fun x o e=>by rw [z8 (za e hD)];exact s5 _ _ (sm _ _ e)⟩
     rw [xW (by simp)]
     by_cases cj:j'<j
     ·obtain⟨v',e',I'⟩:=RR j' cj
      exact⟨v',by rw [List.getElem?_append_left (by omega)];exact e',I'.mono ((But.of s5).hid)⟩
     ·have:j'=j:=by omega
      subst this
      exact⟨v,by rw [List.getElem?_append_right (by omega),al,Nat.sub_self];rfl,IV⟩
   ·rintro H'' ⟨acc,hD',al,RR,sm⟩
    refine⟨q,qs,.ref D,rfl,rfl,sm _ _ hq',by omega,?_⟩
    have sQ:zd (hid (p::q::M) H') (hid (p::q::M) (upd H'' q (.lst (qs++[.ref D])))):=by rw [xW (by simp)];exact(But.of sm).hid
    refine⟨_,_,_,_,rfl,z7,by rw [List.length_append,ql];rfl,fun i' hi'=>?_,fun x o e nx=>by rw [z8 (by simpa using nx)];exact sm _ _ (b x o e nx)⟩
    by_cases ci:i'<i
    ·obtain⟨r,xs,e1,e2,I'⟩:=R i' ci
     exact⟨r,xs,by rw [List.getElem?_append_left (by omega)];exact e1,sQ _ _ e2,I'.mono sQ⟩
    ·have:i'=i:=by omega
     subst this
     refine⟨D,acc,by rw [List.getElem?_append_right (by omega),ql,Nat.sub_self];rfl,zt (by simp [nDp,nDq,DM]) (by rw [z8 nDq];exact hD'),?_⟩
     rw [lg'] at RR
     refine RR.mono fun x o e=>?_
     obtain⟨nx,e⟩:=zf e
     simp only [List.mem_cons,not_or] at nx
     exact zt (by simp [nx.2.1,nx.2.2.1,nx.2.2.2]) (by rw [z8 nx.2.2.1];exact e)
  ·rintro σ H5 ⟨v4,v5,v6,qs,rfl,hq5,ql,R,b45⟩
   rw [lh'] at R
   have bH5:But [p] H H5:=fun x o e nx=>b45 x o (b4 x o e nx) (by simpa using za e hqH)
   have hp5:=b45 _ _ hp4 (by simpa using Ne.symm nqp)
   have ho5:=b45 _ _ ho4 (by simpa using noq)
   have hn5:=b45 _ _ hn4 (by simpa using nnq)
   have hl5:=b45 _ _ hl4 (by simpa using nlq)
   obtain⟨I1,I2,I3⟩:=R.open_
   generalize hinn:qr (hid (p::q::M) H5) qs=inn at I1 I2 I3
   refine⟨Nat.zero_le _,fun e0 he0=>⟨(by show 1<=sizeLine;decide),fun e1 he1=>?_⟩⟩
   have s51:zd H5 (upd (upd H5 e0 (.lst [])) e1 (.lst [.ref e0])):=(zd.new he0).trans (zd.new he1)
   have he1':upd (upd H5 e0 (.lst [])) e1 (.lst [.ref e0]) e1=some (.lst [.ref e0]):=z7
   generalize upd (upd H5 e0 (.lst [])) e1 (.lst [.ref e0])=H51 at s51 he1' ⊢
   refine⟨_,rfl,p,X.G.C,dx,_,_,rfl,s51 _ _ hp5,X.G.c,X.G.n,rfl,o,_,rfl,.inl (SqL.of (s51 _ _ ho5)),_,_,rfl,rfl,e1,((hsD.length:Nat):Int)+1,[V.ref e0],rfl,rfl,he1',by omega,by omega,?_,fun c hc=>?_⟩
   ·show 1*_<=_
    omega
   have el:(List.replicate (((hsD.length:Nat):Int)+1).toNat [V.ref e0]).flatten.length=width h'+1:=by
    rw [YB]
    show _*1=_
    omega
   generalize (List.replicate (((hsD.length:Nat):Int)+1).toNat [V.ref e0]).flatten=X0 at el ⊢
   have ncp:c≠p:=Ne.symm (za (s51 _ _ hp5) hc)
   refine⟨_,rfl,p,X.G.C,dx,_,rfl,by rw [z8 (Ne.symm ncp)];exact s51 _ _ hp5,X.G.c,X.G.n,(by show 4<1000;decide),?_⟩
   obtain⟨H6,eH6⟩:∃H6,upd (upd H51 c (.lst X0)) p (.ins X.G.C dx (y4 "costs" (.ref c) [("lead",.ref l),("old",.ref o),("new",.ref n),("inner",.ref q)]))=H6:=⟨_,rfl⟩
   have hp6:H6 p=some (.ins X.G.C dx (gf l o n q c)):=by rw [<-eH6,z7];rfl
   have hc6:H6 c=some (.lst X0):=by rw [<-eH6,z8 ncp,z7]
   have b56:But [p] H5 H6:=by rw [<-eH6];exact((But.of s51).trans (But.new hc)).trans (But.upd (by simp))
   rw [eH6]
   have hc5:H5 c=none:=s51.free hc
   have hcH:H c=none:=bH5.none (by simp [hp5]) hc5
   have cM:=new_M c hcH
   have bH6:=bH5.trans b56
   have ho6:=b56 _ _ ho5 (by simpa using nop)
   have hn6:=b56 _ _ hn5 (by simpa using nnp)
   have hl6:=b56 _ _ hl5 (by simpa using nlp)
   have hq6:=b56 _ _ hq5 (by simpa using nqp)
   have nco:o≠c:=za ho5 hc5
   have ncn:n≠c:=za hn5 hc5
   have ncl:l≠c:=za hl5 hc5
   have ncq:q≠c:=za hq5 hc5
   have s56:zd (hid (p::q::M) H5) (hid (c::M) H6):=fun x u e=>by
    obtain⟨nx,e⟩:=zf e
    simp only [List.mem_cons,not_or] at nx
    exact zt (by simp [za e hc5,nx.2.2]) (b56 x u e (by simpa using nx.1))
   have sHc:∀{H':Hp},But [p] H H'->zd (hid (p::M) H) (hid (c::M) H'):=fun b=>sP _ b (fun x m=>by
    rcases List.mem_cons.mp m with m | m
    ·exact .inr (.inr (by rw [m];exact hcH))
    ·exact .inr (.inl m))
   have Mid6:jw T.T.C X.G.C (hid (c::M) H6) p dx l o n q c h' g' inn:=by
    refine⟨zt (by simp [Ne.symm ncp,pM]) hp6,⟨_,zt (by simp [nco,oM]) ho6,fh'.mono (sHc bH6)⟩,⟨_,zt (by simp [ncn,nM]) hn6,fg'.mono (sHc bH6)⟩,⟨qs,zt (by simp [ncq,qM]) hq6,fun i hi=>?_⟩,I2,fun i j b h1 h2 h3=>(I3 i j b h1 h2 h3).mono s56⟩
    obtain⟨r,xs,e1,e2,e3⟩:=I1 i hi
    exact⟨r,xs,e1,s56 _ _ e2,e3⟩
   refine⟨_,rfl,p,dx,_,rfl,hp6,rfl,p,dx,l,o,n,q,c,h',g',gsD,rfl,hp6,hn6,fg'.mono ((sHc bH6).trans (yn _ _)),zg',fun H7 r hr0 hr7 s67=>?_⟩
   refine⟨_,rfl,p,X.G.C,dx,_,_,rfl,s67 _ _ hp6,X.G.c,X.G.n,rfl,_,rfl,p,X.G.C,dx,_,_,rfl,s67 _ _ hp6,X.G.c,X.G.n,rfl,o,_,rfl,.inl (SqL.of (s67 _ _ ho6)),c,X0,_,width h',rfl,rfl,s67 _ _ hc6,by rw [lh'];exact qY (by omega),?_⟩
   have nrc:r≠c:=fun z=>by rw [z,hc6] at hr0;cases hr0
   have b68:But [c] H6 (upd H7 c (.lst (X0.set (width h') (.ref r)))):=(But.of s67).trans (But.upd (by simp))
   have rM:r∉M:=fun z=>by
    obtain⟨u,e⟩:=zD (lv r z)
    rw [bH6 r u e (by simpa using fun y=>pM (by rw [<-y];exact z))] at hr0
    cases hr0
   have C8:CostsAt (hid M (upd H7 c (.lst (X0.set (width h') (.ref r))))) c h' g' (width h'):=by
    refine⟨_,zt cM z7,by rw [List.length_set];exact el,fun i h1 h2=>⟨r,?_,?_⟩⟩
    ·rw [qW (by omega),if_pos (by omega)]
    ·have:i=width h':=by omega
     subst this
     exact zt rM (by rw [z8 nrc];exact hr7)
   generalize upd H7 c (.lst (X0.set (width h') (.ref r)))=H8 at b68 C8 ⊢
   have keep:∀{H':Hp},But [c] H6 H'->jw T.T.C X.G.C (hid (c::M) H') p dx l o n q c h' g' inn/\But [p] H H':=fun {H'} b=>
    ⟨Mid6.mono (b.mono (by simp)).hid,fun x u e nx=>b x u (bH6 x u e nx) (by simpa using za e hcH)⟩
   obtain⟨Mid8,bH8⟩:=keep b68
   have hp8:=b68 _ _ hp6 (by simpa using Ne.symm ncp)
   have ho8:=b68 _ _ ho6 (by simpa using nco)
   refine⟨_,rfl,p,X.G.C,dx,_,_,rfl,hp8,X.G.c,X.G.n,rfl,o,_,rfl,.inl (SqL.of ho8),_,_,rfl,rfl,_,rfl,_,rfl,_,_,_,width h',rfl,?_,?_⟩
   ·rw [lh'];exact ZJ _ (by omega)
   refine Y0 (n:=width h') (fun t σ H'=>∃v4 v5 v6,σ=[some (.ref p),some (.ref oA),some (.ref nA),some (.int (zI h g)),v4,v5,v6]/\CostsAt (hid M H') c h' g' (width h' - t)/\But [c] H6 H')
    ⟨_,_,_,rfl,C8,b68⟩ ?_ ?_
   ·rintro t σ H' ht ⟨v4,v5,v6,rfl,CA,b⟩
    rw [show((hsD.length:Nat):Int) - 1+((t:Nat):Int)*-1=((width h' - 1 - t:Nat):Int) by omega]
    obtain⟨i,ei⟩:∃i,width h' - 1 - t=i:=⟨_,rfl⟩
    rw [ei]
    have li:i<width h':=by omega
    rw [show width h' - t=i+1 by omega] at CA
    obtain⟨Mid',bH'⟩:=keep b
    have hp':=b _ _ hp6 (by simpa using Ne.symm ncp)
    refine⟨_,rfl,p,dx,_,rfl,hp',rfl,_,rfl,p,dx,l,o,n,q,c,h',g',inn,i,rfl,Mid'.mono (yn _ _),li,CA.mono (yn _ _),zg',fun H9 r9 hr90 hr9 s9=>?_⟩
    obtain⟨cs,hcs,cl,cq⟩:=CA
    have hcs':=(zf hcs).2
    refine⟨_,rfl,p,X.G.C,dx,_,_,rfl,s9 _ _ hp',X.G.c,X.G.n,rfl,_,rfl,c,cs,_,i,rfl,rfl,s9 _ _ hcs',qY (by omega),?_⟩
    have nr9c:r9≠c:=fun z=>by rw [z,hcs'] at hr90;cases hr90
    have r9M:r9∉M:=fun z=>by
     obtain⟨u,e⟩:=zD (lv r9 z)
     rw [bH' r9 u e (by simpa using fun y=>pM (by rw [<-y];exact z))] at hr90
     cases hr90
    refine⟨_,_,_,rfl,⟨_,zt cM z7,by rw [List.length_set];exact cl,fun i' h1 h2=>?_⟩,(b.trans (But.of s9)).trans (But.upd (by simp))⟩
    by_cases ci:i'=i
    ·subst ci
     exact⟨r9,by rw [qW (by omega),if_pos rfl],zt r9M (by rw [z8 nr9c];exact hr9)⟩
    ·obtain⟨r',q1,q2⟩:=cq i' (by omega) h2
     obtain⟨nr',q2⟩:=zf q2
     have nr'c:r'≠c:=fun z=>by
      rw [z,hcs'] at q2
      have:=Option.some.inj q2
      have e:cs=yS h' g' i':=by cases this;rfl
      rw [e] at q1
      by_cases y:i'<=width g'
      ·rw [yx y] at q1;cases q1
      ·rw [List.getElem?_eq_none (by rw [qp];omega)] at q1;cases q1
     exact⟨r',by rw [qW (by omega),if_neg ci];exact q1,zt nr' (by rw [z8 nr'c];exact s9 _ _ q2)⟩
   ·rintro σ H' ⟨v4,v5,v6,rfl,CA,b⟩
    rw [Nat.sub_self] at CA
    obtain⟨Mid',bH'⟩:=keep b
    obtain⟨cs,hcs,cl,cq⟩:=CA
    have sM:zd (hid (c::M) H') (hid M H'):=fun x u e=>by
     obtain⟨nx,e⟩:=zf e
     exact zt (fun z=>nx (List.mem_cons_of_mem _ z)) e
    have sB:=sP M bH' (fun x m=>.inr (.inl m))
    have Mid'':=Mid'.mono sM
    obtain⟨qs',hq',hqr'⟩:=Mid''.hq
    refine k H' (.mk inn eh'.symm eg'.symm Mid''.hp (fh.mono sB) (fg.mono sB) (zt lM (b _ _ hl6 (by simpa using ncl))) ?_ ?_ hq' hqr' Mid''.hi Mid''.hg hcs fun i hi=>cq i (Nat.zero_le _) hi) bH'
    ·rw [hsd];exact zt oM (b _ _ ho6 (by simpa using nco))
    ·rw [gsd];exact zt nM (b _ _ hn6 (by simpa using ncn))
theorem V8 (X:ym K mg) (T:zw K mg):∀d,zj P w K mg base CX0 (3*d+2) X.inner.f X.inner.fd ["one","other"] (spInner T.T.C X.G.C d)
 | 0=>O1 X T _
 | d+1=>ID X T (VL X T (Nat.le_refl _) (V8 X T d))
theorem OM (X:ym K mg) (T:zw K mg) (d:Nat):zj P w K mg base CX0 (3*d+3) X.init.f X.init.fd ["self","old","new"] (spGInit T.T.C X.G.C d):=VL X T (Nat.le_refl _) (V8 X T d)
end
end Hm
end
section
namespace Hm
open PySem PySem.Spec PyProof.Rows L2
open Vaheda (Hedge nodes append width deep children saying dropTrees)
open Vahedn (Fate Slot slots leftAlone paired renewed alone result)
open Vahedl (Script)
def yZ (h g:Hedge):Nat:=if h=.nil then 2 else if g≠.nil/\zq h=zq g/\D h g=pc h g+D (tl h) (tl g) then 0 else if D h g=nodes (hd h)+D (tl h) g then 1 else 2
theorem Ow {h g:Hedge} (e:yZ h g=0):h≠.nil/\g≠.nil/\zq h=zq g/\S h g=yV h g (S (tl h) (tl g)):=by
 unfold yZ at e
 split at e
 ·cases e
 ·rename_i hh
  split at e
  ·rename_i c
   exact⟨hh,c.1,c.2.1,VJ hh c.1 c.2.1 c.2.2⟩
  ·split at e <;> cases e
theorem Oa {h g:Hedge} (e:yZ h g=1):h≠.nil/\S h g=.drop (S (tl h) g):=by
 unfold yZ at e
 split at e
 ·cases e
 ·rename_i hh
  split at e
  ·cases e
  ·rename_i c
   split at e
   ·rename_i c2
    refine⟨hh,?_⟩
    by_cases hg:g=.nil
    ·rw [hg];exact S_r hh
    ·exact OA hh hg (fun z=>c ⟨hg,z⟩) c2
   ·cases e
theorem za6 {h g:Hedge} (e:yZ h g=2) (ne:¬(h=.nil/\g=.nil)):g≠.nil/\S h g=.put (hd g) (S h (tl g)):=by
 unfold yZ at e
 split at e
 ·rename_i hh
  have hg:g≠.nil:=fun z=>ne ⟨hh,z⟩
  rw [hh]
  exact⟨hg,Yz hg⟩
 ·rename_i hh
  split at e
  ·cases e
  ·rename_i c
   split at e
   ·cases e
   ·rename_i c2
    have hg:g≠.nil:=fun z=>c2 (by rw [z,D_r,D_r];exact ya h)
    exact⟨hg,zan hh hg (fun z=>c ⟨hg,z⟩) c2⟩
theorem zbu (h g:Hedge):yZ h g=0\/yZ h g=1\/yZ h g=2:=by
 unfold yZ
 split
 ·exact .inr (.inr rfl)
 ·split
  ·exact .inl rfl
  ·split
   ·exact .inr (.inl rfl)
   ·exact .inr (.inr rfl)
def yr (h g:Hedge):Fate:=if zq g=true then .tx (saying g) (saying h != saying g) else .el (saying g) (saying h != saying g) (S (children h) (children g))
def yD:Fate->Script
 | .el _ _ k=>k
 | _=>.nil
theorem YI (h g:Hedge):yr h g≠.gone:=by
 unfold yr
 split <;> (intro z;cases z)
theorem Y1 (acc:Hedge) (h g:Hedge) (n:Script):slots acc (yV h g n)=({before:=acc,fate:=yr h g}::(slots .nil n).1,(slots .nil n).2):=by
 unfold yV yr
 by_cases c:zq g=true
 ·rw [if_pos c,if_pos c];rfl
 ·rw [if_neg c,if_neg c];rfl
theorem YF {h:Hedge} (e:zq h=true):children h=.nil:=by
 cases h with
 | nil=>rfl
 | el a k n=>cases e
 | tx a n=>rfl
theorem JZ {h g:Hedge} (hh:h≠.nil) (hg:g≠.nil) (e:zq h=zq g):leftAlone (yr h g)=decide (hd h=hd g):=by
 have q:=JO hh hg
 unfold yr
 by_cases c:zq g=true
 ·rw [if_pos c]
  show(!(saying h != saying g))=_
  have k1:=YF c
  have k2:=YF (e.trans c)
  by_cases s:saying h=saying g
  ·rw [decide_eq_true (q.mpr ⟨e,s,by rw [k1,k2]⟩),s]
   simp
  ·rw [decide_eq_false (fun z=>s (q.mp z).2.1)]
   simp [s]
 ·rw [if_neg c]
  show(!(saying h != saying g) && alone (S (children h) (children g)))=_
  rw [Id]
  by_cases s:saying h=saying g
  ·by_cases k:children h=children g
   ·rw [decide_eq_true k,decide_eq_true (q.mpr ⟨e,s,k⟩),s]
    simp
   ·rw [decide_eq_false k,decide_eq_false (fun z=>k (q.mp z).2.2),Bool.and_false]
  ·rw [decide_eq_false (fun z=>s (q.mp z).2.1)]
   simp [s]
theorem Jw {h g:Hedge} (hg:g≠.nil):paired (yr h g)=hd g:=by
 unfold yr
 by_cases c:zq g=true
 ·rw [if_pos c]
  cases g with
  | nil=>exact absurd rfl hg
  | el a k n=>cases c
  | tx a n=>rfl
 ·rw [if_neg c]
  show Hedge.el (saying g) (result (S (children h) (children g))) .nil=hd g
  rw [xh]
  cases g with
  | nil=>exact absurd rfl hg
  | el a k n=>rfl
  | tx a n=>exact absurd rfl c
theorem Yk (h g:Hedge):renewed (yr h g)=(saying h != saying g):=by
 unfold yr
 split <;> rfl
theorem Z8 {h g:Hedge} (e:zq h=zq g):yD (yr h g)=S (children h) (children g):=by
 unfold yr
 by_cases c:zq g=true
 ·rw [if_pos c,YF c,YF (e.trans c),j3];rfl
 ·rw [if_neg c];rfl
theorem zb2 {h g:Hedge} {i:Nat} (hi:i<zI h g):dropTrees i h≠.nil/\dropTrees i g≠.nil/\hd (dropTrees i h)=hd (dropTrees i g):=by
 induction i generalizing h g with
 | zero=>
  rw [zL,zL]
  have hh:h≠.nil:=fun z=>by rw [z,ji] at hi;omega
  have hg:g≠.nil:=fun z=>by rw [z,qm] at hi;omega
  refine⟨hh,hg,?_⟩
  by_cases q:hd h=hd g
  ·exact q
  ·rw [xM q] at hi;omega
 | succ i ih=>
  have hh:h≠.nil:=fun z=>by rw [z,ji] at hi;omega
  have hg:g≠.nil:=fun z=>by rw [z,qm] at hi;omega
  have s:∀(x:Hedge),x≠.nil->dropTrees (i+1) x=dropTrees i (tl x):=fun x hx=>by
   cases x with
   | nil=>exact absurd rfl hx
   | el a k m=>rfl
   | tx a m=>rfl
  by_cases q:hd h=hd g
  ·rw [xm hh hg q] at hi
   rw [s h hh,s g hg]
   exact ih (by omega)
  ·rw [xM q] at hi;omega
def spGFirst (C CG:Addr):Sp:=fun vs H Q _=>∃(p dx l o n q c:Addr) (h g:Hedge) (inn:Nat->Nat->Option Addr) (i j:Nat),vs=[.ref p,.int i,.int j]/\jw C CG H p dx l o n q c h g inn/\i<=width h/\j<=width g /\
 (∃cs,H c=some (.lst cs)/\∀i,i<=width h->∃r,cs[i]? = some (.ref r)/\H r=some (.lst (yS h g i)))/\Q (.int (yZ (dropTrees i h) (dropTrees j g))) H
section
variable {P:Program} {w:World} {K:PySem.W.Frag} {mg:Str->Option Value} {base:Heap}
theorem OJ (X:ym K mg) (T:zw K mg):zj P w K mg base CX0 2 X.first.f X.first.fd ["self","i","j"] (spGFirst T.T.C X.G.C):=by
 have GP:=VM (P:=P) (w:=w) (base:=base) X T
 refine X.first.F.ok scGFirst (fun vs H Q E h=>?_) (fun cdv A outer s H vs Q E hr h=>?_)
 ·obtain⟨_,_,_,_,_,_,_,_,_,_,_,_,rfl,_⟩:=h
  rfl
 ·obtain⟨p,dx,l,o,n,q,c,h,g,inn,i,j,rfl,M,li,lj,⟨cs,hc,cq⟩,k⟩:=h
  refine⟨_,z9 (zy (i:=3) scGFirst.nd rfl (Or.inl rfl) (zN zA (zN zA (ze (pv 0) rfl) (pv 1) (fun _ _=>rfl)) (pv 2) (fun _ _=>rfl)))
   (z9 (zR (zx xO (pv 1) (zU zF (by rfl) X.nlen PySem.boot_len (z6 (ze (pv 0) rfl) zb)) (zG _)) (zc (zn (zP X.kPut))) zE)
   (z9 (zR (jQ (zx qw (pv 2) (zU zF (by rfl) X.nlen PySem.boot_len (z6 (ze (pv 0) rfl) zb)) (zG _))
     (qj (zx xO (ze (zN zA (ze (pv 0) rfl) (pv 1) (fun _ _=>rfl)) rfl) (ze (zN zA (ze (pv 0) rfl) (pv 2) (fun _ _=>rfl)) rfl) (zG _)))).pt
    (zc (zR (zx xO (pv 3) (yb yC (zT (pv 0) X.G.c X.pair.m GP hr X.pair.b .nil zk (z6 (pv 1) (z6 (pv 2) zb))) (zN zA (zN zA (ze (pv 0) rfl) (yb yC (pv 1) zi) (fun _ _=>rfl)) (yb yC (pv 2) zi) (fun _ _=>rfl))) (zG _)) (zc (zn (zP X.kPair))) zE)) zE)
   (z9 (zR (zx xO (pv 3) (yb yC (ze (zN zA (ze (pv 0) rfl) (pv 1) (fun _ _=>rfl)) rfl) (zN zA (zN zA (ze (pv 0) rfl) (yb yC (pv 1) zi) (fun _ _=>rfl)) (pv 2) (fun _ _=>rfl))) (zG _)) (zc (zn (zP X.kDrop))) zE)
   (zc (zn (zP X.kPut)))))),?_⟩
  obtain⟨hp,⟨os,ho,fo⟩,⟨ns,hn,fn⟩,hqq,hi,hg⟩:=id M
  have ol:=fo.len
  have nl:=fn.len
  obtain⟨r,c1,c2⟩:=cq i li
  refine⟨_,rfl,p,X.G.C,dx,_,_,rfl,hp,X.G.c,X.G.n,rfl,_,rfl,c,cs,_,_,rfl,rfl,SqL.of hc,zp c1,_,rfl,r,_,_,_,rfl,rfl,SqL.of c2,zp (yx lj),?_⟩
  refine⟨_,rfl,_,rfl,p,X.G.C,dx,_,_,rfl,hp,X.G.c,X.G.n,rfl,o,os,rfl,.inl (SqL.of ho),rfl,_,rfl,?_⟩
  by_cases ci:i=width h
  ·rw [decide_eq_true (show V.int (i:Nat)=V.int (os.length:Nat) by rw [ol,ci])]
   refine zu ?_
   rw [show yZ (dropTrees i h) (dropTrees j g)=2 by unfold yZ;rw [if_pos (ja (by omega))]] at k
   exact k
  rw [decide_eq_false (show ¬V.int (i:Nat)=V.int (os.length:Nat) from fun z=>ci (by have:=V.int.inj z;omega))]
  refine zr ?_
  have li':i<width h:=by omega
  have hne:dropTrees i h≠.nil:=xT.mpr li'
  obtain⟨v1,hv1⟩:∃v,os[i]? = some v:=⟨_,List.getElem?_eq_getElem (by omega)⟩
  obtain⟨t1,rfl,⟨⟨d1,w1,k1,ks1,a1,a2,a3,a4⟩,ne1⟩⟩:=fo.get hv1
  obtain⟨r2,c3,c4⟩:=cq (i+1) (by omega)
  have tail:¬(dropTrees j g≠.nil/\zq (dropTrees i h)=zq (dropTrees j g)/\D (dropTrees i h) (dropTrees j g)=pc (dropTrees i h) (dropTrees j g)+D (tl (dropTrees i h)) (tl (dropTrees j g))) ->
    yZ (dropTrees i h) (dropTrees j g)=if D (dropTrees i h) (dropTrees j g)=nodes (hd (dropTrees i h))+D (tl (dropTrees i h)) (dropTrees j g) then 1 else 2:=fun z=>by
   unfold yZ
   rw [if_neg hne,if_neg z]
  refine⟨_,rfl,_,rfl,p,X.G.C,dx,_,_,rfl,hp,X.G.c,X.G.n,rfl,n,ns,rfl,.inl (SqL.of hn),_,_,rfl,rfl,_,rfl,?_⟩
  by_cases cj:j<width g
  ·rw [decide_eq_true (show((j:Nat):Int)<((ns.length:Nat):Int) by omega)]
   refine zu ?_
   obtain⟨v2,hv2⟩:∃v,ns[j]? = some v:=⟨_,List.getElem?_eq_getElem (by omega)⟩
   obtain⟨t2,rfl,⟨⟨d2,w2,k2,ks2,b1,b2,b3,b4⟩,ne2⟩⟩:=fn.get hv2
   refine⟨_,rfl,p,X.G.C,dx,_,_,rfl,hp,X.G.c,X.G.n,rfl,_,rfl,o,os,_,_,rfl,rfl,SqL.of ho,zp hv1,t1,T.T.C,d1,_,_,rfl,a1,T.T.c,T.T.n,rfl,?_⟩
   refine⟨_,rfl,p,X.G.C,dx,_,_,rfl,hp,X.G.c,X.G.n,rfl,_,rfl,n,ns,_,_,rfl,rfl,SqL.of hn,zp hv2,t2,T.T.C,d2,_,_,rfl,b1,T.T.c,T.T.n,rfl,rfl,_,rfl,?_⟩
   by_cases e:zq (dropTrees i h)=zq (dropTrees j g)
   ·rw [decide_eq_true (show V.bl (zq (dropTrees i h))=V.bl (zq (dropTrees j g)) by rw [e])]
    refine zu ?_
    refine⟨_,rfl,_,rfl,p,dx,_,rfl,hp,rfl,_,rfl,_,rfl,p,dx,l,o,n,q,c,h,g,inn,i,j,rfl,M,li',cj,?_⟩
    refine⟨_,rfl,p,X.G.C,dx,_,_,rfl,hp,X.G.c,X.G.n,rfl,_,rfl,_,_,rfl,rfl,c,cs,_,_,rfl,rfl,SqL.of hc,zp (j:=i+1) c3,_,rfl,_,_,rfl,rfl,r2,_,_,_,rfl,rfl,SqL.of c4,zp (yx (j:=j+1) (by omega)),_,_,rfl,rfl,rfl,_,rfl,?_⟩
    by_cases cc:D (dropTrees i h) (dropTrees j g)=pc (dropTrees i h) (dropTrees j g)+D (tl (dropTrees i h)) (tl (dropTrees j g))
    ·rw [decide_eq_true (by rw [zo,zo,cc];rfl)]
     refine zu ?_
     rw [show yZ (dropTrees i h) (dropTrees j g)=0 by unfold yZ;rw [if_neg hne,if_pos ⟨ne2,e,cc⟩]] at k
     exact k
    ·rw [decide_eq_false (fun z=>cc (by have:=V.int.inj z;rw [zo,zo] at this;omega))]
     refine zr ?_
     rw [tail (fun z=>cc z.2.2)] at k
     refine⟨_,rfl,_,rfl,p,X.G.C,dx,_,_,rfl,hp,X.G.c,X.G.n,rfl,_,rfl,o,os,_,_,rfl,rfl,SqL.of ho,zp hv1,t1,T.T.C,d1,_,_,rfl,a1,T.T.c,T.T.n,rfl,?_⟩
     refine⟨_,rfl,p,X.G.C,dx,_,_,rfl,hp,X.G.c,X.G.n,rfl,_,rfl,_,_,rfl,rfl,c,cs,_,_,rfl,rfl,SqL.of hc,zp (j:=i+1) c3,_,rfl,r2,_,_,_,rfl,rfl,SqL.of c4,zp (yx lj),_,_,rfl,rfl,rfl,_,rfl,?_⟩
     by_cases c5:D (dropTrees i h) (dropTrees j g)=nodes (hd (dropTrees i h))+D (tl (dropTrees i h)) (dropTrees j g)
     ·rw [decide_eq_true (by rw [zo,c5];rfl)]
      rw [if_pos c5] at k
      exact zu k
     ·rw [decide_eq_false (fun z=>c5 (by have:=V.int.inj z;rw [zo] at this;omega))]
      rw [if_neg c5] at k
      exact zr k
   ·rw [decide_eq_false (show ¬V.bl (zq (dropTrees i h))=V.bl (zq (dropTrees j g)) from fun z=>e (V.bl.inj z))]
    refine zr ?_
    rw [tail (fun z=>e z.2.1)] at k
    refine⟨_,rfl,_,rfl,p,X.G.C,dx,_,_,rfl,hp,X.G.c,X.G.n,rfl,_,rfl,o,os,_,_,rfl,rfl,SqL.of ho,zp hv1,t1,T.T.C,d1,_,_,rfl,a1,T.T.c,T.T.n,rfl,?_⟩
    refine⟨_,rfl,p,X.G.C,dx,_,_,rfl,hp,X.G.c,X.G.n,rfl,_,rfl,_,_,rfl,rfl,c,cs,_,_,rfl,rfl,SqL.of hc,zp (j:=i+1) c3,_,rfl,r2,_,_,_,rfl,rfl,SqL.of c4,zp (yx lj),_,_,rfl,rfl,rfl,_,rfl,?_⟩
    by_cases c5:D (dropTrees i h) (dropTrees j g)=nodes (hd (dropTrees i h))+D (tl (dropTrees i h)) (dropTrees j g)
    ·rw [decide_eq_true (by rw [zo,c5];rfl)]
     rw [if_pos c5] at k
     exact zu k
    ·rw [decide_eq_false (fun z=>c5 (by have:=V.int.inj z;rw [zo] at this;omega))]
     rw [if_neg c5] at k
     exact zr k
  ·rw [decide_eq_false (show ¬((j:Nat):Int)<((ns.length:Nat):Int) by omega)]
   refine zr (zr ?_)
   rw [tail (fun z=>z.1 (ja (by omega)))] at k
   refine⟨_,rfl,_,rfl,p,X.G.C,dx,_,_,rfl,hp,X.G.c,X.G.n,rfl,_,rfl,o,os,_,_,rfl,rfl,SqL.of ho,zp hv1,t1,T.T.C,d1,_,_,rfl,a1,T.T.c,T.T.n,rfl,?_⟩
   refine⟨_,rfl,p,X.G.C,dx,_,_,rfl,hp,X.G.c,X.G.n,rfl,_,rfl,_,_,rfl,rfl,c,cs,_,_,rfl,rfl,SqL.of hc,zp (j:=i+1) c3,_,rfl,r2,_,_,_,rfl,rfl,SqL.of c4,zp (yx lj),_,_,rfl,rfl,rfl,_,rfl,?_⟩
   by_cases c5:D (dropTrees i h) (dropTrees j g)=nodes (hd (dropTrees i h))+D (tl (dropTrees i h)) (dropTrees j g)
   ·rw [decide_eq_true (by rw [zo,c5];rfl)]
    rw [if_pos c5] at k
    exact zu k
   ·rw [decide_eq_false (fun z=>c5 (by have:=V.int.inj z;rw [zo] at this;omega))]
    rw [if_neg c5] at k
    exact zr k
end
end Hm
end
section
namespace Hm
open PySem PySem.Spec PyProof.Rows L2
open Vaheda (Hedge nodes append width deep children saying dropTrees)
open Vahedn (Fate Slot slots leftAlone paired renewed alone result)
open Vahedl (Script)
abbrev sPairInit:Stmt:=zK (top 18) 0
abbrev sRsInit:Stmt:=zK (top 20) 0
abbrev sRsPut:Stmt:=zK (top 20) 1
abbrev sRsFate:Stmt:=zK (top 20) 2
abbrev sPairAlone:Stmt:=top 19
abbrev sTold:Stmt:=top 21
abbrev sGScript:Stmt:=top 22
abbrev sGPairS:Stmt:=top 23
structure zB (K:PySem.W.Frag) (mg:Str->Option Value):Type where
 P:Cl K mg "Pair" ["tree","alone","renewed","row"]
 pinit:Me K P.C "__init__" "Pair.__init__" sPairInit ["self","tree","alone","renewed","row"]
 pmk:Mk K P.C pinit.f
 palone:Df K mg "pair_alone" sPairAlone ["tree"]
 R:Cl K mg "RowScript" ["cost","puts","fates"]
 rinit:Me K R.C "__init__" "RowScript.__init__" sRsInit ["self","cost","lead"]
 rmk:Mk K R.C rinit.f
 put:Me K R.C "add_put" "RowScript.add_put" sRsPut ["self","tree"]
 fate:Me K R.C "add_fate" "RowScript.add_fate" sRsFate ["self","fate"]
 told:Df K mg "told_script" sTold ["old","new"]
 gscript:Df K mg "grid_script" sGScript ["grid"]
 gpair:Df K mg "grid_pair" sGPairS ["grid","i","j"]
def rf (c:Int) (P F:Addr):List (Str×V):=[("cost",.int c),("puts",.ref P),("fates",.ref F)]
def qG (CR:Addr) (G:Hp) (a:Addr) (c:Int):Prop:=∃dx P F,G a=some (.ins CR dx (rf c P F))
theorem qG.mono {CR:Addr} {G G':Hp} {a:Addr} {c:Int} (A:qG CR G a c) (m:zd G G'):qG CR G' a c:=by
 obtain⟨dx,P,F,e⟩:=A
 exact⟨dx,P,F,m _ _ e⟩
def pf (t:Addr) (al rn:Bool) (ro:Option Addr):List (Str×V):=[("tree",.ref t),("alone",.bl al),("renewed",.bl rn),("row",oV ro)]
inductive xi (C:Addr) (G:Hp):List V->List Hedge->Prop where
 | nil:xi C G [] []
 | cons {p:Addr} {ts:List V} {h:Hedge} {r:List V} {hs:List Hedge}:G p=some (.lst ts)->zm C G ts h->xi C G r hs->xi C G (.ref p::r) (h::hs)
theorem xi.mono {C:Addr} {G G':Hp} {vs:List V} {hs:List Hedge} (A:xi C G vs hs) (s:zd G G'):xi C G' vs hs:=by
 induction A with
 | nil=>exact .nil
 | cons a f _ ih=>exact .cons (s _ _ a) (f.mono s) ih
theorem xi.snoc {C:Addr} {G:Hp} {vs:List V} {hs:List Hedge} (A:xi C G vs hs) {p:Addr} {ts:List V} {h:Hedge} (e:G p=some (.lst ts)) (f:zm C G ts h):xi C G (vs++[.ref p]) (hs++[h]):=by
 induction A with
 | nil=>exact .cons e f .nil
 | cons a f' _ ih=>exact .cons a f' ih
theorem xi.len {C:Addr} {G:Hp} {vs:List V} {hs:List Hedge} (A:xi C G vs hs):vs.length=hs.length:=by
 induction A with
 | nil=>rfl
 | cons a f _ ih=>rw [List.length_cons,List.length_cons,ih]
theorem xi.get {C:Addr} {G:Hp} {vs:List V} {hs:List Hedge} (A:xi C G vs hs):∀{i:Nat} {h:Hedge},hs[i]? = some h->∃p ts,vs[i]? = some (.ref p)/\G p=some (.lst ts)/\zm C G ts h:=by
 induction A with
 | nil=>intro i h e;simp at e
 | @cons p ts h0 r hs a f _ ih=>
  intro i h e
  cases i with
  | zero=>cases e;exact⟨p,ts,rfl,a,f⟩
  | succ i=>exact ih e
def FateV (C CP:Addr) (G:Hp) (v:V) (z:Fate) (ro:Option Addr):Prop:=(z=.gone/\v=.non)\/(z≠.gone/\∃pa dp t,v=.ref pa/\G pa=some (.ins CP dp (pf t (leftAlone z) (renewed z) ro))/\zm C G [.ref t] (paired z)/\(leftAlone z=false->ro≠none))
theorem FateV.mono {C CP:Addr} {G G':Hp} {v:V} {z:Fate} {ro:Option Addr} (A:FateV C CP G v z ro) (s:zd G G'):FateV C CP G' v z ro:=by
 rcases A with A | ⟨n,pa,dp,t,e,g,f,q⟩
 ·exact .inl A
 ·exact .inr ⟨n,pa,dp,t,e,s _ _ g,f.mono s,q⟩
def yg (s:Script):List Hedge:=(slots .nil s).1.map (·.before)++[(slots .nil s).2]
inductive yu (C CR CP:Addr) (G:Hp):Addr->Script->Prop where
 | mk {a dx P F:Addr} {c:Int} {s:Script} {ps fs:List V} (ros:List (Option Addr)):G a=some (.ins CR dx (rf c P F))->G P=some (.lst ps)->G F=some (.lst fs)->xi C G ps (yg s)->fs.length=(slots .nil s).1.length ->
   (∀(i:Nat) (z:Slot),(slots .nil s).1[i]? = some z->∃v ro,fs[i]? = some v/\ros[i]? = some ro/\FateV C CP G v z.fate ro)->(∀(i:Nat) (z:Slot) (ra:Addr),(slots .nil s).1[i]? = some z->ros[i]? = some (some ra)->yu C CR CP G ra (yD z.fate))->yu C CR CP G a s
theorem yu.mono {C CR CP:Addr} {G G':Hp} {a:Addr} {s:Script} (A:yu C CR CP G a s) (m:zd G G'):yu C CR CP G' a s:=by
 induction A with
 | mk ros ha hP hF hp hl hf hr ih=>
  refine .mk ros (m _ _ ha) (m _ _ hP) (m _ _ hF) (hp.mono m) hl (fun i z e=>?_) ih
  obtain⟨v,ro,e1,e2,e3⟩:=hf i z e
  exact⟨v,ro,e1,e2,e3.mono m⟩
def xI (C CR CP:Addr) (G:Hp) (v:V) (z:Fate):Prop:=∃ro,FateV C CP G v z ro/\∀ra,ro=some ra->yu C CR CP G ra (yD z)
theorem xI.mono {C CR CP:Addr} {G G':Hp} {v:V} {z:Fate} (A:xI C CR CP G v z) (s:zd G G'):xI C CR CP G' v z:=by
 obtain⟨ro,A,B⟩:=A
 exact⟨ro,A.mono s,fun ra e=>(B ra e).mono s⟩
theorem yu.open_ {C CR CP:Addr} {G:Hp} {a:Addr} {s:Script} (A:yu C CR CP G a s):∃dx c P F ps fs,G a=some (.ins CR dx (rf c P F))/\G P=some (.lst ps)/\G F=some (.lst fs)/\xi C G ps (yg s)/\fs.length=(slots .nil s).1.length /\
  ∀(i:Nat) (z:Slot),(slots .nil s).1[i]? = some z->∃v,fs[i]? = some v/\xI C CR CP G v z.fate:=by
 cases A with
 | @mk _ dx P F c _ ps fs ros ha hP hF hp hl hf hr=>
  refine⟨dx,c,P,F,ps,fs,ha,hP,hF,hp,hl,fun i z e=>?_⟩
  obtain⟨v,ro,e1,e2,e3⟩:=hf i z e
  exact⟨v,e1,ro,e3,fun ra q=>hr i z ra e (by rw [e2,q])⟩
structure RsB (C CR CP:Addr) (H:Hp) (p:Addr) (M M0:List Addr) (done:List Slot) (acc:Hedge) (c:Int):Prop where
 ex:∃(dx P F r:Addr) (ps fs ts:List V) (ros:List (Option Addr)),M=[p,P,F,r]/\M.Nodup/\(∀b∈M,b∉M0)/\H p=some (.ins CR dx (rf c P F))/\H P=some (.lst (ps++[.ref r]))/\H F=some (.lst fs)/\H r=some (.lst ts)/\zm C (hid (M++M0) H) ts acc/\xi C (hid (M++M0) H) ps (done.map (·.before)) /\
  fs.length=done.length/\ros.length=done.length/\(∀(i:Nat) (z:Slot),done[i]? = some z->∃v ro,fs[i]? = some v/\ros[i]? = some ro/\FateV C CP (hid (M++M0) H) v z.fate ro)/\(∀(i:Nat) (z:Slot) (ra:Addr),done[i]? = some z->ros[i]? = some (some ra)->yu C CR CP (hid (M++M0) H) ra (yD z.fate))
theorem RsB.live {C CR CP p:Addr} {H:Hp} {M M0:List Addr} {done:List Slot} {acc:Hedge} {c:Int} (B:RsB C CR CP H p M M0 done acc c):∀b∈M,H b≠none:=by
 obtain⟨dx,P,F,r,ps,fs,ts,ros,rfl,nd,n0,hp,hP,hF,hr,_⟩:=B.ex
 intro b m
 simp only [List.mem_cons,List.not_mem_nil,or_false] at m
 rcases m with m | m | m | m
 ·rw [m,hp];intro z;cases z
 ·rw [m,hP];intro z;cases z
 ·rw [m,hF];intro z;cases z
 ·rw [m,hr];intro z;cases z
theorem RsB.same {C CR CP p:Addr} {H H':Hp} {M M0:List Addr} {done:List Slot} {acc:Hedge} {c:Int} (B:RsB C CR CP H p M M0 done acc c) (s:zd H H'):RsB C CR CP H' p M M0 done acc c:=by
 obtain⟨dx,P,F,r,ps,fs,ts,ros,e,nd,n0,hp,hP,hF,hr,ft,pp,l1,l2,hf,hw⟩:=B.ex
 have m:=(But.of (M:=M++M0) s).hid
 refine⟨dx,P,F,r,ps,fs,ts,ros,e,nd,n0,s _ _ hp,s _ _ hP,s _ _ hF,s _ _ hr,ft.mono m,pp.mono m,l1,l2,fun i z q=>?_,fun i z ra q1 q2=>(hw i z ra q1 q2).mono m⟩
 obtain⟨v,ro,e1,e2,e3⟩:=hf i z q
 exact⟨v,ro,e1,e2,e3.mono m⟩
theorem RsB.row {C CR CP p:Addr} {H:Hp} {M M0:List Addr} {done:List Slot} {acc:Hedge} {c:Int} {s:Script} (B:RsB C CR CP H p M M0 done acc c) (e:slots .nil s=(done,acc)):yu C CR CP (hid M0 H) p s:=by
 obtain⟨dx,P,F,r,ps,fs,ts,ros,rfl,nd,n0,hp,hP,hF,hr,ft,pp,l1,l2,hf,hw⟩:=B.ex
 have m:zd (hid ([p,P,F,r]++M0) H) (hid M0 H):=fun b o q=>by
  obtain⟨n,q⟩:=zf q
  exact zt (fun z=>n (List.mem_append_right _ z)) q
 refine .mk ros (zt (n0 p (by simp)) hp) (zt (n0 P (by simp)) hP) (zt (n0 F (by simp)) hF) ?_ (by rw [e];exact l1) (fun i z q=>?_) (fun i z ra q1 q2=>?_)
 ·unfold yg
  rw [e]
  exact(pp.mono m).snoc (zt (n0 r (by simp)) hr) (ft.mono m)
 ·rw [e] at q
  obtain⟨v,ro,e1,e2,e3⟩:=hf i z q
  exact⟨v,ro,e1,e2,e3.mono m⟩
 ·rw [e] at q1
  exact(hw i z ra q1 q2).mono m
theorem RsB.cost {C CR CP p:Addr} {H:Hp} {M M0:List Addr} {done:List Slot} {acc:Hedge} {c:Int} (B:RsB C CR CP H p M M0 done acc c):qG CR (hid M0 H) p c:=by
 obtain⟨dx,P,F,r,ps,fs,ts,ros,rfl,nd,n0,hp,_⟩:=B.ex
 exact⟨dx,P,F,zt (n0 p (by simp)) hp⟩
def J3 (g:Hedge):Nat->List Slot
 | 0=>[]
 | n+1=>J3 g n++[{before:=.nil,fate:=yr (dropTrees n g) (dropTrees n g)}]
theorem Z6 (g:Hedge):∀n,(J3 g n).length=n
 | 0=>rfl
 | n+1=>by
  show(J3 g n++_).length=_
  rw [List.length_append,Z6 g n];rfl
def spPairInit (CP:Addr):Sp:=fun vs H Q _=>∃(p dx:Addr) (v1 v2 v3 v4:V),vs=[.ref p,v1,v2,v3,v4]/\H p=some (.ins CP dx [])/\∀H',H' p=some (.ins CP dx [("tree",v1),("alone",v2),("renewed",v3),("row",v4)])->But [p] H H'->Q .non H'
def spPairAlone (CP:Addr):Sp:=fun vs H Q _=>∃t:Addr,vs=[.ref t]/\∀H' pa dp,H pa=none->H' pa=some (.ins CP dp (pf t true false none))->zd H H'->Q (.ref pa) H'
def spRsInit (C CR CP:Addr):Sp:=fun vs H Q _=>∃(p dx l:Addr) (c:Int) (gs:List V) (g:Hedge) (n:Nat) (M0:List Addr),vs=[.ref p,.int c,.ref l]/\H p=some (.ins CR dx [])/\p∉M0/\(∀b∈M0,H b≠none)/\H l=some (.lst (gs.take n))/\zm C (hid (p::M0) H) gs g/\n<=width g/\n<=2000 /\
 ∀H' M,RsB C CR CP H' p M M0 (J3 g n) .nil c->(∀b∈M,b=p\/H b=none)->But [p] H H'->Q .non H'
def spRsPut (C CR CP:Addr):Sp:=fun vs H Q _=>∃(p t:Addr) (M M0:List Addr) (done:List Slot) (acc tr:Hedge) (c:Int),vs=[.ref p,.ref t]/\RsB C CR CP H p M M0 done acc c/\zm C (hid (M++M0) H) [.ref t] tr/\width acc<=2000 /\
 ∀H',RsB C CR CP H' p M M0 done (append acc tr) c->But M H H'->Q .non H'
def spRsFate (C CR CP:Addr):Sp:=fun vs H Q _=>∃(p:Addr) (v:V) (M M0:List Addr) (done:List Slot) (acc:Hedge) (z:Fate) (c:Int),vs=[.ref p,v]/\RsB C CR CP H p M M0 done acc c/\xI C CR CP (hid (M++M0) H) v z/\done.length<=2000/\(∀b∈M0,H b≠none) /\
 ∀H' M',RsB C CR CP H' p M' M0 (done++[{before:=acc,fate:=z}]) .nil c->(∀b∈M',b∈M\/H b=none)->But M H H'->Q .non H'
section
variable {P:Program} {w:World} {K:PySem.W.Frag} {mg:Str->Option Value} {base:Heap}
theorem scPairInit:zh ["self","tree","alone","renewed","row"] ["self","tree","alone","renewed","row"] (zg sPairInit):=⟨rfl,rfl,rfl,by decide +kernel,rfl,by decide +kernel,by decide +kernel⟩
theorem scPairAlone:zh ["tree"] ["tree"] (zg sPairAlone):=⟨rfl,rfl,rfl,by decide +kernel,rfl,by decide +kernel,by decide +kernel⟩
theorem scRsInit:zh ["self","cost","lead","tree"] ["self","cost","lead"] (zg sRsInit):=⟨rfl,rfl,rfl,by decide +kernel,rfl,by decide +kernel,by decide +kernel⟩
theorem scRsPut:zh ["self","tree"] ["self","tree"] (zg sRsPut):=⟨rfl,rfl,rfl,by decide +kernel,rfl,by decide +kernel,by decide +kernel⟩
theorem scRsFate:zh ["self","fate"] ["self","fate"] (zg sRsFate):=⟨rfl,rfl,rfl,by decide +kernel,rfl,by decide +kernel,by decide +kernel⟩
theorem YN (X:zB K mg):zj P w K mg base CX0 1 X.pinit.f X.pinit.fd ["self","tree","alone","renewed","row"] (spPairInit X.P.C):=by
 refine X.pinit.F.ok scPairInit (fun vs H Q E h=>?_) (fun cdv A outer s H vs Q E hr h=>?_)
 ·obtain⟨_,_,_,_,_,_,rfl,_⟩:=h
  rfl
 ·obtain⟨p,dx,v1,v2,v3,v4,rfl,hp,k⟩:=h
  refine⟨_,z9 (zZ (pv 0) (pv 1) rfl) (z9 (zZ (pv 0) (pv 2) rfl) (z9 (zZ (pv 0) (pv 3) rfl) (zc (zZ (pv 0) (pv 4) rfl)))),?_⟩
  refine⟨_,rfl,_,rfl,p,X.P.C,dx,_,rfl,hp,X.P.c,X.P.n,(by show 0<1000;decide),?_⟩
  refine⟨_,rfl,_,rfl,p,X.P.C,dx,_,rfl,z7,X.P.c,X.P.n,(by show 1<1000;decide),?_⟩
  refine⟨_,rfl,_,rfl,p,X.P.C,dx,_,rfl,z7,X.P.c,X.P.n,(by show 2<1000;decide),?_⟩
  refine⟨_,rfl,_,rfl,p,X.P.C,dx,_,rfl,z7,X.P.c,X.P.n,(by show 3<1000;decide),?_⟩
  rw [x6,x6,x6]
  exact k _ z7 (But.upd (by simp))
theorem Ip (X:zB K mg) (C:Addr):zj P w K mg base CX0 1 X.put.f X.put.fd ["self","tree"] (spRsPut C X.R.C X.P.C):=by
 refine X.put.F.ok scRsPut (fun vs H Q E h=>?_) (fun cdv A outer s H vs Q E hr h=>?_)
 ·obtain⟨_,_,_,_,_,_,_,_,rfl,_⟩:=h
  rfl
 ·obtain⟨p,t,M,M0,done,acc,tr,c,rfl,B,ft,sz,k⟩:=h
  have hz:sizeLine=16777216:=sizeLine_eq
  refine⟨_,zc (zz (yK PySem.F.plainAttrs_list PySem.F.slot_list_append PySem.F.type_list_append yc (zN zA (ze (pv 0) rfl) (j5 xy zi) (fun _ _=>rfl)) (z6 (pv 1) zb))),?_⟩
  obtain⟨dx,P',F,r,ps,fs,ts,ros,rfl,nd,n0,hp,hP,hF,hr',fa,pp,l1,l2,hf,hw⟩:=B.ex
  have tl:=fa.len
  refine⟨_,rfl,p,X.R.C,dx,_,_,rfl,hp,X.R.c,X.R.n,rfl,_,rfl,P',_,_,_,rfl,rfl,SqL.of hP,J8 _ _,.inl ⟨rfl,_,SqL.of hr'⟩,_,rfl,r,_,_,rfl,rfl,hr',by omega,?_⟩
  have b1:But [p,P',F,r] H (upd H r (.lst (ts++[.ref t]))):=But.upd (by simp)
  have s1:zd (hid ([p,P',F,r]++M0) H) (hid ([p,P',F,r]++M0) (upd H r (.lst (ts++[.ref t])))):=by rw [xW (by simp)];exact zd.refl _
  have nd0:=nd
  simp only [List.nodup_cons,List.mem_cons,List.not_mem_nil,or_false,not_or] at nd
  refine k _ ⟨dx,P',F,r,ps,fs,_,ros,rfl,nd0,n0,by rw [z8 nd.1.2.2];exact hp,by rw [z8 nd.2.1.2];exact hP,by rw [z8 nd.2.2.1];exact hF,z7,(fa.append ft).mono s1,pp.mono s1,l1,l2,fun i z e=>?_,fun i z ra e1 e2=>(hw i z ra e1 e2).mono s1⟩ b1
  obtain⟨v,ro,e1,e2,e3⟩:=hf i z e
  exact⟨v,ro,e1,e2,e3.mono s1⟩
theorem ZU (X:zB K mg) (C:Addr):zj P w K mg base CX0 1 X.fate.f X.fate.fd ["self","fate"] (spRsFate C X.R.C X.P.C):=by
 refine X.fate.F.ok scRsFate (fun vs H Q E h=>?_) (fun cdv A outer s H vs Q E hr h=>?_)
 ·obtain⟨_,_,_,_,_,_,_,_,rfl,_⟩:=h
  rfl
 ·obtain⟨p,v,M,M0,done,acc,z,c,rfl,B,fz,sz,lv0,k⟩:=h
  have hz:sizeLine=16777216:=sizeLine_eq
  have lv:=B.live
  refine⟨_,z9 (zz (yK PySem.F.plainAttrs_list PySem.F.slot_list_append PySem.F.type_list_append yc (ze (pv 0) rfl) (z6 (pv 1) zb)))
   (zc (zz (yK PySem.F.plainAttrs_list PySem.F.slot_list_append PySem.F.type_list_append yc (ze (pv 0) rfl) (z6 (zM zb) zb)))),?_⟩
  obtain⟨dx,P',F,r,ps,fs,ts,ros,rfl,nd,n0,hp,hP,hF,hr',fa,pp,l1,l2,hf,hw⟩:=B.ex
  have nd0:=nd
  simp only [List.nodup_cons,List.mem_cons,List.not_mem_nil,or_false,not_or] at nd
  obtain⟨⟨npP,npF,npr⟩,⟨nPF,nPr⟩,nFr,_⟩:=nd
  refine⟨_,rfl,p,X.R.C,dx,_,_,rfl,hp,X.R.c,X.R.n,rfl,.inl ⟨rfl,_,SqL.of hF⟩,_,rfl,F,_,_,rfl,rfl,hF,by omega,?_⟩
  have hP1:upd H F (.lst (fs++[v])) P'=some (.lst (ps++[.ref r])):=by rw [z8 nPF];exact hP
  have hp1:upd H F (.lst (fs++[v])) p=some (.ins X.R.C dx (rf c P' F)):=by rw [z8 npF];exact hp
  refine⟨_,rfl,p,X.R.C,dx,_,_,rfl,hp1,X.R.c,X.R.n,rfl,.inl ⟨rfl,_,SqL.of hP1⟩,Nat.zero_le _,fun r2 hr2=>?_⟩
  have n2F:r2≠F:=fun y=>by rw [y,z7] at hr2;cases hr2
  have r2H:H r2=none:=by rw [z8 n2F] at hr2;exact hr2
  have n2p:r2≠p:=fun y=>lv p (by simp) (by rw [<-y];exact r2H)
  have n2P:r2≠P':=fun y=>lv P' (by simp) (by rw [<-y];exact r2H)
  have n2r:r2≠r:=fun y=>lv r (by simp) (by rw [<-y];exact r2H)
  have pl:=pp.len
  rw [List.length_map] at pl
  refine⟨P',_,_,rfl,rfl,by rw [z8 (Ne.symm n2P)];exact hP1,by rw [List.length_append];show ps.length+1<_;omega,?_⟩
  have b4:But [p,P',F,r] H (upd (upd (upd H F (.lst (fs++[v]))) r2 (.lst [])) P' (.lst ((ps++[.ref r])++[.ref r2]))):=((But.upd (by simp)).trans (But.new hr2)).trans (But.upd (by simp))
  have mm:∀b∈[p,P',F,r2],b∈[p,P',F,r]\/H b=none:=fun b m=>by
   simp only [List.mem_cons,List.not_mem_nil,or_false] at m ⊢
   rcases m with m | m | m | m
   ·exact .inl (.inl m)
   ·exact .inl (.inr (.inl m))
   ·exact .inl (.inr (.inr (.inl m)))
   ·exact .inr (by rw [m];exact r2H)
  have s4:zd (hid ([p,P',F,r]++M0) H) (hid ([p,P',F,r2]++M0) (upd (upd (upd H F (.lst (fs++[v]))) r2 (.lst [])) P' (.lst ((ps++[.ref r])++[.ref r2])))):=
   (b4.mono (fun b m=>List.mem_append_left _ m)).hidM fun b m=>by
    rcases List.mem_append.mp m with m | m
    ·rcases mm b m with y | y
     ·exact .inl (List.mem_append_left _ y)
     ·exact .inr y
    ·exact .inl (List.mem_append_right _ m)
  obtain⟨ro,fv,frow⟩:=fz
  have r0:r∉M0:=n0 r (by simp)
  refine k _ [p,P',F,r2] ⟨dx,P',F,r2,ps++[.ref r],fs++[v],[],ros++[ro],rfl,?_,?_,?_,z7,?_,?_,.nil,?_,?_,?_,fun i z' e=>?_,fun i z' ra e1 e2=>?_⟩ mm b4
  ·simp [npP,npF,Ne.symm n2p,nPF,Ne.symm n2P,Ne.symm n2F]
  ·intro b m
   rcases mm b m with y | y
   ·exact n0 b y
   ·exact fun q=>lv0 b q y
  ·rw [z8 npP,z8 (Ne.symm n2p),z8 npF];exact hp
  ·rw [z8 (Ne.symm nPF),z8 (Ne.symm n2F),z7]
  ·rw [z8 n2P,z7]
  ·rw [List.map_append]
   refine(pp.mono s4).snoc (ts:=ts) (zt ?_ ?_) (fa.mono s4)
   ·simp [Ne.symm npr,Ne.symm nPr,Ne.symm nFr,Ne.symm n2r,r0]
   ·rw [z8 (Ne.symm nPr),z8 (Ne.symm n2r),z8 (Ne.symm nFr)];exact hr'
  ·rw [List.length_append,List.length_append,l1];rfl
  ·rw [List.length_append,List.length_append,l2];rfl
  ·by_cases cc:i<done.length
   ·rw [List.getElem?_append_left cc] at e
    obtain⟨v',ro',e1,e2,e3⟩:=hf i z' e
    exact⟨v',ro',by rw [List.getElem?_append_left (by omega)];exact e1,by rw [List.getElem?_append_left (by omega)];exact e2,e3.mono s4⟩
   ·rw [List.getElem?_append_right (by omega)] at e
    have ei:i - done.length=0:=by
     by_cases y:i - done.length=0
     ·exact y
     ·rw [List.getElem?_eq_none (by simp;omega)] at e;cases e
    rw [ei] at e
    cases e
    exact⟨v,ro,by rw [List.getElem?_append_right (by omega),l1,ei];rfl,by rw [List.getElem?_append_right (by omega),l2,ei];rfl,fv.mono s4⟩
  ·by_cases cc:i<done.length
   ·rw [List.getElem?_append_left cc] at e1
    rw [List.getElem?_append_left (by omega)] at e2
    exact(hw i z' ra e1 e2).mono s4
   ·rw [List.getElem?_append_right (by omega)] at e1 e2
    have ei:i - done.length=0:=by
     by_cases y:i - done.length=0
     ·exact y
     ·rw [List.getElem?_eq_none (by simp;omega)] at e1;cases e1
    rw [l2,ei] at e2
    rw [ei] at e1
    cases e1
    have e2:some ro=some (some ra):=e2
    exact(frow ra (Option.some.inj e2)).mono s4
theorem Yu (X:zB K mg):zj P w K mg base CX0 3 X.palone.f X.palone.fd ["tree"] (spPairAlone X.P.C):=by
 have GI:=YN (P:=P) (w:=w) (base:=base) X
 refine X.palone.F.ok scPairAlone (fun vs H Q E h=>?_) (fun cdv A outer s H vs Q E hr h=>?_)
 ·obtain⟨_,rfl,_⟩:=h
  rfl
 ·obtain⟨t,rfl,k⟩:=h
  refine⟨_,zc (zn (xr X.pmk GI hr rfl X.P.g X.pinit.b .nil zk (z6 (pv 0) (z6 ZC (z6 ZC (z6 xB zb)))))),?_⟩
  exact⟨_,rfl,fun pa dpa hpa hdpa ndpa=>⟨pa,dpa,_,_,_,_,rfl,z7,fun H2 h2 b2=>⟨rfl,k H2 pa dpa hpa h2 (zd.made hpa hdpa b2)⟩⟩⟩
theorem ZX (X:zB K mg) (C:Addr):zj P w K mg base CX0 4 X.rinit.f X.rinit.fd ["self","cost","lead"] (spRsInit C X.R.C X.P.C):=by
 have GF:=ZU (P:=P) (w:=w) (base:=base) X C
 have GA:=Yu (P:=P) (w:=w) (base:=base) X
 refine X.rinit.F.ok scRsInit (fun vs H Q E h=>?_) (fun cdv A outer s H vs Q E hr h=>?_)
 ·obtain⟨_,_,_,_,_,_,_,_,rfl,_⟩:=h
  rfl
 ·obtain⟨p,dx,l,c,gs,g,n,M0,rfl,hp,pM0,lv,hl,fg,ng,nz,k⟩:=h
  have hr1:zJ 1 _:=hr.mono (by omega)
  refine⟨_,z9 (zZ (pv 0) (pv 1) rfl) (z9 (zZ (pv 0) (zM (z6 (zM zb) zb)) rfl) (z9 (zZ (pv 0) (zM zb) rfl)
   (zc (xF PassesOwn.never rfl (jh (pv 2)) (yA (i:=3) scRsInit.nd rfl (Or.inl rfl))
    (zc (zz (zT (pv 0) X.R.c X.fate.m GF hr1 X.fate.b .nil zk (z6 (zC GA hr (by rfl) X.palone.m X.palone.F.kp X.palone.b .nil zk (z6 (pv 3) zb)) zb)))))))),?_⟩
  refine⟨_,rfl,_,rfl,p,X.R.C,dx,_,rfl,hp,X.R.c,X.R.n,(by show 0<1000;decide),?_⟩
  obtain⟨H0,eH0⟩:∃H0,upd H p (.ins X.R.C dx (y4 "cost" (.int c) []))=H0:=⟨_,rfl⟩
  have hp0:H0 p=some (.ins X.R.C dx [("cost",.int c)]):=by rw [<-eH0,z7];rfl
  have b0:But [p] H H0:=by rw [<-eH0];exact But.upd (by simp)
  rw [eH0]
  refine⟨Nat.zero_le _,fun r hr0=>⟨(by show 1<=sizeLine;decide),fun R hR0=>?_⟩⟩
  have npr:p≠r:=za hp0 hr0
  have h1:upd H0 r (.lst []) p=some (.ins X.R.C dx [("cost",.int c)]):=by rw [z8 npr];exact hp0
  have npR:p≠R:=za h1 hR0
  have nrR:r≠R:=za (z7 (H:=H0) (a:=r)) hR0
  have hR1:H0 R=none:=by rw [z8 nrR.symm] at hR0;exact hR0
  refine⟨_,rfl,p,X.R.C,dx,_,rfl,by rw [z8 npR];exact h1,X.R.c,X.R.n,(by show 1<1000;decide),?_⟩
  refine⟨Nat.zero_le _,fun Nn hN0=>?_⟩
  have npN:p≠Nn:=fun z=>by rw [<-z,z7] at hN0;cases hN0
  have hN1:=hN0
  rw [z8 npN.symm] at hN1
  have nRN:R≠Nn:=za (z7 (a:=R)) hN1
  have hN2:=hN1
  rw [z8 nRN.symm] at hN2
  have nrN:r≠Nn:=za (z7 (H:=H0) (a:=r)) hN2
  have hN3:H0 Nn=none:=by rw [z8 nrN.symm] at hN2;exact hN2
  refine⟨_,rfl,p,X.R.C,dx,_,rfl,by rw [z8 npN,z7],X.R.c,X.R.n,(by show 2<1000;decide),?_⟩
  have nH:∀{b:Addr},H0 b=none->H b=none:=fun {b} z=>b0.none (by simp [hp0]) z
  have nrH:=nH hr0
  have nRH:=nH hR1
  have nNH:=nH hN3
  obtain⟨H1,eH1⟩:∃H1,H1=upd (upd (upd (upd (upd H0 r (.lst [])) R (.lst [.ref r])) p (.ins X.R.C dx (y4 "puts" (.ref R) [("cost",.int c)]))) Nn (.lst [])) p (.ins X.R.C dx (y4 "fates" (.ref Nn) (y4 "puts" (.ref R) [("cost",.int c)]))):=⟨_,rfl⟩
  rw [<-eH1]
  have B1:RsB C X.R.C X.P.C H1 p [p,R,Nn,r] M0 [] .nil c:=by
   refine⟨dx,R,Nn,r,[],[],[],[],rfl,?_,?_,by rw [eH1,z7];rfl,?_,?_,?_,.nil,.nil,rfl,rfl,fun i z e=>by simp at e,fun i z ra e=>by simp at e⟩
   ·simp [npr,npR,npN,nRN,nrR.symm,nrN.symm]
   ·intro b m z
    simp only [List.mem_cons,List.not_mem_nil,or_false] at m
    rcases m with m | m | m | m
    ·exact pM0 (by rw [<-m];exact z)
    ·exact lv b z (by rw [m];exact nRH)
    ·exact lv b z (by rw [m];exact nNH)
    ·exact lv b z (by rw [m];exact nrH)
   ·rw [eH1,z8 npR.symm,z8 nRN,z8 npR.symm,z7];rfl
   ·rw [eH1,z8 npN.symm,z7]
   ·rw [eH1,z8 npr.symm,z8 nrN,z8 npr.symm,z8 nrR,z7]
  have m1:∀b∈[p,R,Nn,r],b=p\/H b=none:=by
   intro b m
   simp only [List.mem_cons,List.not_mem_nil,or_false] at m
   rcases m with m | m | m | m
   ·exact .inl m
   ·exact .inr (by rw [m];exact nRH)
   ·exact .inr (by rw [m];exact nNH)
   ·exact .inr (by rw [m];exact nrH)
  have b1:But [p] H H1:=by
   intro b o e n
   have n:b≠p:=by simpa using n
   rw [eH1,z8 n,z8 (za e nNH),z8 n,z8 (za e nRH),z8 (za e nrH)]
   exact b0 b o e (by simpa using n)
  have nlp:l≠p:=fun z=>by rw [z,hp] at hl;cases hl
  have gl:=fg.len
  have lvM:∀{H':Hp},But [p] H H'->∀b∈M0,H' b≠none:=fun bm b m=>by
   obtain⟨o,q⟩:=zD (lv b m)
   rw [bm _ _ q (by simpa using fun z=>pM0 (by rw [<-z];exact m))]
   intro z;cases z
  have at_:∀{H':Hp} {M:List Addr} {done:List Slot} {acc:Hedge},RsB C X.R.C X.P.C H' p M M0 done acc c->∃dx P F,H' p=some (.ins X.R.C dx (rf c P F)):=fun B=>by
   obtain⟨dx,P,F,_,_,_,_,_,_,_,_,h,_⟩:=B.ex
   exact⟨dx,P,F,h⟩
  refine⟨_,rfl,l,rfl,⟨_,SqL.of (b1 _ _ hl (by simpa using nlp))⟩,jq (K:=K) (a:=l) (xs:=gs.take n)
   (fun i σ H'=>∃vt M,σ=[some (.ref p),some (.int c),some (.ref l),vt]/\RsB C X.R.C X.P.C H' p M M0 (J3 g i) .nil c/\But [p] H H'/\∀b∈M,b=p\/H b=none)
   ⟨none,_,rfl,B1,b1,m1⟩ (fun i σ H' _ ⟨_,_,_,_,bm,_⟩=>SqL.of (bm _ _ hl (by simpa using nlp))) ?_ ?_⟩
  ·rintro i x σ H' hi ⟨vt,M,rfl,B,bm,mM⟩
   have hlt:=(List.getElem?_eq_some_iff.mp hi).1
   rw [List.length_take] at hlt
   have li:i<n:=by omega
   rw [List.getElem?_take_of_lt li] at hi
   obtain⟨t,rfl,T1⟩:=fg.get hi
   have ne1:dropTrees i g≠.nil:=T1.2
   obtain⟨dxq,P',F',hp'⟩:=at_ B
   refine⟨_,rfl,p,dxq,_,rfl,hp',rfl,_,rfl,t,rfl,fun H2 pa dpa hpa h2 s2=>?_⟩
   have paM:pa∉M++M0:=fun z=>by
    rcases List.mem_append.mp z with z | z
    ·exact B.live pa z hpa
    ·exact lvM bm pa z hpa
   have sG:zd (hid (p::M0) H) (hid (M++M0) H2):=fun b o e=>by
    obtain⟨nb,e⟩:=zf e
    simp only [List.mem_cons,not_or] at nb
    refine zt (fun z=>?_) (s2 _ _ (bm b o e (by simpa using nb.1)))
    rcases List.mem_append.mp z with z | z
    ·rcases mM b z with y | y
     ·exact nb.1 y
     ·rw [y] at e;cases e
    ·exact nb.2 z
   have fa:=JZ ne1 ne1 rfl
   rw [decide_eq_true rfl] at fa
   refine⟨p,.ref pa,M,M0,J3 g i,.nil,yr (dropTrees i g) (dropTrees i g),c,rfl,B.same s2,⟨none,.inr ⟨YI _ _,pa,dpa,t,rfl,zt paM ?_,?_,fun z=>?_⟩,fun ra z=>by cases z⟩,by rw [Z6];omega,?_,fun H3 M3 B3 mm b3=>?_⟩
   ·rw [h2,fa,Yk]
    have:(saying (dropTrees i g) != saying (dropTrees i g))=false:=by simp
    rw [this]
   ·rw [Jw ne1];exact(T1.mono sG).one
   ·rw [fa] at z;cases z
   ·exact lvM (bm.trans (But.of s2))
   ·refine⟨_,M3,rfl,B3,fun b o e nb=>b3 b o (s2 _ _ (bm b o e nb)) (fun z=>?_),fun b z=>?_⟩
    ·rcases mM b z with y | y
     ·exact nb (by simpa using y)
     ·rw [y] at e;cases e
    ·rcases mm b z with y | y
     ·exact mM b y
     ·by_cases bp:b=p
      ·exact .inl bp
      ·refine .inr ?_
       have y':=s2.free y
       cases q:H b with
       | none=>rfl
       | some o=>rw [bm b o q (by simpa using bp)] at y';cases y'
  ·rintro σ H4 ⟨vt,M,rfl,B,bm,mM⟩
   rw [List.length_take,gl,Nat.min_eq_left ng] at B
   exact k H4 M B mM bm
end
end Hm
end
section
namespace Hm
open PySem PySem.Spec PyProof.Rows L2
open Vaheda (Hedge nodes append width deep children saying dropTrees)
open Vahedn (Fate Slot slots leftAlone paired renewed alone result)
open Vahedl (Script)
theorem Io {C G B:Prop} (body:C->G) (use:(C->G)->B):B:=use body
def spGScript (C CG CR CP:Addr) (d:Nat):Sp:=fun vs H Q _=>∃(ga:Addr) (h g:Hedge) (M0:List Addr),vs=[.ref ga]/\(∀b∈M0,H b≠none)/\xz C CG (hid M0 H) ga h g/\deep h<=d/\nodes h<=2000/\nodes g<=2000 /\
 ∀H' a,H a=none->yu C CR CP (hid M0 H') a (S h g)->qG CR (hid M0 H') a (D h g:Nat)->zd H H'->Q (.ref a) H'
def spTold (C CR CP:Addr) (d:Nat):Sp:=fun vs H Q _=>∃(oA nA:Addr) (h g:Hedge) (hs gs:List V) (M0:List Addr),vs=[.ref oA,.ref nA]/\(∀b∈M0,H b≠none)/\H oA=some (.lst hs)/\H nA=some (.lst gs)/\zm C (hid M0 H) hs h/\zm C (hid M0 H) gs g/\deep h<=d/\nodes h<=2000/\nodes g<=2000 /\
 ∀H' a,H a=none->yu C CR CP (hid M0 H') a (S h g)->qG CR (hid M0 H') a (D h g:Nat)->zd H H'->Q (.ref a) H'
def spGPairS (C CG CR CP:Addr) (d:Nat):Sp:=fun vs H Q _=>∃(ga:Addr) (h g h' g':Hedge) (i j:Nat) (M0:List Addr),vs=[.ref ga,.int i,.int j]/\(∀b∈M0,H b≠none)/\xz C CG (hid M0 H) ga h g/\h'=dropTrees (zI h g) h/\g'=dropTrees (zI h g) g/\i<width h'/\j<width g'/\zq (dropTrees i h')=zq (dropTrees j g') /\
 deep h<=d/\nodes h<=2000/\nodes g<=2000/\∀H' v,xI C CR CP (hid M0 H') v (yr (dropTrees i h') (dropTrees j g'))->zd H H'->Q v H'
theorem za2 {h:Hedge} (hh:h≠.nil):width (hd h)=1:=by
 cases h with
 | nil=>exact absurd rfl hh
 | el a k n=>rfl
 | tx a n=>rfl
theorem ZF (a b:Vaheda.Text):(a != b)=!decide (a=b):=by
 by_cases c:a=b
 ·simp [c]
 ·simp [c]
section
variable {P:Program} {w:World} {K:PySem.W.Frag} {mg:Str->Option Value} {base:Heap}
theorem scTold:zh ["old","new"] ["old","new"] (zg sTold):=⟨rfl,rfl,rfl,by decide +kernel,rfl,by decide +kernel,by decide +kernel⟩
theorem xN:zh ["grid","script","i","j","step"] ["grid"] (zg sGScript):=⟨rfl,rfl,rfl,by decide +kernel,rfl,by decide +kernel,by decide +kernel⟩
theorem scGPairS:zh ["grid","i","j","one","other","inner","row"] ["grid","i","j"] (zg sGPairS):=⟨rfl,rfl,rfl,by decide +kernel,rfl,by decide +kernel,by decide +kernel⟩
theorem UO {d k0:Nat} (X:zB K mg) (N:ym K mg) (T:zw K mg) (hk:3*d+4<=k0) (GS:zj P w K mg base CX0 k0 X.gscript.f X.gscript.fd ["grid"] (spGScript T.T.C N.G.C X.R.C X.P.C d)):zj P w K mg base CX0 (k0+1) X.told.f X.told.fd ["old","new"] (spTold T.T.C X.R.C X.P.C d):=by
 have GG:=OM (P:=P) (w:=w) (base:=base) N T d
 refine X.told.F.ok scTold (fun vs H Q E h=>?_) (fun cdv A outer s H vs Q E hr h=>?_)
 ·obtain⟨_,_,_,_,_,_,_,rfl,_⟩:=h
  rfl
 ·obtain⟨oA,nA,h,g,hs,gs,M0,rfl,lv,hoA,hnA,fh,fg,dp,z1,z2,k⟩:=h
  have hr1:zJ (3*d+3+1) _:=hr.mono hk
  refine⟨_,zc (zn (zC GS hr (by rfl) X.gscript.m X.gscript.F.kp X.gscript.b .nil zk (z6 (xr N.mk1 GG hr1 rfl N.G.g N.init.b .nil zk (z6 (pv 0) (z6 (pv 1) zb))) zb))),?_⟩
  refine⟨_,rfl,_,rfl,fun p dx hp hdx ndx=>?_⟩
  have pM:p∉M0:=fun z=>lv p z hp
  have s0:zd H (upd (upd H dx (.own p)) p (.ins N.G.C dx [])):=(zd.new hdx).trans (zd.new (by rw [z8 (Ne.symm ndx)];exact hp))
  have sN:zd (hid M0 H) (hid (p::M0) (upd (upd H dx (.own p)) p (.ins N.G.C dx []))):=fun b o e=>by
   obtain⟨n,e⟩:=zf e
   exact zt (by simp [za e hp,n]) (s0 b o e)
  refine⟨p,dx,oA,nA,h,g,hs,gs,M0,rfl,z7,pM,fun b m=>?_,s0 _ _ hoA,s0 _ _ hnA,fh.mono sN,fg.mono sN,dp,z1,z2,fun H1 G1 b1=>⟨rfl,?_⟩⟩
  ·obtain⟨o,q⟩:=zD (lv b m)
   rw [s0 _ _ q]
   intro z;cases z
  have s1:=zd.made hp hdx b1
  refine⟨p,h,g,M0,rfl,fun b m=>?_,G1,dp,z1,z2,fun H2 a ha R cR s2=>k H2 a (s1.free ha) R cR (s1.trans s2)⟩
  obtain⟨o,q⟩:=zD (lv b m)
  rw [s1 _ _ q]
  intro z;cases z
theorem NY (X:zB K mg) (N:ym K mg) (T:zw K mg) (k:Nat):zj P w K mg base CX0 k X.gpair.f X.gpair.fd ["grid","i","j"] (spGPairS T.T.C N.G.C X.R.C X.P.C 0):=
 ⟨fun vs H Q E h=>by obtain⟨_,_,_,_,_,_,_,_,rfl,_⟩:=h;rfl,fun A outer s H args us vs Q E _ _ _ _ h=>by
   obtain⟨_,h,g,h',g',i,j,M0,_,_,_,e1,_,li,_,_,dp,_⟩:=h
   subst e1
   have:dropTrees i (dropTrees (zI h g) h)≠.nil:=xT.mpr li
   have a:=yU this
   have b:=xL i (dropTrees (zI h g) h)
   have c:=xL (zI h g) h
   omega⟩
theorem Ih {d k0:Nat} (X:zB K mg) (N:ym K mg) (T:zw K mg) (hk:3*d+4<=k0) (GS:zj P w K mg base CX0 k0 X.gscript.f X.gscript.fd ["grid"] (spGScript T.T.C N.G.C X.R.C X.P.C d)) (GT:zj P w K mg base CX0 k0 X.told.f X.told.fd ["old","new"] (spTold T.T.C X.R.C X.P.C d)) :
  zj P w K mg base CX0 (k0+1) X.gpair.f X.gpair.fd ["grid","i","j"] (spGPairS T.T.C N.G.C X.R.C X.P.C (d+1)):=by
 have GE:=(ZQ (P:=P) (w:=w) (base:=base) T (d+1)).mono (show 3*(d+1)+1<=k0 by omega)
 have GI:=YN (P:=P) (w:=w) (base:=base) X
 have GA:=Yu (P:=P) (w:=w) (base:=base) X
 refine X.gpair.F.ok scGPairS (fun vs H Q E h=>?_) (fun cdv A outer s H vs Q E hr h=>?_)
 ·obtain⟨_,_,_,_,_,_,_,_,rfl,_⟩:=h
  rfl
 ·obtain⟨ga,h,g,h',g',i,j,M0,rfl,lv,A0,eh',eg',li,lj,tx,dp,z1,z2,k⟩:=h
  have hr2:zJ 2 _:=hr.mono (by omega)
  have hr3:zJ 3 _:=hr.mono (by omega)
  refine⟨_,z9 (zy (i:=3) scGPairS.nd rfl (Or.inl rfl) (zN zA (ze (pv 0) rfl) (pv 1) (fun _ _=>rfl)))
   (z9 (zy (i:=4) scGPairS.nd rfl (Or.inl rfl) (zN zA (ze (pv 0) rfl) (pv 2) (fun _ _=>rfl)))
   (z9 (zR (zV (zC GE hr (by rfl) T.sTree.m T.sTree.F.kp T.sTree.b .nil zk (z6 (pv 3) (z6 (pv 4) zb))) (fun _=>rfl))
    (zc (zn (zC GA hr3 (by rfl) X.palone.m X.palone.F.kp X.palone.b .nil zk (z6 (pv 4) zb)))) zE)
   (z9 (zy (i:=5) scGPairS.nd rfl (Or.inl rfl) (zN zA (zN zA (ze (pv 0) rfl) (pv 1) (fun _ _=>rfl)) (pv 2) (fun _ _=>rfl)))
   (z9 (zy (i:=6) scGPairS.nd rfl (Or.inl rfl) (jL (zx qa (pv 5) xB (zG _))
     (zC GT hr (by rfl) X.told.m X.told.F.kp X.told.b .nil zk (z6 (ze (pv 3) rfl) (z6 (ze (pv 4) rfl) zb)))
     (zC GS hr (by rfl) X.gscript.m X.gscript.F.kp X.gscript.b .nil zk (z6 (pv 5) zb))))
   (zc (zn (xr X.pmk GI hr2 rfl X.P.g X.pinit.b .nil zk (z6 (pv 4) (z6 ZC (z6 (JC (Uk hr.units) (ze (pv 3) rfl) (ze (pv 4) rfl) (zG _)) (z6 (pv 6) zb))))))))))),?_⟩
  obtain⟨dx,l,o,n,q,c,inn,gs,M,⟨cs,hc,hcr⟩,hl,fg⟩:=A0.mid
  rw [<-eh',<-eg'] at M
  obtain⟨hp,⟨os,ho,fo⟩,⟨ns,hn,fn⟩,⟨qs,hq,hqr⟩,hi,hg⟩:=M
  have ol:=fo.len
  have nl:=fn.len
  have hp':=(zf hp).2
  have ho':=(zf ho).2
  have hn':=(zf hn).2
  have hq':=(zf hq).2
  obtain⟨v1,hv1⟩:∃v,os[i]? = some v:=⟨_,List.getElem?_eq_getElem (by omega)⟩
  obtain⟨v2,hv2⟩:∃v,ns[j]? = some v:=⟨_,List.getElem?_eq_getElem (by omega)⟩
  obtain⟨t1,rfl,T1⟩:=fo.get hv1
  obtain⟨t2,rfl,T2⟩:=fn.get hv2
  obtain⟨⟨d1,w1,k1,ks1,a1,a2,a3,a4⟩,ne1⟩:=id T1
  obtain⟨⟨d2,w2,k2,ks2,b1,b2,b3,b4⟩,ne2⟩:=id T2
  have a1':=(zf a1).2
  have a2':=(zf a2).2
  have a3':=(zf a3).2
  have b1':=(zf b1).2
  have b2':=(zf b2).2
  have b3':=(zf b3).2
  have dd:deep (hd (dropTrees i h'))<=d+1:=jZ (by rw [eh'];exact Nat.le_trans (xL _ _) dp)
  have nz1:nodes (children (dropTrees i h'))<=2000:=by
   have a:=yT ne1
   have b:=ya (dropTrees i h')
   have c:=xj i h'
   have d:=xj (zI h g) h
   rw [<-eh'] at d
   omega
  have nz2:nodes (children (dropTrees j g'))<=2000:=by
   have a:=yT ne2
   have b:=ya (dropTrees j g')
   have c:=xj j g'
   have d:=xj (zI h g) g
   rw [<-eg'] at d
   omega
  have hone:xG T.T.C (hid M0 H) t2 (dropTrees j g'):=T2
  refine⟨_,rfl,ga,N.G.C,dx,_,_,rfl,hp',N.G.c,N.G.n,rfl,_,rfl,o,os,_,_,rfl,rfl,SqL.of ho',zp hv1,?_⟩
  refine⟨_,rfl,ga,N.G.C,dx,_,_,rfl,hp',N.G.c,N.G.n,rfl,_,rfl,n,ns,_,_,rfl,rfl,SqL.of hn',zp hv2,?_⟩
  refine⟨_,rfl,_,rfl,t1,t2,_,_,rfl,T1.mono (yn _ _),T2.mono (yn _ _),dd,_,rfl,?_⟩
  have fa:=JZ ne1 ne2 tx
  have fp:paired (yr (dropTrees i h') (dropTrees j g'))=hd (dropTrees j g'):=Jw ne2
  have fr:=Yk (dropTrees i h') (dropTrees j g')
  have frow:=Z8 tx
  by_cases e:hd (dropTrees i h')=hd (dropTrees j g')
  ·rw [decide_eq_true e]
   rw [decide_eq_true e] at fa
   refine zu ?_
   refine⟨_,rfl,t2,rfl,fun H1 pa dpa hpa h1 s1=>?_⟩
   have paM:pa∉M0:=fun z=>lv pa z hpa
   have sM:zd (hid M0 H) (hid M0 H1):=(But.of s1).hid
   refine k H1 _ ⟨none,.inr ⟨YI _ _,pa,dpa,t2,rfl,zt paM ?_,?_,fun z=>?_⟩,fun ra z=>by cases z⟩ s1
   ·rw [h1,fa,fr]
    have:=((JO ne1 ne2).mp e).2.1
    rw [ZF,decide_eq_true this]
    rfl
   ·rw [fp];exact(T2.mono sM).one
   ·rw [fa] at z;cases z
  ·rw [decide_eq_false e]
   rw [decide_eq_false e] at fa
   refine zr ?_
   obtain⟨r,xs,q1,q2,q3⟩:=hqr i li
   have q2':=(zf q2).2
   have q3:=q3 j lj
   refine⟨_,rfl,ga,N.G.C,dx,_,_,rfl,hp',N.G.c,N.G.n,rfl,_,rfl,q,qs,_,_,rfl,rfl,SqL.of hq',zp q1,_,rfl,r,xs,_,_,rfl,rfl,SqL.of q2',zp q3,?_⟩
   have fin:∀(H1:Hp) (ra:Addr),yu T.T.C X.R.C X.P.C (hid M0 H1) ra (S (children (dropTrees i h')) (children (dropTrees j g')))->zd H H1->∀(H2:Hp) (pa dpa:Addr),H1 pa=none->H1 dpa=none->But [pa] (upd (upd H1 dpa (.own pa)) pa (.ins X.P.C dpa [])) H2 ->
     H2 pa=some (.ins X.P.C dpa [("tree",.ref t2),("alone",.bl false),("renewed",.bl (!decide (saying (dropTrees i h')=saying (dropTrees j g')))),("row",.ref ra)])->Q (.ref pa) H2:=by
    intro H1 ra R s1 H2 pa dpa hpa hdpa b2 h2
    have s2:=zd.made hpa hdpa b2
    have s12:=s1.trans s2
    have paM:pa∉M0:=fun z=>lv pa z (s1.free hpa)
    have sM:zd (hid M0 H) (hid M0 H2):=(But.of s12).hid
    have sM2:zd (hid M0 H1) (hid M0 H2):=(But.of s2).hid
    refine k H2 _ ⟨some ra,.inr ⟨YI _ _,pa,dpa,t2,rfl,zt paM ?_,?_,fun _ z=>by cases z⟩,fun ra' z=>?_⟩ s12
    ·rw [h2,fa,fr,ZF];rfl
    ·rw [fp];exact(T2.mono sM).one
    ·cases z;rw [frow];exact R.mono sM2
   cases ei:inn i j with
   | none=>
    rw [ei] at q3
    refine⟨_,rfl,rfl,_,rfl,zu ?_⟩
    refine⟨_,rfl,t1,T.T.C,d1,_,_,rfl,a1',T.T.c,T.T.n,rfl,_,rfl,t2,T.T.C,d2,_,_,rfl,b1',T.T.c,T.T.n,rfl,k1,k2,children (dropTrees i h'),children (dropTrees j g'),ks1,ks2,M0,rfl,lv,a3',b3',a4,b4,xu dd,nz1,nz2,fun H1 ra ha R cR s1=>?_⟩
    refine⟨_,rfl,_,rfl,t1,T.T.C,d1,_,_,rfl,s1 _ _ a1',T.T.c,T.T.n,rfl,_,rfl,t2,T.T.C,d2,_,_,rfl,s1 _ _ b1',T.T.c,T.T.n,rfl,rNeW (s1 _ _ a2') (s1 _ _ b2') ?_⟩
    exact⟨_,rfl,fun pa dpa hpa hdpa ndpa=>⟨pa,dpa,_,_,_,_,rfl,z7,fun H2 h2 b2=>⟨rfl,fin H1 ra R s1 H2 pa dpa hpa hdpa b2 h2⟩⟩⟩
   | some b=>
    rw [ei] at q3
    have Gb:=hg i j b li lj ei
    refine⟨_,rfl,rfl,_,rfl,zr ?_⟩
    refine⟨_,rfl,b,children (dropTrees i h'),children (dropTrees j g'),M0,rfl,lv,Gb,xu dd,nz1,nz2,fun H1 ra ha R cR s1=>?_⟩
    refine⟨_,rfl,_,rfl,t1,T.T.C,d1,_,_,rfl,s1 _ _ a1',T.T.c,T.T.n,rfl,_,rfl,t2,T.T.C,d2,_,_,rfl,s1 _ _ b1',T.T.c,T.T.n,rfl,rNeW (s1 _ _ a2') (s1 _ _ b2') ?_⟩
    exact⟨_,rfl,fun pa dpa hpa hdpa ndpa=>⟨pa,dpa,_,_,_,_,rfl,z7,fun H2 h2 b2=>⟨rfl,fin H1 ra R s1 H2 pa dpa hpa hdpa b2 h2⟩⟩⟩
end
end Hm
end
section
namespace Hm
open PySem PySem.Spec PyProof.Rows L2
open Vaheda (Hedge nodes append width deep children saying dropTrees)
open Vahedn (Fate Slot slots leftAlone paired renewed alone result)
open Vahedl (Script)
theorem OB (acc t:Hedge) (n:Script):slots acc (.put t n)=slots (append acc t) n:=rfl
theorem NM (acc:Hedge) (n:Script):slots acc (.drop n)=({before:=acc,fate:=.gone}::(slots .nil n).1,(slots .nil n).2):=rfl
theorem OT {h g:Hedge} (hh:h≠.nil) (hg:g≠.nil) (e:hd h=hd g):yr h g=yr g g:=by
 obtain⟨_,x2,x3⟩:=(JO hh hg).mp e
 unfold yr
 rw [x2,x3]
theorem JR (h g:Hedge):∀n,n<=zI h g->slots .nil (S h g)=(J3 g n++(slots .nil (S (dropTrees n h) (dropTrees n g))).1,(slots .nil (S (dropTrees n h) (dropTrees n g))).2)
 | 0,_=>by rw [zL,zL];rfl
 | n+1,hn=>by
  obtain⟨ne1,ne2,e12⟩:=zb2 (show n<zI h g by omega)
  obtain⟨x1,x2,x3⟩:=(JO ne1 ne2).mp e12
  rw [JR h g n (by omega),(JU ne1 ne2 x1 x2 x3).2,Y1,<-zo,<-zo]
  show(J3 g n++_::_,_)=((J3 g n++[_])++_,_)
  rw [OT ne1 ne2 e12,List.append_assoc]
  rfl
theorem N6 {α:Type} (a:List α) (x:α) (b:List α):a++x::b=(a++[x])++b:=by simp
section
variable {P:Program} {w:World} {K:PySem.W.Frag} {mg:Str->Option Value} {base:Heap}
theorem Zg {d k0:Nat} (X:zB K mg) (N:ym K mg) (T:zw K mg) (hk:5<=k0) (GP:zj P w K mg base CX0 k0 X.gpair.f X.gpair.fd ["grid","i","j"] (spGPairS T.T.C N.G.C X.R.C X.P.C d)):zj P w K mg base CX0 (k0+1) X.gscript.f X.gscript.fd ["grid"] (spGScript T.T.C N.G.C X.R.C X.P.C d):=by
 have GR:=ZX (P:=P) (w:=w) (base:=base) X T.T.C
 have GU:=Ip (P:=P) (w:=w) (base:=base) X T.T.C
 have GF:=ZU (P:=P) (w:=w) (base:=base) X T.T.C
 have G1:=OJ (P:=P) (w:=w) (base:=base) N T
 refine X.gscript.F.ok xN (fun vs H Q E h=>?_) (fun cdv A outer s H vs Q E hr h=>?_)
 ·obtain⟨_,_,_,_,rfl,_⟩:=h
  rfl
 ·obtain⟨ga,h,g,M0,rfl,lv,A0,dp,z1,z2,k⟩:=h
  have hr1:zJ 1 _:=hr.mono (by omega)
  have hr2:zJ 2 _:=hr.mono (by omega)
  have hr4:zJ 5 _:=hr.mono (by omega)
  refine⟨_,z9 (zy (i:=1) xN.nd rfl (Or.inl rfl) (xr X.rmk GR hr4 rfl X.R.g X.rinit.b .nil zk (z6 (zN zA (zN zA (ze (pv 0) rfl) zi (fun _ _=>rfl)) zi (fun _ _=>rfl)) (z6 (ze (pv 0) rfl) zb))))
   (z9 (zy (i:=2) xN.nd rfl (Or.inl rfl) zi)
   (z9 (zy (i:=3) xN.nd rfl (Or.inl rfl) zi)
   (z9 (jI PassesOwn.never (qK (zx qw (pv 2) (zU zF (by rfl) N.nlen PySem.boot_len (z6 (ze (pv 0) rfl) zb)) (zG _)) (qA (zx qw (pv 3) (zU zF (by rfl) N.nlen PySem.boot_len (z6 (ze (pv 0) rfl) zb)) (zG _)))).pt
    (z9 (zy (i:=4) xN.nd rfl (Or.inl rfl) (zT (pv 0) N.G.c N.first.m G1 hr2 N.first.b .nil zk (z6 (pv 2) (z6 (pv 3) zb))))
    (zc (zR (zx xO (pv 4) (zP N.kPair) (zG _))
     (z9 (zz (zT (pv 1) X.R.c X.fate.m GF hr1 X.fate.b .nil zk (z6 (zC GP hr (by rfl) X.gpair.m X.gpair.F.kp X.gpair.b .nil zk (z6 (pv 0) (z6 (pv 2) (z6 (pv 3) zb)))) zb)))
      (z9 (Yo (i:=2) xN.nd rfl (Or.inl rfl) zi Yx) (zc (Yo (i:=3) xN.nd rfl (Or.inl rfl) zi Yx))))
     (zc (zR (zx xO (pv 4) (zP N.kDrop) (zG _))
      (z9 (zz (zT (pv 1) X.R.c X.fate.m GF hr1 X.fate.b .nil zk (z6 xB zb))) (zc (Yo (i:=2) xN.nd rfl (Or.inl rfl) zi Yx)))
      (z9 (zz (zT (pv 1) X.R.c X.put.m GU hr1 X.put.b .nil zk (z6 (zN zA (ze (pv 0) rfl) (pv 3) (fun _ _=>rfl)) zb))) (zc (Yo (i:=3) xN.nd rfl (Or.inl rfl) zi Yx)))))))))
   (zc (zn (pv 1)))))),?_⟩
  obtain⟨dx,l,o,n,q,c,inn,gs,Mid,⟨cs,hc,hcr⟩,hl,fg⟩:=A0.mid
  have ll:=JG h g
  obtain⟨h',eh'⟩:∃h',h'=dropTrees (zI h g) h:=⟨_,rfl⟩
  obtain⟨g',eg'⟩:∃g',g'=dropTrees (zI h g) g:=⟨_,rfl⟩
  rw [<-eh',<-eg'] at Mid hcr
  have wh:width h'=width h - zI h g:=by rw [eh'];exact xp _ _
  have wg:width g'=width g - zI h g:=by rw [eg'];exact xp _ _
  have wlh:=yo h
  have wlg:=yo g
  obtain⟨os,ho,fo⟩:=Mid.ho
  obtain⟨ns,hn,fn⟩:=Mid.hn
  have ol:=fo.len
  have nl:=fn.len
  have gl:=fg.len
  have hga:=(zf Mid.hp).2
  have hl':=(zf hl).2
  have ho':=(zf ho).2
  have hn':=(zf hn).2
  obtain⟨r0,q1,q2⟩:=hcr 0 (Nat.zero_le _)
  have hc0:(yS h' g' 0)[0]? = some (V.int (D h g)):=by rw [yx (Nat.zero_le _),zL,zL,eh',eg',<-Ut _ _ _ (Nat.le_refl _)]
  refine⟨_,rfl,ga,N.G.C,dx,_,_,rfl,hga,N.G.c,N.G.n,rfl,c,cs,_,_,rfl,rfl,SqL.of (zf hc).2,zp (j:=0) q1,r0,_,_,_,rfl,rfl,SqL.of (zf q2).2,zp (j:=0) hc0,?_⟩
  refine⟨_,rfl,ga,N.G.C,dx,_,_,rfl,hga,N.G.c,N.G.n,rfl,?_⟩
  intro p dxp hp hdxp ndxp
  have pM:p∉M0:=fun z=>lv p z hp
  have s0:zd H (upd (upd H dxp (.own p)) p (.ins X.R.C dxp [])):=(zd.new hdxp).trans (zd.new (by rw [z8 (Ne.symm ndxp)];exact hp))
  have sN:zd (hid M0 H) (hid (p::M0) (upd (upd H dxp (.own p)) p (.ins X.R.C dxp []))):=fun b o e=>by
   obtain⟨n,e⟩:=zf e
   exact zt (by simp [za e hp,n]) (s0 b o e)
  refine⟨p,dxp,l,_,gs,g,zI h g,M0,rfl,z7,pM,fun b m=>?_,s0 _ _ hl',fg.mono sN,ll.2,by omega,fun H1 M1 B1 m1 b1=>⟨rfl,?_⟩⟩
  ·obtain⟨o,q⟩:=zD (lv b m)
   rw [s0 _ _ q]
   intro z;cases z
  have s1:zd H H1:=zd.made hp hdxp b1
  have m1':∀b∈M1,H b=none:=fun b m=>by
   rcases m1 b m with z | z
   ·rw [z];exact hp
   ·exact s0.free z
  have sG:∀{H':Hp} {M:List Addr},zd H H'->(∀b∈M,H b=none)->zd (hid M0 H) (hid (M++M0) H'):=fun sm mM b o e=>by
   obtain⟨nb,e⟩:=zf e
   refine zt (fun z=>?_) (sm b o e)
   rcases List.mem_append.mp z with z | z
   ·rw [mM b z] at e;cases e
   ·exact nb z
  have lvM:∀{H':Hp},zd H H'->∀b∈M0,H' b≠none:=fun sm b m=>by
   obtain⟨o,q⟩:=zD (lv b m)
   rw [sm _ _ q]
   intro z;cases z
  have nxt:∀{H' H'':Hp} {M M'':List Addr},zd H H'->(∀b∈M,H b=none)->(∀b∈M'',b∈M\/H' b=none)->But M H' H''->zd H H''/\∀b∈M'',H b=none:=fun sm mM mm b=>⟨fun x u e=>b x u (sm x u e) (fun z=>by rw [mM x z] at e;cases e),fun x z=>by
   rcases mm x z with y | y
   ·exact mM x y
   ·exact sm.free y⟩
  have at_:∀{H':Hp} {M:List Addr} {done:List Slot} {acc:Hedge},RsB T.T.C X.R.C X.P.C H' p M M0 done acc (D h g:Nat)->∃dx P F,H' p=some (.ins X.R.C dx (rf (D h g:Nat) P F)):=fun B=>by
   obtain⟨dx,P,F,_,_,_,_,_,_,_,_,h,_⟩:=B.ex
   exact⟨dx,P,F,h⟩
  have inv:=JR h g (zI h g) (Nat.le_refl _)
  rw [<-eh',<-eg'] at inv
  have dl:=Z6 g (zI h g)
  obtain⟨W,hW⟩:∃W:Nat->L2.St->Hp->Prop,W=fun m σ H'=>∃(i j:Nat) (vs:Option V) (done:List Slot) (acc:Hedge) (M:List Addr),σ=[some (.ref ga),some (.ref p),some (.int i),some (.int j),vs]/\m=(width h' - i)+(width g' - j)/\i<=width h'/\j<=width g'/\done.length=zI h g+i/\width acc<=j /\
    slots .nil (S h g)=(done++(slots acc (S (dropTrees i h') (dropTrees j g'))).1,(slots acc (S (dropTrees i h') (dropTrees j g'))).2)/\RsB T.T.C X.R.C X.P.C H' p M M0 done acc (D h g:Nat)/\zd H H'/\∀b∈M,H b=none:=⟨_,rfl⟩
  refine⟨W,⟨_,by rw [hW];exact⟨0,0,none,_,.nil,M1,rfl,rfl,Nat.zero_le _,Nat.zero_le _,dl,Nat.le_refl _,by rw [zL,zL];exact inv,B1,s1,m1'⟩⟩,?_⟩
  intro m σ H' hw
  rw [hW] at hw
  obtain⟨i,j,vs,done,acc,M,rfl,rfl,li,lj,dl,al,inv,B,sm,mM⟩:=hw
  have sg:=sG sm mM
  have hga':=sm _ _ hga
  apply Io (C:=i<width h'\/j<width g')
  case use=>
   intro body
   refine⟨_,rfl,_,rfl,ga,N.G.C,dx,_,_,rfl,hga',N.G.c,N.G.n,rfl,o,_,rfl,.inl (SqL.of (sm _ _ ho')),_,_,rfl,rfl,_,rfl,?_⟩
   by_cases c1:i<width h'
   ·rw [decide_eq_true (show((i:Nat):Int)<((os.length:Nat):Int) by omega)]
    exact zu (zu (body (.inl c1)))
   ·rw [decide_eq_false (show ¬((i:Nat):Int)<((os.length:Nat):Int) by omega)]
    refine zr ⟨_,rfl,_,rfl,ga,N.G.C,dx,_,_,rfl,hga',N.G.c,N.G.n,rfl,n,_,rfl,.inl (SqL.of (sm _ _ hn')),_,_,rfl,rfl,_,rfl,?_⟩
    by_cases c2:j<width g'
    ·rw [decide_eq_true (show((j:Nat):Int)<((ns.length:Nat):Int) by omega)]
     exact zu (body (.inr c2))
    ·rw [decide_eq_false (show ¬((j:Nat):Int)<((ns.length:Nat):Int) by omega)]
     refine zr ⟨_,rfl,k H' p hp (B.row ?_) B.cost sm⟩
     rw [inv,ja (h:=h') (by omega),ja (h:=g') (by omega),j3]
     show(done++[],acc)=_
     rw [List.append_nil]
  case body=>
   intro cc
   refine⟨fun σ' H''=>∃m',m'<(width h' - i)+(width g' - j)/\W m' σ' H'',fun _ _ z=>z,?_⟩
   rw [hW]
   have Mid':=Mid.mono (sg.trans (yn _ _))
   refine⟨_,rfl,ga,dx,_,rfl,hga',rfl,_,rfl,_,rfl,ga,dx,l,o,n,q,c,h',g',inn,i,j,rfl,Mid',li,lj,⟨cs,sm _ _ (zf hc).2,fun i' hi'=>?_⟩,?_⟩
   ·obtain⟨r,q1,q2⟩:=hcr i' hi'
    exact⟨r,q1,sm _ _ (zf q2).2⟩
   refine⟨_,rfl,rfl,_,rfl,?_⟩
   obtain⟨dxq,P',F',hp'⟩:=at_ B
   have ne:¬(dropTrees i h'=.nil/\dropTrees j g'=.nil):=fun z=>by
    rcases cc with c | c
    ·exact xT.mpr c z.1
    ·exact xT.mpr c z.2
   rcases zbu (dropTrees i h') (dropTrees j g') with e | e | e
   ·obtain⟨ne1,ne2,tx,se⟩:=Ow e
    have li':=xT.mp ne1
    have lj':=xT.mp ne2
    rw [e]
    refine zu ?_
    refine⟨_,rfl,p,dxq,_,rfl,hp',rfl,_,rfl,_,rfl,_,rfl,ga,h,g,h',g',i,j,M++M0,rfl,fun b z=>?_,A0.mono sg,eh',eg',li',lj',tx,dp,z1,z2,fun H2 v fv s2=>?_⟩
    ·rcases List.mem_append.mp z with z | z
     ·exact B.live b z
     ·exact lvM sm b z
    have sm2:=sm.trans s2
    refine⟨p,v,M,M0,done,acc,_,_,rfl,B.same s2,fv,by omega,lvM sm2,fun H3 M3 B3 mm b3=>?_⟩
    obtain⟨q1,q2⟩:=nxt sm2 mM mm b3
    refine⟨_,rfl,_,_,rfl,rfl,_,rfl,_,_,rfl,rfl,(width h' - (i+1))+(width g' - (j+1)),by omega,i+1,j+1,_,_,.nil,M3,rfl,rfl,by omega,by omega,?_,Nat.zero_le _,?_,B3,q1,q2⟩
    ·rw [List.length_append,dl];show _+1=_;omega
    ·rw [inv,se,Y1,zo,zo,N6]
   ·obtain⟨ne1,se⟩:=Oa e
    have li':=xT.mp ne1
    rw [e]
    refine zr ?_
    refine⟨_,rfl,rfl,_,rfl,zu ?_⟩
    refine⟨_,rfl,p,dxq,_,rfl,hp',rfl,p,.non,M,M0,done,acc,.gone,_,rfl,B,⟨none,.inl ⟨rfl,rfl⟩,fun ra z=>by cases z⟩,by omega,lvM sm,fun H3 M3 B3 mm b3=>?_⟩
    obtain⟨q1,q2⟩:=nxt sm mM mm b3
    refine⟨_,rfl,_,_,rfl,rfl,(width h' - (i+1))+(width g' - j),by omega,i+1,j,_,_,.nil,M3,rfl,rfl,by omega,by omega,?_,Nat.zero_le _,?_,B3,q1,q2⟩
    ·rw [List.length_append,dl];show _+1=_;omega
    ·rw [inv,se,NM,zo,N6]
   ·obtain⟨ne2,se⟩:=za6 e ne
    have lj':=xT.mp ne2
    rw [e]
    refine zr ?_
    refine⟨_,rfl,rfl,_,rfl,zr ?_⟩
    obtain⟨v2,hv2⟩:∃v,ns[j]? = some v:=⟨_,List.getElem?_eq_getElem (by omega)⟩
    obtain⟨t2,rfl,T2⟩:=fn.get hv2
    refine⟨_,rfl,p,dxq,_,rfl,hp',rfl,_,rfl,ga,N.G.C,dx,_,_,rfl,hga',N.G.c,N.G.n,rfl,_,rfl,n,ns,_,_,rfl,rfl,SqL.of (sm _ _ hn'),zp hv2,p,t2,M,M0,done,acc,hd (dropTrees j g'),_,rfl,B,(T2.mono sg).one,by omega,fun H3 B3 b3=>?_⟩
    obtain⟨q1,q2⟩:=nxt sm mM (fun b z=>.inl z) b3
    refine⟨_,rfl,_,_,rfl,rfl,(width h' - i)+(width g' - (j+1)),by omega,i,j+1,_,_,_,M,rfl,rfl,by omega,by omega,dl,?_,?_,B3,q1,q2⟩
    ·rw [jW,za2 ne2];omega
    ·rw [inv,se,OB,zo]
theorem Zp (X:zB K mg) (N:ym K mg) (T:zw K mg):∀d,zj P w K mg base CX0 (4*d+6) X.gscript.f X.gscript.fd ["grid"] (spGScript T.T.C N.G.C X.R.C X.P.C d)
 | 0=>Zg X N T (Nat.le_refl _) (NY X N T _)
 | d+1=>by
  have GS:=Zp X N T d
  have GT:=UO X N T (show 3*d+4<=4*d+7 by omega) (GS.mono (by omega))
  exact Zg X N T (by omega) (Ih X N T (show 3*d+4<=4*d+8 by omega) (GS.mono (by omega)) GT)
theorem IB (X:zB K mg) (N:ym K mg) (T:zw K mg) (d:Nat):zj P w K mg base CX0 (4*d+8) X.told.f X.told.fd ["old","new"] (spTold T.T.C X.R.C X.P.C d):=
 UO X N T (show 3*d+4<=4*d+7 by omega) ((Zp X N T d).mono (by omega))
end
end Hm
end
section
namespace Hm
open PySem PySem.Spec PyProof.Rows L2
open Vaheda (Hedge nodes append width deep children saying dropTrees Path)
open Vahedn (Fate Slot slots leftAlone paired renewed alone result Did didIn one slotAt fateNumber pathIn)
open Vahedl (Script)
abbrev sTaInit:Stmt:=zK (top 28) 0
abbrev sTaRow:Stmt:=zK (top 28) 1
abbrev sTaPair:Stmt:=zK (top 28) 2
abbrev sToldFate:Stmt:=top 29
abbrev sFateAt:Stmt:=top 30
abbrev sWithin:Stmt:=top 31
abbrev sKind:Stmt:=top 32
structure yy (K:PySem.W.Frag) (mg:Str->Option Value):Type where
 T:Cl K mg "Tally" ["trees_put","trees_dropped","words_renewed","trees_paired","trees_alone"]
 init:Me K T.C "__init__" "Tally.__init__" sTaInit ["self","script"]
 mk1:Mk K T.C init.f
 row:Me K T.C "count_row" "Tally.count_row" sTaRow ["self","row"]
 pair:Me K T.C "count_pair" "Tally.count_pair" sTaPair ["self","pair"]
 told:Df K mg "told_fate" sToldFate ["script","path"]
 fateAt:Df K mg "fate_at" sFateAt ["row","place"]
 within:Df K mg "row_within" sWithin ["fate"]
 kind:Df K mg "fate_kind" sKind ["fate"]
 NoNode:Addr
 nn:mg "NoNode"=some (.ref NoNode)
 nnX:Exc K NoNode
 kDropped:GlI mg "DROPPED" 0
 kAlone:GlI mg "LEFT_ALONE" 1
 kChanged:GlI mg "CHANGED" 2
 nlen:mg "len"=none
def jM:List Hedge->Nat
 | []=>0
 | h::r=>width h+jM r
theorem V7:∀(l:List Hedge) (h:Hedge),jM (l++[h])=jM l+width h
 | [],h=>by show width h+0=0+width h;omega
 | a::r,h=>by show width a+jM (r++[h])=width a+jM r+width h;rw [V7 r h];omega
theorem qv (a b c:Did):zY (zY a b) c=zY a (zY b c):=Did.ext' (Nat.add_assoc ..) (Nat.add_assoc ..) (Nat.add_assoc ..) (Nat.add_assoc ..) (Nat.add_assoc ..)
def j9:List Slot->Did
 | []=>dz
 | z::r=>zY (xn z.fate) (j9 r)
theorem V3:∀(l:List Slot) (z:Slot),j9 (l++[z])=zY (j9 l) (xn z.fate)
 | [],z=>by
  refine Did.ext' ?_ ?_ ?_ ?_ ?_ <;> exact(Nat.add_comm _ _)
 | a::r,z=>by
  show zY (xn a.fate) (j9 (r++[z]))=zY (zY (xn a.fate) (j9 r)) (xn z.fate)
  rw [V3 r z,qv]
theorem Zt:∀(xs:List Slot) (l:Hedge),qc xs l=zY (jK (jM (xs.map (·.before)++[l]))) (j9 xs)
 | [],l=>by
  refine Did.ext' ?_ rfl rfl rfl rfl
  show width l=width l+0+0
  omega
 | z::r,l=>by
  show zY (jK (width z.before)) (zY (xn z.fate) (qc r l))=zY (jK (width z.before+jM (r.map (·.before)++[l]))) (zY (xn z.fate) (j9 r))
  rw [Zt r l]
  refine Did.ext' ?_ ?_ ?_ ?_ ?_
  ·show width z.before+((xn z.fate).put+(jM (r.map (·.before)++[l])+(j9 r).put))=width z.before+jM (r.map (·.before)++[l])+((xn z.fate).put+(j9 r).put);omega
  ·show 0+((xn z.fate).drop+(0+(j9 r).drop))=0+((xn z.fate).drop+(j9 r).drop);omega
  ·show 0+((xn z.fate).new+(0+(j9 r).new))=0+((xn z.fate).new+(j9 r).new);omega
  ·show 0+((xn z.fate).pair+(0+(j9 r).pair))=0+((xn z.fate).pair+(j9 r).pair);omega
  ·show 0+((xn z.fate).alone+(0+(j9 r).alone))=0+((xn z.fate).alone+(j9 r).alone);omega
theorem jf:∀(s:Script) (acc:Hedge),x8 s->∀z∈(slots acc s).1,x8 (jt z.fate)
 | .nil,acc,_,z,m=>by cases m
 | .put t n,acc,h,z,m=>jf n (append acc t) h.2 z m
 | .drop n,acc,h,z,m=>by
  rcases List.mem_cons.mp m with m | m
  ·rw [m];trivial
  ·exact jf n .nil h z m
 | .pairTx t c n,acc,h,z,m=>by
  rcases List.mem_cons.mp m with m | m
  ·rw [m];trivial
  ·exact jf n .nil h z m
 | .pairEl a c k n,acc,h,z,m=>by
  rcases List.mem_cons.mp m with m | m
  ·rw [m];exact h.1
  ·exact jf n .nil h.2 z m
theorem ZZ (z:Fate):yD z=jt z:=by cases z <;> rfl
theorem Il {z:Fate} (n:z≠.gone):xn z=zY (didIn (jt z)) {put:=0,drop:=0,new:=one (renewed z),pair:=1,alone:=one (leftAlone z)}:=by
 cases z with
 | gone=>exact absurd rfl n
 | el a c k=>rfl
 | tx t c=>rfl
def tyf (d:Did):List (Str×V):=[("trees_put",.int d.put),("trees_dropped",.int d.drop),("words_renewed",.int d.new),("trees_paired",.int d.pair),("trees_alone",.int d.alone)]
def spTaRow (C CR CP CT:Addr) (d:Nat):Sp:=fun vs H Q _=>∃(p dx r:Addr) (a:Did) (h:Hedge) (s:Script),vs=[.ref p,.ref r]/\H p=some (.ins CT dx (tyf a))/\yu C CR CP (hid [p] H) r s/\Of h s/\x8 s/\deep h<=d /\
 ∀H',H' p=some (.ins CT dx (tyf (zY a (didIn s))))->But [p] H H'->Q .non H'
def spTaPair (C CR CP CT:Addr) (d:Nat):Sp:=fun vs H Q _=>∃(p dx pa:Addr) (a:Did) (h:Hedge) (z:Fate),vs=[.ref p,.ref pa]/\H p=some (.ins CT dx (tyf a))/\xI C CR CP (hid [p] H) (.ref pa) z/\yp h z/\x8 (jt z)/\deep (children h)+1<=d /\
 ∀H',H' p=some (.ins CT dx (tyf (zY a (xn z))))->But [p] H H'->Q .non H'
def spTaInit (C CR CP CT:Addr):Sp:=fun vs H Q _=>∃(p dx r:Addr) (h:Hedge) (s:Script),vs=[.ref p,.ref r]/\H p=some (.ins CT dx [])/\yu C CR CP (hid [p] H) r s/\Of h s/\x8 s/\deep h<=40 /\
 ∀H',H' p=some (.ins CT dx (tyf (didIn s)))->But [p] H H'->Q .non H'
section
variable {P:Program} {w:World} {K:PySem.W.Frag} {mg:Str->Option Value} {base:Heap}
theorem scTaInit:zh ["self","script"] ["self","script"] (zg sTaInit):=⟨rfl,rfl,rfl,by decide +kernel,rfl,by decide +kernel,by decide +kernel⟩
theorem scTaRow:zh ["self","row","put","fate"] ["self","row"] (zg sTaRow):=⟨rfl,rfl,rfl,by decide +kernel,rfl,by decide +kernel,by decide +kernel⟩
theorem scTaPair:zh ["self","pair"] ["self","pair"] (zg sTaPair):=⟨rfl,rfl,rfl,by decide +kernel,rfl,by decide +kernel,by decide +kernel⟩
theorem NE (X:yy K mg) (R:zB K mg) (T:zw K mg) (k:Nat):zj P w K mg base CX0 k X.pair.f X.pair.fd ["self","pair"] (spTaPair T.T.C R.R.C R.P.C X.T.C 0):=
 ⟨fun vs H Q E h=>by obtain⟨_,_,_,_,_,_,rfl,_⟩:=h;rfl,fun A outer s H args us vs Q E _ _ _ _ h=>by
   obtain⟨_,_,_,_,h,z,_,_,_,_,_,dp,_⟩:=h
   omega⟩
theorem VH {d k0:Nat} (X:yy K mg) (R:zB K mg) (T:zw K mg) (GP:zj P w K mg base CX0 k0 X.pair.f X.pair.fd ["self","pair"] (spTaPair T.T.C R.R.C R.P.C X.T.C d)):zj P w K mg base CX0 (k0+1) X.row.f X.row.fd ["self","row"] (spTaRow T.T.C R.R.C R.P.C X.T.C d):=by
 refine X.row.F.ok scTaRow (fun vs H Q E h=>?_) (fun cdv A outer s H vs Q E hr h=>?_)
 ·obtain⟨_,_,_,_,_,_,rfl,_⟩:=h
  rfl
 ·obtain⟨p,dx,r,a,h,s,rfl,hp,Rw,of,sg,dp,k⟩:=h
  refine⟨_,z9 (xF PassesOwn.never rfl (jh (ze (pv 1) rfl)) (yA (i:=2) scTaRow.nd rfl (Or.inl rfl))
    (zc (yj (pv 0) (zU zF (by rfl) X.nlen PySem.boot_len (z6 (pv 2) zb)) x5)))
   (zc (xF PassesOwn.never rfl (jh (ze (pv 1) rfl)) (yA (i:=3) scTaRow.nd rfl (Or.inl rfl))
    (zc (zR (zx qa (pv 3) xB (zG _)) (zc (yj (pv 0) zi x5))
     (zc (zz (zT (pv 0) X.T.c X.pair.m GP hr X.pair.b .nil zk (z6 (pv 3) zb)))))))),?_⟩
  obtain⟨dr,c,P',F',ps,fs,r1,r2,r3,pa,fl,ft⟩:=Rw.open_
  obtain⟨nr,r1'⟩:=zf r1
  obtain⟨nP,r2'⟩:=zf r2
  obtain⟨nF,r3'⟩:=zf r3
  have pl:=pa.len
  have row:=of.row (acc:=.nil)
  have dr0:=zbc sg
  rw [Zt] at dr0
  have ebe:(slots .nil s).1.map (·.before)++[(slots .nil s).2]=yg s:=rfl
  rw [ebe] at dr0
  refine⟨_,rfl,r,R.R.C,dr,_,_,rfl,r1',R.R.c,R.R.n,rfl,P',rfl,⟨_,SqL.of r2'⟩,jq (K:=K) (a:=P') (xs:=ps)
   (fun i σ H'=>∃v,σ=[some (.ref p),some (.ref r),v,none]/\H' p=some (.ins X.T.C dx (tyf (zY a (jK (jM ((yg s).take i))))))/\But [p] H H')
   ⟨none,rfl,hp,But.refl _ _⟩ (fun i σ H' _ ⟨_,_,_,bm⟩=>SqL.of (bm _ _ r2' nP)) ?_ ?_⟩
  ·rintro i x σ H' hi ⟨v,rfl,hp',bm⟩
   have li:i<(yg s).length:=by rw [<-pl];exact(List.getElem?_eq_some_iff.mp hi).1
   obtain⟨q,ts,e1,e2,e3⟩:=pa.get (List.getElem?_eq_getElem li)
   rw [hi] at e1
   cases e1
   obtain⟨nq,e2'⟩:=zf e2
   have tl:=e3.len
   refine⟨_,rfl,p,X.T.C,dx,_,_,rfl,hp',X.T.c,X.T.n,rfl,_,rfl,q,ts,rfl,.inl (SqL.of (bm _ _ e2' nq)),_,_,rfl,rfl,dx,_,hp',(by show 5<1000;decide),?_⟩
   refine⟨_,rfl,?_,bm.trans (But.upd (by simp))⟩
   rw [z7,xK (List.getElem?_eq_getElem li),V7,tl]
   have e:zY a (jK (jM ((yg s).take i)+width (yg s)[i]))={zY a (jK (jM ((yg s).take i))) with put:=(zY a (jK (jM ((yg s).take i)))).put+width (yg s)[i]}:=Did.ext' (Nat.add_assoc ..).symm rfl rfl rfl rfl
   rw [e]
   rfl
  ·rintro σ H1 ⟨v,rfl,hp1,b1⟩
   rw [pl,List.take_length] at hp1
   refine⟨_,rfl,r,R.R.C,dr,_,_,rfl,b1 _ _ r1' nr,R.R.c,R.R.n,rfl,F',rfl,⟨_,SqL.of (b1 _ _ r3' nF)⟩,jq (K:=K) (a:=F') (xs:=fs)
    (fun i σ H'=>∃v v',σ=[some (.ref p),some (.ref r),v,v']/\H' p=some (.ins X.T.C dx (tyf (zY (zY a (jK (jM (yg s)))) (j9 ((slots .nil s).1.take i)))))/\But [p] H H')
    ⟨v,none,rfl,hp1,b1⟩ (fun i σ H' _ ⟨_,_,_,_,bm⟩=>SqL.of (bm _ _ r3' nF)) ?_ ?_⟩
   ·rintro i x σ H' hi ⟨v,v',rfl,hp',bm⟩
    have li:i<(slots .nil s).1.length:=by rw [<-fl];exact(List.getElem?_eq_some_iff.mp hi).1
    have hz:(slots .nil s).1[i]? = some (slots .nil s).1[i]:=List.getElem?_eq_getElem li
    generalize (slots .nil s).1[i]=z at hz
    obtain⟨y,e1,e2⟩:=ft i z hz
    rw [hi] at e1
    cases e1
    have so:=IF row hz
    rw [xK hz,V3,<-qv]
    generalize zY (zY a (jK (jM (yg s)))) (j9 ((slots .nil s).1.take i))=d0 at hp' ⊢
    obtain⟨ro,fv,_⟩:=id e2
    rcases fv with ⟨eg,rfl⟩ | ⟨ng,pq,dq,t,rfl,_⟩
    ·refine⟨_,rfl,rfl,_,rfl,zu ?_⟩
     refine⟨_,rfl,p,X.T.C,dx,_,_,rfl,hp',X.T.c,X.T.n,rfl,_,_,rfl,rfl,dx,_,hp',(by show 5<1000;decide),?_⟩
     refine⟨_,_,rfl,?_,bm.trans (But.upd (by simp))⟩
     rw [z7,eg]
     rfl
    ·refine⟨_,rfl,rfl,_,rfl,zr ?_⟩
     have ne:dropTrees i h≠.nil:=fun q=>by rw [q] at so;exact so.elim
     have dc:=yU ne
     have dd:=xL i h
     refine⟨_,rfl,p,dx,_,rfl,hp',rfl,_,rfl,p,dx,pq,d0,dropTrees i h,z.fate,rfl,hp',e2.mono bm.hid,so,jf s .nil sg z (List.mem_of_getElem? hz),by omega,fun H2 h2 b2=>?_⟩
     exact⟨_,_,rfl,h2,bm.trans b2⟩
   ·rintro σ H2 ⟨v,v',rfl,hp2,b2⟩
    rw [fl,List.take_length,qv,<-dr0] at hp2
    exact k H2 hp2 b2
theorem Ij {d k0:Nat} (X:yy K mg) (R:zB K mg) (T:zw K mg) (GR:zj P w K mg base CX0 k0 X.row.f X.row.fd ["self","row"] (spTaRow T.T.C R.R.C R.P.C X.T.C d)):zj P w K mg base CX0 (k0+1) X.pair.f X.pair.fd ["self","pair"] (spTaPair T.T.C R.R.C R.P.C X.T.C (d+1)):=by
 refine X.pair.F.ok scTaPair (fun vs H Q E h=>?_) (fun cdv A outer s H vs Q E hr h=>?_)
 ·obtain⟨_,_,_,_,_,_,rfl,_⟩:=h
  rfl
 ·obtain⟨p,dx,pa,a,h,z,rfl,hp,⟨ro,fv,frow⟩,so,sg,dp,k⟩:=h
  refine⟨_,z9 (zR (zV (ze (pv 1) rfl) (fun _=>rfl))
    (z9 (yj (pv 0) (ze (ze (pv 1) rfl) rfl) x5) (z9 (yj (pv 0) (ze (ze (pv 1) rfl) rfl) x5) (zc Nc))) zE)
   (z9 (yj (pv 0) zi x5)
   (z9 (zR (zV (ze (pv 1) rfl) (fun _=>rfl)) (zc (yj (pv 0) zi x5)) zE)
   (zc (zz (zT (pv 0) X.T.c X.row.m GR hr X.row.b .nil zk (z6 (ze (pv 1) rfl) zb)))))),?_⟩
  rcases fv with ⟨_,e⟩ | ⟨ng,pq,dq,t,e,g,f,q⟩
  ·cases e
  cases e
  obtain⟨npa,g'⟩:=zf g
  refine⟨_,rfl,pa,R.P.C,dq,_,_,rfl,g',R.P.c,R.P.n,rfl,_,rfl,?_⟩
  cases al:leftAlone z with
  | true=>
   refine zu ?_
   have pne:paired z≠.nil:=by
    cases z with
    | gone=>exact absurd rfl ng
    | el a c k=>intro y;cases y
    | tx t c=>intro y;cases y
   obtain⟨t',r',et,T1,_⟩:=f.cons pne
   cases et
   obtain⟨⟨dt,wt,kt,ks,t1,_,_,_⟩,_⟩:=T1
   have hd1:nodes (hd (paired z))=nodes (paired z):=by
    cases z with
    | gone=>exact absurd rfl ng
    | el a c k=>rfl
    | tx t c=>rfl
   rw [hd1] at t1
   obtain⟨nt,t1'⟩:=zf t1
   have npp:pa≠p:=by simpa using npa
   have ntp:t≠p:=by simpa using nt
   refine⟨_,rfl,p,X.T.C,dx,_,_,rfl,hp,X.T.c,X.T.n,rfl,_,rfl,pa,R.P.C,dq,_,_,rfl,g',R.P.c,R.P.n,rfl,t,T.T.C,dt,_,_,rfl,t1',T.T.c,T.T.n,rfl,_,_,rfl,rfl,dx,_,hp,(by show 5<1000;decide),?_⟩
   have b1:But [p] H (upd H p (.ins X.T.C dx (tyf {a with pair:=a.pair+nodes (paired z)}))):=But.upd (by simp)
   have hp1:upd H p (.ins X.T.C dx (tyf {a with pair:=a.pair+nodes (paired z)})) p=some (.ins X.T.C dx (tyf {a with pair:=a.pair+nodes (paired z)})):=z7
   rw [show y4 "trees_paired" (V.int ((a.pair:Int)+((nodes (paired z):Nat):Int))) (tyf a)=tyf {a with pair:=a.pair+nodes (paired z)} from rfl]
   generalize upd H p (.ins X.T.C dx (tyf {a with pair:=a.pair+nodes (paired z)}))=H1 at b1 hp1 ⊢
   refine⟨_,rfl,p,X.T.C,dx,_,_,rfl,hp1,X.T.c,X.T.n,rfl,_,rfl,pa,R.P.C,dq,_,_,rfl,b1 _ _ g' npa,R.P.c,R.P.n,rfl,t,T.T.C,dt,_,_,rfl,b1 _ _ t1' nt,T.T.c,T.T.n,rfl,_,_,rfl,rfl,dx,_,hp1,(by show 5<1000;decide),?_⟩
   refine k _ ?_ (b1.trans (But.upd (by simp)))
   rw [z7,NA al]
   rfl
  | false=>
   refine zr ?_
   refine⟨_,rfl,p,X.T.C,dx,_,_,rfl,hp,X.T.c,X.T.n,rfl,_,_,rfl,rfl,dx,_,hp,(by show 5<1000;decide),?_⟩
   have b1:But [p] H (upd H p (.ins X.T.C dx (tyf {a with pair:=a.pair+1}))):=But.upd (by simp)
   have hp1:upd H p (.ins X.T.C dx (tyf {a with pair:=a.pair+1})) p=some (.ins X.T.C dx (tyf {a with pair:=a.pair+1})):=z7
   rw [show y4 "trees_paired" (V.int ((a.pair:Int)+1)) (tyf a)=tyf {a with pair:=a.pair+1} from rfl]
   generalize upd H p (.ins X.T.C dx (tyf {a with pair:=a.pair+1}))=H1 at b1 hp1 ⊢
   obtain⟨ra,era⟩:=zD (q al)
   subst era
   have Rk:=frow ra rfl
   rw [ZZ] at Rk
   have fin:∀(a1:Did) (H2:Hp),H2 p=some (.ins X.T.C dx (tyf a1))->But [p] H H2->a1=zY a {put:=0,drop:=0,new:=one (renewed z),pair:=1,alone:=one (leftAlone z)} ->
     ∀H3,H3 p=some (.ins X.T.C dx (tyf (zY a1 (didIn (jt z)))))->But [p] H2 H3->Q .non H3:=by
    intro a1 H2 _ b2 ea H3 h3 b3
    refine k H3 ?_ (b2.trans b3)
    rw [h3,ea,Il ng]
    have e:zY (zY a {put:=0,drop:=0,new:=one (renewed z),pair:=1,alone:=one (leftAlone z)}) (didIn (jt z))=zY a (zY (didIn (jt z)) {put:=0,drop:=0,new:=one (renewed z),pair:=1,alone:=one (leftAlone z)}):=by
     rw [qv]
     refine Did.ext' ?_ ?_ ?_ ?_ ?_ <;> (show _+(_+_)=_+(_+_);omega)
    rw [e]
   have ofk:=UA so ng
   refine⟨_,rfl,pa,R.P.C,dq,_,_,rfl,b1 _ _ g' npa,R.P.c,R.P.n,rfl,_,rfl,?_⟩
   cases rn:renewed z with
   | true=>
    refine zu ?_
    refine⟨_,rfl,p,X.T.C,dx,_,_,rfl,hp1,X.T.c,X.T.n,rfl,_,_,rfl,rfl,dx,_,hp1,(by show 5<1000;decide),?_⟩
    have b2:But [p] H (upd H1 p (.ins X.T.C dx (tyf {a with pair:=a.pair+1,new:=a.new+1}))):=b1.trans (But.upd (by simp))
    have hp2:upd H1 p (.ins X.T.C dx (tyf {a with pair:=a.pair+1,new:=a.new+1})) p=some (.ins X.T.C dx (tyf {a with pair:=a.pair+1,new:=a.new+1})):=z7
    rw [show y4 "words_renewed" (V.int ((({a with pair:=a.pair+1}:Did).new:Int)+1)) (tyf {a with pair:=a.pair+1})=tyf {a with pair:=a.pair+1,new:=a.new+1} from rfl]
    generalize upd H1 p (.ins X.T.C dx (tyf {a with pair:=a.pair+1,new:=a.new+1}))=H2 at b2 hp2 ⊢
    refine⟨_,rfl,p,dx,_,rfl,hp2,rfl,_,rfl,pa,R.P.C,dq,_,_,rfl,b2 _ _ g' npa,R.P.c,R.P.n,rfl,p,dx,ra,_,_,jt z,rfl,hp2,Rk.mono b2.hid,ofk,sg,by omega,fin _ H2 hp2 b2 ?_⟩
    rw [rn,al]
    rfl
   | false=>
    refine zr ?_
    refine⟨_,rfl,p,dx,_,rfl,hp1,rfl,_,rfl,pa,R.P.C,dq,_,_,rfl,b1 _ _ g' npa,R.P.c,R.P.n,rfl,p,dx,ra,_,_,jt z,rfl,hp1,Rk.mono b1.hid,ofk,sg,by omega,fin _ H1 hp1 b1 ?_⟩
    rw [rn,al]
    rfl
theorem ZR (X:yy K mg) (R:zB K mg) (T:zw K mg):∀d,zj P w K mg base CX0 (2*d+2) X.row.f X.row.fd ["self","row"] (spTaRow T.T.C R.R.C R.P.C X.T.C d)
 | 0=>VH X R T (NE X R T 1)
 | d+1=>VH X R T (Ij X R T (ZR X R T d))
theorem OO (X:yy K mg) (R:zB K mg) (T:zw K mg):zj P w K mg base CX0 83 X.init.f X.init.fd ["self","script"] (spTaInit T.T.C R.R.C R.P.C X.T.C):=by
 have GR:=ZR (P:=P) (w:=w) (base:=base) X R T 40
 refine X.init.F.ok scTaInit (fun vs H Q E h=>?_) (fun cdv A outer s H vs Q E hr h=>?_)
 ·obtain⟨_,_,_,_,_,rfl,_⟩:=h
  rfl
 ·obtain⟨p,dx,r,h,s,rfl,hp,Rw,of,sg,dp,k⟩:=h
  refine⟨_,z9 (zZ (pv 0) zi rfl) (z9 (zZ (pv 0) zi rfl) (z9 (zZ (pv 0) zi rfl) (z9 (zZ (pv 0) zi rfl) (z9 (zZ (pv 0) zi rfl)
   (zc (zz (zT (pv 0) X.T.c X.row.m GR hr X.row.b .nil zk (z6 (pv 1) zb)))))))),?_⟩
  refine⟨_,rfl,p,X.T.C,dx,_,rfl,hp,X.T.c,X.T.n,(by show 0<1000;decide),?_⟩
  refine⟨_,rfl,p,X.T.C,dx,_,rfl,z7,X.T.c,X.T.n,(by show 1<1000;decide),?_⟩
  refine⟨_,rfl,p,X.T.C,dx,_,rfl,z7,X.T.c,X.T.n,(by show 2<1000;decide),?_⟩
  refine⟨_,rfl,p,X.T.C,dx,_,rfl,z7,X.T.c,X.T.n,(by show 3<1000;decide),?_⟩
  refine⟨_,rfl,p,X.T.C,dx,_,rfl,z7,X.T.c,X.T.n,(by show 4<1000;decide),?_⟩
  rw [x6,x6,x6,x6]
  have hp1:upd H p (.ins X.T.C dx (tyf dz)) p=some (.ins X.T.C dx (tyf dz)):=z7
  have b1:But [p] H (upd H p (.ins X.T.C dx (tyf dz))):=But.upd (by simp)
  refine⟨_,rfl,p,dx,tyf dz,rfl,hp1,rfl,_,rfl,p,dx,r,dz,h,s,rfl,hp1,Rw.mono b1.hid,of,sg,dp,fun H2 h2 b2=>?_⟩
  refine k H2 ?_ (b1.trans b2)
  rw [h2]
  have e:zY dz (didIn s)=didIn s:=Did.ext' (Nat.zero_add _) (Nat.zero_add _) (Nat.zero_add _) (Nat.zero_add _) (Nat.zero_add _)
  rw [e]
end
end Hm
end
section
namespace Hm
open PySem PySem.Spec PyProof.Rows L2
open Vaheda (Hedge nodes append width deep children saying dropTrees Path)
open Vahedn (Fate Slot slots leftAlone paired renewed alone result Conflict nothing puts given clash dropped rowOf)
open Vahedl (Script)
abbrev sOInit:Stmt:=zK (top 37) 0
abbrev sOAdd:Stmt:=zK (top 37) 1
abbrev sORow:Stmt:=zK (top 37) 2
abbrev sOPuts:Stmt:=zK (top 37) 3
abbrev sOFates:Stmt:=zK (top 37) 4
abbrev sOPairs:Stmt:=zK (top 37) 5
structure jd (K:PySem.W.Frag) (mg:Str->Option Value):Type where
 O:Cl K mg "Outcome" ["conflicts","hedge"]
 init:Me K O.C "__init__" "Outcome.__init__" sOInit ["self","first","second"]
 mk1:Mk K O.C init.f
 add:Me K O.C "add_conflict" "Outcome.add_conflict" sOAdd ["self","kind","path"]
 row:Me K O.C "merged_row" "Outcome.merged_row" sORow ["self","path","first","second"]
 puts:Me K O.C "merged_puts" "Outcome.merged_puts" sOPuts ["self","spot","first","second"]
 fates:Me K O.C "merged_fates" "Outcome.merged_fates" sOFates ["self","path","first","second"]
 pairs:Me K O.C "merged_pairs" "Outcome.merged_pairs" sOPairs ["self","path","first","second"]
 k1:GlI mg "BOTH_PUT" 1
 k2:GlI mg "DROPPED_AND_CHANGED" 2
 k3:GlI mg "BOTH_RENEWED" 3
def x9 (p:Path):List V:=p.map fun n=>V.int (n:Nat)
inductive je (G:Hp):List V->List Conflict->Prop where
 | nil:je G [] []
 | cons {a pl:Addr} {c:Conflict} {r:List V} {cs:List Conflict}:G a=some (.tup [.int (c.kind:Nat),.ref pl])->G pl=some (.lst (x9 c.path))->je G r cs->je G (.ref a::r) (c::cs)
theorem je.mono {G G':Hp} {vs:List V} {cs:List Conflict} (A:je G vs cs) (s:zd G G'):je G' vs cs:=by
 induction A with
 | nil=>exact .nil
 | cons a b _ ih=>exact .cons (s _ _ a) (s _ _ b) ih
theorem je.snoc {G:Hp} {vs:List V} {cs:List Conflict} (A:je G vs cs) {a pl:Addr} {c:Conflict} (h1:G a=some (.tup [.int (c.kind:Nat),.ref pl])) (h2:G pl=some (.lst (x9 c.path))):je G (vs++[.ref a]) (cs++[c]):=by
 induction A with
 | nil=>exact .cons h1 h2 .nil
 | cons a b _ ih=>exact .cons a b ih
theorem je.len {G:Hp} {vs:List V} {cs:List Conflict} (A:je G vs cs):vs.length=cs.length:=by
 induction A with
 | nil=>rfl
 | cons a b _ ih=>rw [List.length_cons,List.length_cons,ih]
structure Wo (CO:Addr) (H:Hp) (p cl:Addr) (M0:List Addr) (cs:List Conflict):Prop where
 ex:∃dx vs,H p=some (.ins CO dx [("conflicts",.ref cl)])/\H cl=some (.lst vs)/\je (hid (cl::M0) H) vs cs
 nc:cl∉M0
 lv:∀b∈M0,H b≠none
theorem Wo.same {CO:Addr} {H H':Hp} {p cl:Addr} {M0:List Addr} {cs:List Conflict} (B:Wo CO H p cl M0 cs) (s:zd H H'):Wo CO H' p cl M0 cs:=by
 obtain⟨⟨dx,vs,hp,hc,A⟩,nc,lv⟩:=B
 refine⟨⟨dx,vs,s _ _ hp,s _ _ hc,A.mono (But.of s).hid⟩,nc,fun b m=>?_⟩
 obtain⟨o,e⟩:=zD (lv b m)
 rw [s _ _ e];intro z;cases z
theorem Wo.at_ {CO:Addr} {H:Hp} {p cl:Addr} {M0:List Addr} {cs:List Conflict} (B:Wo CO H p cl M0 cs):∃dx,H p=some (.ins CO dx [("conflicts",.ref cl)]):=by
 obtain⟨⟨dx,vs,hp,hc,A⟩,nc,lv⟩:=B
 exact⟨dx,hp⟩
theorem Wo.out {CO:Addr} {H:Hp} {p cl t:Addr} {M0:List Addr} {cs:List Conflict} (B:Wo CO H p cl (t::M0) cs):Wo CO H p cl M0 cs:=by
 obtain⟨⟨dx,vs,hp,hc,A⟩,nc,lv⟩:=B
 refine⟨⟨dx,vs,hp,hc,A.mono fun b o e=>?_⟩,fun z=>nc (List.mem_cons_of_mem _ z),fun b m=>lv b (List.mem_cons_of_mem _ m)⟩
 obtain⟨n,e⟩:=zf e
 refine zt (fun z=>n ?_) e
 rcases List.mem_cons.mp z with z | z
 ·rw [z];simp
 ·simp [z]
theorem Wo.upd {CO:Addr} {H:Hp} {p cl t:Addr} {M0:List Addr} {cs:List Conflict} {ts us:List V} (B:Wo CO H p cl (t::M0) cs) (ht:H t=some (.lst us)):Wo CO (L2.upd H t (.lst ts)) p cl (t::M0) cs:=by
 obtain⟨⟨dx,vs,hp,hc,A⟩,nc,lv⟩:=B
 have npt:p≠t:=fun z=>by rw [z,ht] at hp;cases hp
 have nct:cl≠t:=fun z=>nc (by simp [z])
 refine⟨⟨dx,vs,by rw [z8 npt];exact hp,by rw [z8 nct];exact hc,?_⟩,nc,fun b m=>?_⟩
 ·rw [xW (by simp)];exact A
 ·by_cases z:b=t
  ·rw [z,z7];intro y;cases y
  ·rw [z8 z];exact lv b m
def spOAdd (CO:Addr):Sp:=fun vs H Q _=>∃(p cl pl:Addr) (M0:List Addr) (cs:List Conflict) (c:Conflict),vs=[.ref p,.int (c.kind:Nat),.ref pl]/\Wo CO H p cl M0 cs/\hid (cl::M0) H pl=some (.lst (x9 c.path))/\cs.length<=100000 /\
 ∀H',Wo CO H' p cl M0 (cs++[c])->But [cl] H H'->Q .non H'
def OutL (C CO:Addr) (H H':Hp) (p cl:Addr) (M0:List Addr) (cs:List Conflict) (l:Addr) (o:Vahedn.Outcome):Prop:=(∃ts,hid (cl::M0) H' l=some (.lst ts)/\zm C (hid (cl::M0) H') ts o.hedge)/\Wo CO H' p cl M0 (cs++o.conflicts)/\But [cl] H H'
def spOPuts (C CO:Addr) (f:Nat):Sp:=fun vs H Q _=>∃(p cl sp a b:Addr) (M0:List Addr) (cs:List Conflict) (spot:Path) (ta tb:List V) (x y:Hedge),vs=[.ref p,.ref sp,.ref a,.ref b]/\Wo CO H p cl M0 cs/\hid (cl::M0) H sp=some (.lst (x9 spot)) /\
 hid (cl::M0) H a=some (.lst ta)/\hid (cl::M0) H b=some (.lst tb)/\zm C (hid (cl::M0) H) ta x/\zm C (hid (cl::M0) H) tb y/\deep x<=f/\cs.length<=100000/\nodes x<=100000/\nodes y<=100000/\∀H' l,OutL C CO H H' p cl M0 cs l (puts true spot x y)->Q (.ref l) H'
def spOFates (C CR CP CO:Addr) (f:Nat):Sp:=fun vs H Q _=>∃(p cl sp:Addr) (v1 v2:V) (M0:List Addr) (cs:List Conflict) (spot:Path) (h:Hedge) (z1 z2:Fate) (g:Nat),vs=[.ref p,.ref sp,v1,v2]/\Wo CO H p cl M0 cs/\hid (cl::M0) H sp=some (.lst (x9 spot)) /\
 xI C CR CP (hid (cl::M0) H) v1 z1/\xI C CR CP (hid (cl::M0) H) v2 z2/\yp h z1/\yp h z2/\deep (children h)<g/\deep (children h)+1<=f/\spot.length+f<=501/\deep (paired z1)<=f/\nodes (paired z1)<=100000/\nodes (paired z2)<=100000/\cs.length+(yd true g spot z1 z2).conflicts.length<=100000/\nodes (yd true g spot z1 z2).hedge<=100000 /\
 ∀H' l,OutL C CO H H' p cl M0 cs l (yd true g spot z1 z2)->Q (.ref l) H'
def spOPairs (C CR CP CO:Addr) (f:Nat):Sp:=fun vs H Q _=>∃(p cl sp:Addr) (v1 v2:V) (M0:List Addr) (cs:List Conflict) (spot:Path) (h:Hedge) (z1 z2:Fate) (g:Nat),vs=[.ref p,.ref sp,v1,v2]/\Wo CO H p cl M0 cs/\hid (cl::M0) H sp=some (.lst (x9 spot)) /\
 xI C CR CP (hid (cl::M0) H) v1 z1/\xI C CR CP (hid (cl::M0) H) v2 z2/\z1≠.gone/\z2≠.gone/\yp h z1/\yp h z2/\deep (children h)<g/\deep (children h)+1<=f/\spot.length+f<=501/\deep (paired z1)<=f/\nodes (paired z1)<=100000/\nodes (paired z2)<=100000/\cs.length+(yd true g spot z1 z2).conflicts.length<=100000/\nodes (yd true g spot z1 z2).hedge<=100000 /\
 ∀H' t,zm C (hid (cl::M0) H') [.ref t] (yd true g spot z1 z2).hedge->Wo CO H' p cl M0 (cs++(yd true g spot z1 z2).conflicts)->But [cl] H H'->Q (.ref t) H'
def spORow (C CR CP CO:Addr) (f:Nat):Sp:=fun vs H Q _=>∃(p cl pl ra rb:Addr) (M0:List Addr) (cs:List Conflict) (above:Path) (h:Hedge) (s t:Script) (g:Nat),vs=[.ref p,.ref pl,.ref ra,.ref rb]/\Wo CO H p cl M0 cs/\H pl=some (.lst (x9 above))/\pl≠cl/\above.length+f<=500 /\
 yu C CR CP (hid (cl::M0) H) ra s/\yu C CR CP (hid (cl::M0) H) rb t/\Of h s/\Of h t/\deep h<g/\deep h<=f/\deep (result s)<=f/\nodes (result s)<=100000/\nodes (result t)<=100000/\cs.length+(rowOf true g above s t).conflicts.length<=100000/\nodes (rowOf true g above s t).hedge<=100000 /\
 ∀H' l,OutL C CO H H' p cl M0 cs l (rowOf true g above s t)->Q (.ref l) H'
section
variable {P:Program} {w:World} {K:PySem.W.Frag} {mg:Str->Option Value} {base:Heap}
theorem scOAdd:zh ["self","kind","path"] ["self","kind","path"] (zg sOAdd):=⟨rfl,rfl,rfl,by decide +kernel,rfl,by decide +kernel,by decide +kernel⟩
theorem scOPuts:zh ["self","spot","first","second"] ["self","spot","first","second"] (zg sOPuts):=⟨rfl,rfl,rfl,by decide +kernel,rfl,by decide +kernel,by decide +kernel⟩
theorem scOFates:zh ["self","path","first","second","kept"] ["self","path","first","second"] (zg sOFates):=⟨rfl,rfl,rfl,by decide +kernel,rfl,by decide +kernel,by decide +kernel⟩
theorem scOPairs:zh ["self","path","first","second","word"] ["self","path","first","second"] (zg sOPairs):=⟨rfl,rfl,rfl,by decide +kernel,rfl,by decide +kernel,by decide +kernel⟩
theorem scORow:zh ["self","path","first","second","trees","place","put","spot"] ["self","path","first","second"] (zg sORow):=⟨rfl,rfl,rfl,by decide +kernel,rfl,by decide +kernel,by decide +kernel⟩
theorem ZH (X:jd K mg):zj P w K mg base CX0 1 X.add.f X.add.fd ["self","kind","path"] (spOAdd X.O.C):=by
 refine X.add.F.ok scOAdd (fun vs H Q E h=>?_) (fun cdv A outer s H vs Q E hr h=>?_)
 ·obtain⟨_,_,_,_,_,_,rfl,_⟩:=h
  rfl
 ·obtain⟨p,cl,pl,M0,cs,c,rfl,B,hpl,sz,k⟩:=h
  have hz:sizeLine=16777216:=sizeLine_eq
  refine⟨_,zc (zz (yK PySem.F.plainAttrs_list PySem.F.slot_list_append PySem.F.type_list_append yc (ze (pv 0) rfl) (z6 (jB (z6 (pv 1) (z6 (pv 2) zb))) zb))),?_⟩
  obtain⟨⟨dx,vs,hp,hc,A⟩,nc,lv⟩:=B
  have al:=A.len
  refine⟨_,rfl,p,X.O.C,dx,_,_,rfl,hp,X.O.c,X.O.n,rfl,.inl ⟨rfl,_,SqL.of hc⟩,_,rfl,_,rfl,(by show 2<=sizeLine;decide),fun tp htp=>?_⟩
  have ntc:cl≠tp:=za hc htp
  have ntp:p≠tp:=za hp htp
  have npc:p≠cl:=fun z=>by rw [z,hc] at hp;cases hp
  refine⟨cl,vs,_,rfl,rfl,by rw [z8 ntc];exact hc,by omega,?_⟩
  have b1:But [cl] H (upd (upd H tp (.tup [.int (c.kind:Nat),.ref pl])) cl (.lst (vs++[.ref tp]))):=(But.new htp).trans (But.upd (by simp))
  have sM:zd (hid (cl::M0) H) (hid (cl::M0) (upd (upd H tp (.tup [.int (c.kind:Nat),.ref pl])) cl (.lst (vs++[.ref tp])))):=(b1.mono (by simp)).hid
  have tM:tp∉M0:=fun z=>lv tp z htp
  refine k _ ⟨⟨dx,_,by rw [z8 npc,z8 ntp];exact hp,z7,(A.mono sM).snoc (zt (by simp [Ne.symm ntc,tM]) (by rw [z8 (Ne.symm ntc),z7])) (sM _ _ hpl)⟩,nc,fun b m=>?_⟩ b1
  obtain⟨o,e⟩:=zD (lv b m)
  rw [b1 _ _ e (by simpa using fun z=>nc (by rw [<-z];exact m))]
  intro z;cases z
theorem emptyF {C:Addr} {G:Hp} {ks:List V} {x:Hedge} (f:zm C G ks x):ks.isEmpty=decide (x=.nil):=by
 have e:=f.len
 cases ks with
 | nil=>rw [decide_eq_true (yO.mp e.symm)];rfl
 | cons v vs=>
  rw [decide_eq_false (fun z=>by rw [z] at e;cases e)]
  rfl
theorem Ix (X:jd K mg) (T:zw K mg) (f:Nat):zj P w K mg base CX0 (3*f+4) X.puts.f X.puts.fd ["self","spot","first","second"] (spOPuts T.T.C X.O.C f):=by
 have GA:=ZH (P:=P) (w:=w) (base:=base) X
 have GH:=VW (P:=P) (w:=w) (base:=base) T f
 refine X.puts.F.ok scOPuts (fun vs H Q E h=>?_) (fun cdv A outer s H vs Q E hr h=>?_)
 ·obtain⟨_,_,_,_,_,_,_,_,_,_,_,_,rfl,_⟩:=h
  rfl
 ·obtain⟨p,cl,sp,a,b,M0,cs,spot,ta,tb,x,y,rfl,B,hsp,ha,hb,fa,fb,dx40,sz,nx,ny,k⟩:=h
  have hr1:zJ 1 _:=hr.mono (by omega)
  have hz:sizeLine=16777216:=sizeLine_eq
  refine⟨_,z9 (zR (qK (JA (zV (pv 3) (fun _=>rfl))) (qA (zV (zC GH hr (by rfl) T.sHedge.m T.sHedge.F.kp T.sHedge.b .nil zk (z6 (pv 2) (z6 (pv 3) zb))) (fun _=>rfl)))).pt (zc (zn (pv 2))) zE)
   (z9 (zR (zV (pv 2) (fun _=>rfl)) (zc (zz (zT (pv 0) X.O.c X.add.m GA hr1 X.add.b .nil zk (z6 (zP X.k1) (z6 (pv 1) zb))))) zE)
   (zc (zn (yb Zi (pv 2) (pv 3))))),?_⟩
  have ha':=(zf ha).2
  have hb':=(zf hb).2
  have la:=fa.len
  have lb:=fb.len
  have wa:=yo x
  have wb:=yo y
  refine⟨_,rfl,_,YX (SqL.of hb'),?_⟩
  rw [emptyF fb]
  by_cases cy:y=.nil
  ·rw [decide_eq_true cy]
   refine zu (zu ⟨_,rfl,k H a ⟨⟨ta,ha,?_⟩,?_,But.refl _ _⟩⟩)
   ·rw [cy,qN];exact fa
   ·rw [cy,qN];show Wo _ _ _ _ _ (cs++[]);rw [List.append_nil];exact B
  rw [decide_eq_false cy]
  refine zr ⟨_,rfl,_,rfl,a,b,ta,tb,x,y,rfl,ha',hb',fa.mono (yn _ _),fb.mono (yn _ _),dx40,_,rfl,?_⟩
  by_cases cxy:x=y
  ·rw [decide_eq_true cxy]
   have e:puts true spot x y={hedge:=x,conflicts:=[]}:=by
    unfold puts
    by_cases cx:x=.nil
    ·rw [if_pos cx,<-cxy]
    ·rw [if_neg cx,if_pos (.inr cxy)]
   refine zu ⟨_,rfl,k H a ⟨⟨ta,ha,?_⟩,?_,But.refl _ _⟩⟩
   ·rw [e];exact fa
   ·rw [e];show Wo _ _ _ _ _ (cs++[]);rw [List.append_nil];exact B
  rw [decide_eq_false cxy]
  refine zr ?_
  refine⟨_,rfl,_,YX (SqL.of ha'),?_⟩
  rw [emptyF fa]
  have fin:∀(H1:Hp) (cs1:List Conflict),Wo X.O.C H1 p cl M0 cs1->But [cl] H H1->puts true spot x y={hedge:=append x y,conflicts:=(puts true spot x y).conflicts}->cs1=cs++(puts true spot x y).conflicts->tRet (tOp rCat (js 2) (js 3)) {nx:=fun _ H'=>Q .non H',rt:=Q} (start ["self","spot","first","second"] [.ref p,.ref sp,.ref a,.ref b]) H1:=by
   intro H1 cs1 B1 b1 e1 e2
   have sM:zd (hid (cl::M0) H) (hid (cl::M0) H1):=(b1.mono (by simp)).hid
   refine⟨_,rfl,_,rfl,a,b,_,_,rfl,rfl,(zf (sM _ _ ha)).2,(zf (sM _ _ hb)).2,by omega,fun l hl=>?_⟩
   have lM:l∉cl::M0:=fun z=>by
    obtain⟨⟨dx',vs',hp',hc',_⟩,nc',lv'⟩:=B1
    rcases List.mem_cons.mp z with z | z
    ·rw [z,hc'] at hl;cases hl
    ·exact lv' l z hl
   have s2:zd H1 (L2.upd H1 l (.lst (ta++tb))):=zd.new hl
   have sM2:=sM.trans (But.of (M:=cl::M0) s2).hid
   refine k _ l ⟨⟨_,zt lM z7,?_⟩,?_,b1.trans (But.of s2)⟩
   ·rw [e1];exact(fa.mono sM2).append (fb.mono sM2)
   ·rw [<-e2];exact B1.same s2
  by_cases cx:x=.nil
  ·rw [decide_eq_true cx]
   refine zr (fin H cs B (But.refl _ _) ?_ ?_)
   ·rw [cx,jU];rfl
   ·rw [cx,jU];show cs=cs++[];rw [List.append_nil]
  ·rw [decide_eq_false cx]
   refine zu ?_
   obtain⟨dx,hp⟩:=B.at_
   have e:puts true spot x y={hedge:=append x y,conflicts:=[{kind:=1,path:=spot}]}:=by
    unfold puts
    rw [if_neg cx,if_neg (fun z=>z.elim cy cxy)]
    rfl
   refine⟨_,rfl,p,dx,_,rfl,hp,rfl,_,rfl,p,cl,sp,M0,cs,{kind:=1,path:=spot},rfl,B,hsp,sz,fun H1 B1 b1=>?_⟩
   exact fin H1 _ B1 b1 (by rw [e]) (by rw [e])
end
end Hm
end
section
namespace Hm
open PySem PySem.Spec PyProof.Rows L2
open Vaheda (Hedge nodes append width deep children saying dropTrees Path)
open Vahedn (Fate Slot slots leftAlone paired renewed alone result Conflict nothing puts given clash dropped rowOf)
open Vahedl (Script)
def mkT (leaf:Bool) (w:Vaheda.Text) (k:Hedge):Hedge:=if leaf=true then .tx w .nil else .el w k .nil
def xx (z:Fate):Vaheda.Text:=saying (paired z)
theorem I0 (f:Nat) (p:Path):rowOf true (f+1) p .nil .nil=nothing:=by
 rw [jP true f p .nil .nil rfl]
 show puts true (p++[0]) .nil .nil=nothing
 rw [jU];rfl
theorem yp.kids {h:Hedge} {z:Fate} (o:yp h z) (n:z≠.gone):Of (children h) (yD z)/\zq (paired z)=zq h/\paired z≠.nil/\result (yD z)=children (paired z):=by
 cases h with
 | nil=>exact o.elim
 | el a k r=>
  cases z with
  | gone=>exact absurd rfl n
  | el b c j=>exact⟨o.2,rfl,(by intro z;cases z),rfl⟩
  | tx u c=>exact o.elim
 | tx a r=>
  cases z with
  | gone=>exact absurd rfl n
  | el b c j=>exact o.elim
  | tx u c=>exact⟨trivial,rfl,(by intro z;cases z),rfl⟩
theorem NL {f:Nat} {p:Path} {h:Hedge} {z1 z2:Fate} (o1:yp h z1) (o2:yp h z2) (n1:z1≠.gone) (n2:z2≠.gone) (hf:0<f) :
  yd true f p z1 z2={hedge:=mkT (zq h) (given true (xx z1) (renewed z1) (xx z2) (renewed z2)).1 (rowOf true f p (yD z1) (yD z2)).hedge,conflicts:=clash (given true (xx z1) (renewed z1) (xx z2) (renewed z2)).2 p++(rowOf true f p (yD z1) (yD z2)).conflicts} /\
  (zq h=true->rowOf true f p (yD z1) (yD z2)=nothing):=by
 obtain⟨f',rfl⟩:∃f',f=f'+1:=⟨f - 1,by omega⟩
 cases h with
 | nil=>exact o1.elim
 | el a k r=>
  cases z1 with
  | gone=>exact absurd rfl n1
  | tx u c=>exact o1.elim
  | el b c j=>
   cases z2 with
   | gone=>exact absurd rfl n2
   | tx u c=>exact o2.elim
   | el b' c' j'=>exact⟨rfl,fun z=>by cases z⟩
 | tx a r=>
  cases z1 with
  | gone=>exact absurd rfl n1
  | el b c j=>exact o1.elim
  | tx u c=>
   cases z2 with
   | gone=>exact absurd rfl n2
   | el b c j=>exact o2.elim
   | tx u' c'=>
    have e:rowOf true (f'+1) p (yD (.tx u c)) (yD (.tx u' c'))=nothing:=I0 f' p
    refine⟨?_,fun _=>e⟩
    rw [e]
    show({hedge:=.tx _ .nil,conflicts:=clash _ p}:Vahedn.Outcome)={hedge:=.tx _ .nil,conflicts:=clash _ p++[]}
    rw [List.append_nil]
    rfl
section
variable {P:Program} {w:World} {K:PySem.W.Frag} {mg:Str->Option Value} {base:Heap}
theorem NS (X:jd K mg) (R:zB K mg) (T:zw K mg) (k:Nat):zj P w K mg base CX0 k X.pairs.f X.pairs.fd ["self","path","first","second"] (spOPairs T.T.C R.R.C R.P.C X.O.C 0):=
 ⟨fun vs H Q E h=>by obtain⟨_,_,_,_,_,_,_,_,_,_,_,_,rfl,_⟩:=h;rfl,fun A outer s H args us vs Q E _ _ _ _ h=>by
   obtain⟨_,_,_,_,_,_,_,_,_,_,_,_,_,_,_,_,_,_,_,_,_,_,e,_⟩:=h
   omega⟩
theorem Om {f k0:Nat} (X:jd K mg) (R:zB K mg) (T:zw K mg) (hk:3<=k0) (GR:zj P w K mg base CX0 k0 X.row.f X.row.fd ["self","path","first","second"] (spORow T.T.C R.R.C R.P.C X.O.C f)):zj P w K mg base CX0 (k0+1) X.pairs.f X.pairs.fd ["self","path","first","second"] (spOPairs T.T.C R.R.C R.P.C X.O.C (f+1)):=by
 have GA:=ZH (P:=P) (w:=w) (base:=base) X
 have GT:=Js (P:=P) (w:=w) (base:=base) T
 refine X.pairs.F.ok scOPairs (fun vs H Q E h=>?_) (fun cdv A outer s H vs Q E hr h=>?_)
 ·obtain⟨_,_,_,_,_,_,_,_,_,_,_,_,rfl,_⟩:=h
  rfl
 ·obtain⟨p,cl,sp,v1,v2,M0,cs,spot,h,z1,z2,g,rfl,B,hsp,F1,F2,n1,n2,o1,o2,dh,dh1,dsp,d1,nz1,nz2,szc,szn,k⟩:=h
  have hr1:zJ 1 _:=hr.mono (by omega)
  have hr3:zJ 3 _:=hr.mono (by omega)
  have hz:sizeLine=16777216:=sizeLine_eq
  refine⟨_,z9 (zR (zV (ze (pv 2) rfl) (fun _=>rfl)) (zc (zn (ze (pv 3) rfl))) zE)
   (z9 (zR (zV (ze (pv 3) rfl) (fun _=>rfl)) (zc (zn (ze (pv 2) rfl))) zE)
   (z9 (zy (i:=4) scOPairs.nd rfl (Or.inl rfl) (jL (zV (ze (pv 2) rfl) (fun _=>rfl)) (ze (ze (pv 2) rfl) rfl) (ze (ze (pv 3) rfl) rfl)))
   (z9 (zR (jQ (zV (ze (pv 2) rfl) (fun _=>rfl)) (jQ (zV (ze (pv 3) rfl) (fun _=>rfl)) (qj (zx (Uk hr.units) (ze (ze (pv 2) rfl) rfl) (ze (ze (pv 3) rfl) rfl) (zG _))))).pt
    (zc (zz (zT (pv 0) X.O.c X.add.m GA hr1 X.add.b .nil zk (z6 (zP X.k3) (z6 (pv 1) zb))))) zE)
   (zc (zn (xr T.mk1 GT hr3 rfl T.T.g T.init.b .nil zk (z6 (ze (ze (pv 2) rfl) rfl) (z6 (pv 4) (z6 (zT (pv 0) X.O.c X.row.m GR hr X.row.b .nil zk (z6 (pv 1) (z6 (ze (pv 2) rfl) (z6 (ze (pv 3) rfl) zb)))) zb))))))))),?_⟩
  obtain⟨ro1,F1,R1⟩:=F1
  obtain⟨ro2,F2,R2⟩:=F2
  rcases F1 with ⟨y,_⟩ | ⟨_,pa1,dp1,t1,rfl,g1,f1,q1⟩
  ·exact absurd y n1
  rcases F2 with ⟨y,_⟩ | ⟨_,pa2,dp2,t2,rfl,g2,f2,q2⟩
  ·exact absurd y n2
  have g1':=(zf g1).2
  have g2':=(zf g2).2
  obtain⟨of1,tx1,pn1,rs1⟩:=o1.kids n1
  obtain⟨of2,tx2,pn2,rs2⟩:=o2.kids n2
  obtain⟨_,_,e1,T1,_⟩:=f1.cons pn1
  cases e1
  obtain⟨_,_,e2,T2,_⟩:=f2.cons pn2
  cases e2
  refine⟨_,rfl,pa1,R.P.C,dp1,_,_,rfl,g1',R.P.c,R.P.n,rfl,_,rfl,?_⟩
  by_cases a1:leftAlone z1=true
  ·rw [a1]
   refine zu ⟨_,rfl,pa2,R.P.C,dp2,_,_,rfl,g2',R.P.c,R.P.n,rfl,?_⟩
   have e:=Y7 (f:=g) (p:=spot) o1 o2 a1 (fun s t h1 h2 ha=>UM g spot (children h) s t dh h1 h2 ha)
   refine k H t2 (by rw [e];exact f2) ?_ (But.refl _ _)
   rw [e]
   show Wo _ _ _ _ _ (cs++[])
   rw [List.append_nil];exact B
  have a1:leftAlone z1=false:=by simpa using a1
  rw [a1]
  refine zr ⟨_,rfl,pa2,R.P.C,dp2,_,_,rfl,g2',R.P.c,R.P.n,rfl,_,rfl,?_⟩
  by_cases a2:leftAlone z2=true
  ·rw [a2]
   refine zu ⟨_,rfl,pa1,R.P.C,dp1,_,_,rfl,g1',R.P.c,R.P.n,rfl,?_⟩
   have e:=Y5 (f:=g) (p:=spot) o1 o2 a2 (fun s t h1 h2 ha=>Ni g spot (children h) s t dh h1 h2 ha)
   refine k H t1 (by rw [e];exact f1) ?_ (But.refl _ _)
   rw [e]
   show Wo _ _ _ _ _ (cs++[])
   rw [List.append_nil];exact B
  have a2:leftAlone z2=false:=by simpa using a2
  rw [a2]
  refine zr ?_
  obtain⟨ra1,er1⟩:=zD (q1 a1)
  obtain⟨ra2,er2⟩:=zD (q2 a2)
  subst er1 er2
  have R1:=R1 ra1 rfl
  have R2:=R2 ra2 rfl
  obtain⟨⟨dt1,w1,k1,ks1,c1,c2,c3,c4⟩,ne1⟩:=T1
  obtain⟨⟨dt2,w2,k2,ks2,b1,b2,b3,b4⟩,ne2⟩:=T2
  have c1':=(zf c1).2
  have c2':=(zf c2).2
  have b1':=(zf b1).2
  have b2':=(zf b2).2
  obtain⟨tO,tN⟩:=NL (p:=spot) o1 o2 n1 n2 (show 0<g by omega)
  obtain⟨dx,hp⟩:=B.at_
  have fin:∀(wd:Addr) (wt:Vaheda.Text) (H1:Hp) (b:Bool),hid (cl::M0) H wd=some (.lst (wds wt))->given true (xx z1) (renewed z1) (xx z2) (renewed z2)=(wt,b)->Wo X.O.C H1 p cl M0 (cs++clash b spot)->But [cl] H H1 ->
    tRet (tMake T.T.C (spTreeInit T.T.C) [] E0 (jy (Z2 K (Z2 K (js 2) "tree") "leaf") (jy (js 4) (jy (tMeth X.O.C "merged_row" (spORow T.T.C R.R.C R.P.C X.O.C f) [] E0 (js 0) (jy (js 1) (jy (Z2 K (js 2) "row") (jy (Z2 K (js 3) "row") JM)))) JM))))
     {nx:=fun _ H'=>Q .non H',rt:=Q} [some (.ref p),some (.ref sp),some (.ref pa1),some (.ref pa2),some (.ref wd)] H1:=by
   intro wd wt H1 b hwd eg B1 b1
   have sM:zd (hid (cl::M0) H) (hid (cl::M0) H1):=(b1.mono (by simp)).hid
   have sM':=sM.trans (yn _ _)
   obtain⟨dx1,hp1⟩:=B1.at_
   rw [eg] at tO
   have e5:(yd true g spot z1 z2).conflicts=clash b spot++(rowOf true g spot (yD z1) (yD z2)).conflicts:=by rw [tO]
   have e6:(yd true g spot z1 z2).hedge=mkT (zq h) wt (rowOf true g spot (yD z1) (yD z2)).hedge:=by rw [tO]
   have nh:nodes (rowOf true g spot (yD z1) (yD z2)).hedge<=100000:=by
    by_cases ct:zq h=true
    ·rw [tN ct];exact Nat.zero_le _
    ·rw [e6] at szn
     unfold mkT at szn
     rw [if_neg ct] at szn
     have:1+nodes (rowOf true g spot (yD z1) (yD z2)).hedge+0<=100000:=szn
     omega
   have dk:deep (result (yD z1))<=f:=by
    rw [rs1]
    have:=yU pn1
    omega
   have nk1:nodes (result (yD z1))<=100000:=by
    rw [rs1]
    have:=zX pn1
    omega
   have nk2:nodes (result (yD z2))<=100000:=by
    rw [rs2]
    have:=zX pn2
    omega
   refine⟨_,rfl,pa1,R.P.C,dp1,_,_,rfl,sM' _ _ g1,R.P.c,R.P.n,rfl,t1,T.T.C,dt1,_,_,rfl,sM' _ _ c1,T.T.c,T.T.n,rfl,_,rfl,?_⟩
   refine⟨_,rfl,p,dx1,_,rfl,hp1,rfl,_,rfl,_,rfl,pa1,R.P.C,dp1,_,_,rfl,sM' _ _ g1,R.P.c,R.P.n,rfl,_,rfl,pa2,R.P.C,dp2,_,_,rfl,sM' _ _ g2,R.P.c,R.P.n,rfl,?_⟩
   refine⟨p,cl,sp,ra1,ra2,M0,cs++clash b spot,spot,children h,yD z1,yD z2,g,rfl,B1,sM' _ _ hsp,?_,?_,R1.mono sM,R2.mono sM,of1,of2,dh,by omega,dk,nk1,nk2,?_,nh,fun H2 l O2=>?_⟩
   ·exact fun z=>(zf hsp).1 (by rw [z];simp)
   ·omega
   ·rw [e5,List.length_append] at szc
    rw [List.length_append]
    omega
   obtain⟨⟨ts,hl,fl⟩,B2,b2'⟩:=O2
   intro t dt ht hdt ndt
   have ntl:l≠t:=za (zf hl).2 ht
   have ndl:l≠dt:=za (zf hl).2 hdt
   have s3:zd H2 (upd (upd H2 dt (.own t)) t (.ins T.T.C dt [])):=(zd.new hdt).trans (zd.new (by rw [z8 (Ne.symm ndt)];exact ht))
   refine⟨t,dt,wd,l,zq (paired z1),ts,(rowOf true g spot (yD z1) (yD z2)).hedge,rfl,z7,s3 _ _ (zf hl).2,ntl,fl.mono (fun x o e=>?_),by omega,fun H4 ht4 b4=>⟨rfl,?_⟩⟩
   ·obtain⟨_,e⟩:=zf e
    exact zt (by simpa using za e ht) (s3 _ _ e)
   have s4:=zd.made ht hdt b4
   have sM4:zd (hid (cl::M0) H2) (hid (cl::M0) H4):=(But.of s4).hid
   have sM2:zd (hid (cl::M0) H1) (hid (cl::M0) H2):=(b2'.mono (by simp)).hid
   have tM:t∉cl::M0:=fun z=>by
    obtain⟨⟨dx',vs',hp',hc',_⟩,nc',lv'⟩:=B2
    rcases List.mem_cons.mp z with z | z
    ·rw [z,hc'] at ht;cases ht
    ·exact lv' t z ht
   refine k H4 t ?_ ?_ ((b1.trans b2').trans (But.of s4))
   ·rw [e6]
    have hw4:=sM4 _ _ (sM2 _ _ (sM _ _ hwd))
    have ht4':hid (cl::M0) H4 t=some (.ins T.T.C dt (tf (zq h) wd l (1+nodes (rowOf true g spot (yD z1) (yD z2)).hedge))):=zt tM (by rw [<-tx1];exact ht4)
    unfold mkT
    by_cases ct:zq h=true
    ·rw [if_pos ct]
     rw [ct,tN ct] at ht4'
     rw [tN ct] at fl
     have:ts=[]:=by cases fl;rfl
     subst this
     exact .tx ht4' hw4 (sM4 _ _ hl) .nil
    ·rw [if_neg ct]
     have ct:zq h=false:=by simpa using ct
     rw [ct] at ht4'
     exact .el ht4' hw4 (sM4 _ _ hl) (fl.mono sM4) .nil
   ·rw [e5,<-List.append_assoc]
    exact B2.same s4
  refine⟨_,rfl,pa1,R.P.C,dp1,_,_,rfl,g1',R.P.c,R.P.n,rfl,_,rfl,?_⟩
  cases r1:renewed z1 with
  | false=>
   refine zr ⟨_,rfl,pa2,R.P.C,dp2,_,_,rfl,g2',R.P.c,R.P.n,rfl,t2,T.T.C,dt2,_,_,rfl,b1',T.T.c,T.T.n,rfl,?_⟩
   refine⟨_,rfl,pa1,R.P.C,dp1,_,_,rfl,g1',R.P.c,R.P.n,rfl,_,rfl,?_⟩
   rw [r1]
   refine zr (zr (fin w2 (xx z2) H false b2 ?_ ?_ (But.refl _ _)))
   ·rw [r1];rfl
   ·show Wo _ _ _ _ _ (cs++[]);rw [List.append_nil];exact B
  | true=>
   refine zu ⟨_,rfl,pa1,R.P.C,dp1,_,_,rfl,g1',R.P.c,R.P.n,rfl,t1,T.T.C,dt1,_,_,rfl,c1',T.T.c,T.T.n,rfl,?_⟩
   refine⟨_,rfl,pa1,R.P.C,dp1,_,_,rfl,g1',R.P.c,R.P.n,rfl,_,rfl,?_⟩
   rw [r1]
   refine zu ⟨_,rfl,pa2,R.P.C,dp2,_,_,rfl,g2',R.P.c,R.P.n,rfl,_,rfl,?_⟩
   cases r2:renewed z2 with
   | false=>
    refine zr (zr (fin w1 (xx z1) H false c2 ?_ ?_ (But.refl _ _)))
    ·rw [r1,r2];rfl
    ·show Wo _ _ _ _ _ (cs++[]);rw [List.append_nil];exact B
   | true=>
    refine zu ⟨_,rfl,pa1,R.P.C,dp1,_,_,rfl,g1',R.P.c,R.P.n,rfl,t1,T.T.C,dt1,_,_,rfl,c1',T.T.c,T.T.n,rfl,_,rfl,pa2,R.P.C,dp2,_,_,rfl,g2',R.P.c,R.P.n,rfl,t2,T.T.C,dt2,_,_,rfl,b1',T.T.c,T.T.n,rfl,rNeW c2' b2' ⟨_,rfl,?_⟩⟩
    have gv:given true (xx z1) (renewed z1) (xx z2) (renewed z2)=(xx z1,!(xx z1 == xx z2)):=by rw [r1,r2];rfl
    have ed:(xx z1 == xx z2)=decide (saying (paired z1)=saying (paired z2)):=by
     have:=ZF (xx z1) (xx z2)
     unfold bne at this
     have h2:=congrArg (!·) this
     have h3:(xx z1 == xx z2)=decide (xx z1=xx z2):=by simpa using h2
     exact h3
    rw [ed] at gv
    by_cases cw:saying (paired z1)=saying (paired z2)
    ·rw [decide_eq_true cw] at gv ⊢
     refine zr (fin w1 (xx z1) H false c2 gv ?_ (But.refl _ _))
     show Wo _ _ _ _ _ (cs++[]);rw [List.append_nil];exact B
    ·rw [decide_eq_false cw] at gv ⊢
     refine zu ?_
     have szc1:cs.length<=100000:=by omega
     refine⟨_,rfl,p,dx,_,rfl,hp,rfl,_,rfl,p,cl,sp,M0,cs,{kind:=3,path:=spot},rfl,B,hsp,szc1,fun H1 B1 b1=>?_⟩
     exact fin w1 (xx z1) H1 true c2 gv B1 b1
end
end Hm
end
section
namespace Hm
open PySem PySem.Spec PyProof.Rows L2
open Vaheda (Hedge nodes append width deep children saying dropTrees Path)
open Vahedn (Fate Slot slots leftAlone paired renewed alone result Conflict nothing puts given clash dropped rowOf)
open Vahedl (Script)
theorem Wo.new {CO:Addr} {H:Hp} {p cl:Addr} {M0:List Addr} {cs:List Conflict} (B:Wo CO H p cl M0 cs) {l:Addr} (hl:H l=none):l∉cl::M0:=fun z=>by
 obtain⟨⟨dx',vs',hp',hc',_⟩,nc',lv'⟩:=B
 rcases List.mem_cons.mp z with z | z
 ·rw [z,hc'] at hl;cases hl
 ·exact lv' l z hl
section
variable {P:Program} {w:World} {K:PySem.W.Frag} {mg:Str->Option Value} {base:Heap}
theorem Vg {f k0:Nat} (X:jd K mg) (R:zB K mg) (T:zw K mg) (hk:1<=k0) (GP:zj P w K mg base CX0 k0 X.pairs.f X.pairs.fd ["self","path","first","second"] (spOPairs T.T.C R.R.C R.P.C X.O.C f)):zj P w K mg base CX0 (k0+1) X.fates.f X.fates.fd ["self","path","first","second"] (spOFates T.T.C R.R.C R.P.C X.O.C f):=by
 have GA:=ZH (P:=P) (w:=w) (base:=base) X
 refine X.fates.F.ok scOFates (fun vs H Q E h=>?_) (fun cdv A outer s H vs Q E hr h=>?_)
 ·obtain⟨_,_,_,_,_,_,_,_,_,_,_,_,rfl,_⟩:=h
  rfl
 ·obtain⟨p,cl,sp,v1,v2,M0,cs,spot,h,z1,z2,g,rfl,B,hsp,F1,F2,o1,o2,dh,dh1,dsp,d1,nz1,nz2,szc,szn,k⟩:=h
  have hr1:zJ 1 _:=hr.mono (by omega)
  refine⟨_,z9 (zR (jQ (zx qa (pv 2) xB (zG _)) (qj (zx qa (pv 3) xB (zG _)))).pt (zc (zn (zM zb))) zE)
   (z9 (zR (jQ (zx ZL (pv 2) xB (zG _)) (qj (zx ZL (pv 3) xB (zG _)))).pt
    (zc (zn (zM (z6 (zT (pv 0) X.O.c X.pairs.m GP hr X.pairs.b .nil zk (z6 (pv 1) (z6 (pv 2) (z6 (pv 3) zb)))) zb)))) zE)
   (z9 (zy (i:=4) scOFates.nd rfl (Or.inl rfl) (jL (zx qa (pv 2) xB (zG _)) (pv 3) (pv 2)))
   (z9 (zR (zV (ze (pv 4) rfl) (fun _=>rfl)) (zc (zn (zM zb))) zE)
   (z9 (zz (zT (pv 0) X.O.c X.add.m GA hr1 X.add.b .nil zk (z6 (zP X.k2) (z6 (pv 1) zb))))
   (zc (zn (jL (zx qa (pv 2) xB (zG _)) (zM zb) (zM (z6 (ze (pv 2) rfl) zb))))))))),?_⟩
  obtain⟨dx,hp⟩:=B.at_
  have none_:∀{H1:Hp} {cs1:List Conflict} {o:Vahedn.Outcome},But [cl] H H1->Wo X.O.C H1 p cl M0 cs1->cs1=cs++o.conflicts->o.hedge=.nil->yd true g spot z1 z2=o->∀l,H1 l=none->Q (.ref l) (L2.upd H1 l (.lst [])):=fun {H1 cs1 o} b1 B1 e1 e2 e3 l hl=>by
   have s1:zd H1 (L2.upd H1 l (.lst [])):=zd.new hl
   refine k _ l ⟨⟨[],zt (B1.new hl) z7,?_⟩,?_,b1.trans (But.of s1)⟩
   ·rw [e3,e2];exact .nil
   ·rw [e3,<-e1];exact B1.same s1
  have FF1:=F1
  have FF2:=F2
  obtain⟨ro1,F1,R1⟩:=F1
  obtain⟨ro2,F2,R2⟩:=F2
  rcases F1 with ⟨rfl,rfl⟩ | ⟨n1,pa1,dp1,t1,rfl,g1,f1,q1⟩
  ·refine⟨_,rfl,rfl,_,rfl,zu ?_⟩
   rcases F2 with ⟨rfl,rfl⟩ | ⟨n2,pa2,dp2,t2,rfl,g2,f2,q2⟩
   ·refine⟨_,rfl,rfl,_,rfl,zu ?_⟩
    exact⟨Nat.zero_le _,none_ (o:=nothing) (But.refl _ _) B (by show cs=cs++[];rw [List.append_nil]) rfl rfl⟩
   ·have te:yd true g spot .gone z2=dropped true true spot z2:=by
     cases z2 with
     | gone=>exact absurd rfl n2
     | el a c j=>rfl
     | tx a c=>rfl
    refine⟨_,rfl,rfl,_,rfl,zr ?_⟩
    refine⟨_,rfl,rfl,_,rfl,zr (zr ?_)⟩
    refine⟨_,rfl,rfl,_,rfl,zu ⟨_,rfl,?_⟩⟩
    refine⟨_,rfl,pa2,R.P.C,dp2,_,_,rfl,(zf g2).2,R.P.c,R.P.n,rfl,_,rfl,?_⟩
    by_cases a2:leftAlone z2=true
    ·rw [a2]
     refine zu ⟨Nat.zero_le _,none_ (o:=nothing) (But.refl _ _) B (by show cs=cs++[];rw [List.append_nil]) rfl ?_⟩
     rw [te,xD a2]
    ·have a2':leftAlone z2=false:=by simpa using a2
     have ed:dropped true true spot z2={hedge:=.nil,conflicts:=[{kind:=2,path:=spot}]}:=by unfold dropped;rw [if_neg a2];rfl
     rw [a2']
     refine zr ?_
     refine⟨_,rfl,p,dx,_,rfl,hp,rfl,_,rfl,p,cl,sp,M0,cs,{kind:=2,path:=spot},rfl,B,hsp,by omega,fun H1 B1 b1=>?_⟩
     refine⟨_,rfl,rfl,_,rfl,zu ⟨Nat.zero_le _,none_ (o:={hedge:=.nil,conflicts:=[{kind:=2,path:=spot}]}) b1 B1 rfl rfl ?_⟩⟩
     rw [te,ed]
  ·refine⟨_,rfl,rfl,_,rfl,zr (zr ?_)⟩
   refine⟨_,rfl,rfl,_,rfl,zu ?_⟩
   rcases F2 with ⟨rfl,rfl⟩ | ⟨n2,pa2,dp2,t2,rfl,g2,f2,q2⟩
   ·have te:yd true g spot z1 .gone=dropped false true spot z1:=by
     cases z1 with
     | gone=>exact absurd rfl n1
     | el a c j=>rfl
     | tx a c=>rfl
    refine⟨_,rfl,rfl,_,rfl,zr ?_⟩
    refine⟨_,rfl,rfl,_,rfl,zr ⟨_,rfl,?_⟩⟩
    refine⟨_,rfl,pa1,R.P.C,dp1,_,_,rfl,(zf g1).2,R.P.c,R.P.n,rfl,_,rfl,?_⟩
    by_cases a1:leftAlone z1=true
    ·rw [a1]
     refine zu ⟨Nat.zero_le _,none_ (o:=nothing) (But.refl _ _) B (by show cs=cs++[];rw [List.append_nil]) rfl ?_⟩
     rw [te,xD a1]
    ·have a1':leftAlone z1=false:=by simpa using a1
     have ed:dropped false true spot z1={hedge:=paired z1,conflicts:=[{kind:=2,path:=spot}]}:=by unfold dropped;rw [if_neg a1];rfl
     rw [a1']
     refine zr ?_
     refine⟨_,rfl,p,dx,_,rfl,hp,rfl,_,rfl,p,cl,sp,M0,cs,{kind:=2,path:=spot},rfl,B,hsp,by omega,fun H1 B1 b1=>?_⟩
     have sM:zd (hid (cl::M0) H) (hid (cl::M0) H1):=(b1.mono (by simp)).hid
     refine⟨_,rfl,rfl,_,rfl,zr ?_⟩
     refine⟨_,rfl,pa1,R.P.C,dp1,_,_,rfl,(zf (sM _ _ g1)).2,R.P.c,R.P.n,rfl,(by show 1<=sizeLine;decide),fun l hl=>?_⟩
     have s1:zd H1 (L2.upd H1 l (.lst [.ref t1])):=zd.new hl
     refine k _ l ⟨⟨[.ref t1],zt (B1.new hl) z7,?_⟩,?_,b1.trans (But.of s1)⟩
     ·rw [te,ed];exact f1.mono (sM.trans (But.of (M:=cl::M0) s1).hid)
     ·rw [te,ed];exact B1.same s1
   ·refine⟨_,rfl,rfl,_,rfl,zu ?_⟩
    refine⟨_,rfl,p,dx,_,rfl,hp,rfl,_,rfl,_,rfl,_,rfl,p,cl,sp,_,_,M0,cs,spot,h,z1,z2,g,rfl,B,hsp,FF1,FF2,n1,n2,o1,o2,dh,dh1,dsp,d1,nz1,nz2,szc,szn,fun H1 t F B1 b1=>⟨(by show 1<=sizeLine;decide),fun l hl=>?_⟩⟩
    have s1:zd H1 (L2.upd H1 l (.lst [.ref t])):=zd.new hl
    exact k _ l ⟨⟨[.ref t],zt (B1.new hl) z7,F.mono (But.of (M:=cl::M0) s1).hid⟩,B1.same s1,b1.trans (But.of s1)⟩
end
def j4 (f:Nat) (above:Path) (xl yl:Hedge) (xs ys:List Slot) (i:Nat):Vahedn.Outcome:=if i<=xs.length then J9 true f above xl yl i (xs.drop i) (ys.drop i) else nothing
theorem zag {f:Nat} {above:Path} {xl yl:Hedge} {xs ys:List Slot} {i:Nat} {x y:Slot} (hx:xs[i]? = some x) (hy:ys[i]? = some y) :
  j4 f above xl yl xs ys i=cat (puts true (above++[i]) x.before y.before) (cat (yd true f (above++[i]) x.fate y.fate) (j4 f above xl yl xs ys (i+1))):=by
 obtain⟨h1,rfl⟩:=List.getElem?_eq_some_iff.mp hx
 obtain⟨h2,rfl⟩:=List.getElem?_eq_some_iff.mp hy
 unfold j4
 rw [if_pos (by omega),if_pos (by omega),List.drop_eq_getElem_cons h1,List.drop_eq_getElem_cons h2]
 rfl
theorem VR {f:Nat} {above:Path} {xl yl:Hedge} {xs ys:List Slot}:j4 f above xl yl xs ys xs.length=puts true (above++[xs.length]) xl yl/\j4 f above xl yl xs ys (xs.length+1)=nothing:=by
 unfold j4
 refine⟨?_,by rw [if_neg (by omega)]⟩
 rw [if_pos (Nat.le_refl _),List.drop_length]
 cases ys.drop xs.length <;> rfl
theorem qy {s:Script} {i:Nat}:(yg s)[i]? = if i<(slots .nil s).1.length then ((slots .nil s).1[i]?).map (·.before) else if i=(slots .nil s).1.length then some (slots .nil s).2 else none:=by
 unfold yg
 by_cases c:i<(slots .nil s).1.length
 ·rw [if_pos c,List.getElem?_append_left (by rw [List.length_map];exact c),List.getElem?_map]
 ·rw [if_neg c,List.getElem?_append_right (by rw [List.length_map];omega),List.length_map]
  by_cases e:i=(slots .nil s).1.length
  ·rw [if_pos e,e,Nat.sub_self];rfl
  ·rw [if_neg e,List.getElem?_eq_none (by show 1<=_;omega)]
theorem Uj:∀(xs:List Slot) (l:Hedge),(∀z∈xs,deep z.before<=deep (res xs l)/\deep (paired z.fate)<=deep (res xs l)/\nodes z.before<=nodes (res xs l)/\nodes (paired z.fate)<=nodes (res xs l))/\deep l<=deep (res xs l)/\nodes l<=nodes (res xs l)
 | [],l=>⟨fun z m=>(by cases m),Nat.le_refl _,Nat.le_refl _⟩
 | x::xs,l=>by
  obtain⟨i1,i2,i3⟩:=Uj xs l
  have e:res (x::xs) l=append x.before (append (paired x.fate) (res xs l)):=rfl
  rw [e,yX,yX,zO,zO]
  refine⟨fun z m=>?_,by omega,by omega⟩
  rcases List.mem_cons.mp m with m | m
  ·subst m
   exact⟨by omega,by omega,by omega,by omega⟩
  ·obtain⟨a,b,c,d⟩:=i1 z m
   exact⟨by omega,by omega,by omega,by omega⟩
theorem Row.get {h:Hedge} {xs:List Slot} (r:Row h xs):∀{i:Nat} {z:Slot},xs[i]? = some z->yp (dropTrees i h) z.fate:=by
 induction r with
 | nil=>intro i z e;simp at e
 | @cons h z0 r hh o _ ih=>
  intro i z e
  cases i with
  | zero=>cases e;rw [zL];exact o
  | succ i=>
   have:=ih (i:=i) e
   have s:dropTrees (i+1) h=dropTrees i (tl h):=by
    cases h with
    | nil=>exact absurd rfl hh
    | el a k m=>rfl
    | tx a m=>rfl
   rw [s];exact this
theorem yp.ne {h:Hedge} {z:Fate} (o:yp h z):h≠.nil:=fun e=>by rw [e] at o;exact o.elim
end Hm
end
section
namespace Hm
open PySem PySem.Spec PyProof.Rows L2
open Vaheda (Hedge nodes append width deep children saying dropTrees Path)
open Vahedn (Fate Slot slots leftAlone paired renewed alone result Conflict nothing puts given clash dropped rowOf)
open Vahedl (Script)
theorem NZ (p:Path) (i:Nat):x9 p++[V.int (i:Nat)]=x9 (p++[i]):=by unfold x9;rw [List.map_append];rfl
theorem Jf (p:Path):(x9 p).length=p.length:=by unfold x9;rw [List.length_map]
section
variable {P:Program} {w:World} {K:PySem.W.Frag} {mg:Str->Option Value} {base:Heap}
theorem UL {f k0:Nat} (X:jd K mg) (R:zB K mg) (T:zw K mg) (W:y9 K mg) (hk:3*f+4<=k0) (GF:zj P w K mg base CX0 k0 X.fates.f X.fates.fd ["self","path","first","second"] (spOFates T.T.C R.R.C R.P.C X.O.C f)):zj P w K mg base CX0 (k0+1) X.row.f X.row.fd ["self","path","first","second"] (spORow T.T.C R.R.C R.P.C X.O.C f):=by
 have GP:=Ix (P:=P) (w:=w) (base:=base) X T f
 refine X.row.F.ok scORow (fun vs H Q E h=>?_) (fun cdv A outer s H vs Q E hr h=>?_)
 ·obtain⟨_,_,_,_,_,_,_,_,_,_,_,_,rfl,_⟩:=h
  rfl
 ·obtain⟨p,cl,pl,ra,rb,M0,cs,above,h,s1,s2,g0,rfl,B,hpl,npl,sza,R1,R2,of1,of2,dh,dhf,dr,nr1,nr2,szc,szn,k⟩:=h
  obtain⟨g,rfl⟩:∃g,g0=g+1:=⟨g0 - 1,by omega⟩
  have hrp:zJ (3*f+4) _:=hr.mono hk
  have hz:sizeLine=16777216:=sizeLine_eq
  refine⟨_,z9 (zy (i:=4) scORow.nd rfl (Or.inl rfl) (zM zb))
   (z9 (xF PassesOwn.never rfl (UV (by rfl) W.nenum (z6 (ze (pv 2) rfl) zb)) (ON rfl (Y2 (yA (i:=5) scORow.nd rfl (Or.inl rfl)) (Y2 (yA (i:=6) scORow.nd rfl (Or.inl rfl)) US)))
    (z9 (zy (i:=7) scORow.nd rfl (Or.inl rfl) (yb Zi (pv 1) (zM (z6 (pv 5) zb))))
    (z9 (zz (yK PySem.F.plainAttrs_list PySem.F.slot_list_extend PySem.F.type_list_extend qD (pv 4) (z6 (zT (pv 0) X.O.c X.puts.m GP hrp X.puts.b .nil zk (z6 (pv 7) (z6 (pv 6) (z6 (zN zA (ze (pv 3) rfl) (pv 5) (fun _ _=>rfl)) zb)))) zb)))
    (zc (zR (zx qw (pv 5) (zU zF (by rfl) T.nlen PySem.boot_len (z6 (ze (pv 2) rfl) zb)) (zG _))
     (zc (zz (yK PySem.F.plainAttrs_list PySem.F.slot_list_extend PySem.F.type_list_extend qD (pv 4) (z6 (zT (pv 0) X.O.c X.fates.m GF hr X.fates.b .nil zk (z6 (pv 7) (z6 (zN zA (ze (pv 2) rfl) (pv 5) (fun _ _=>rfl)) (z6 (zN zA (ze (pv 3) rfl) (pv 5) (fun _ _=>rfl)) zb)))) zb)))) zE)))))
   (zc (zn (pv 4)))),?_⟩
  have r1:=of1.row (acc:=.nil)
  have r2:=of2.row (acc:=.nil)
  have l1:=r1.len
  have l2:=r2.len
  have wh:=yo h
  rw [jP true g above s1 s2 (by rw [l1,l2])] at szc szn k
  obtain⟨xs,exs⟩:∃xs,xs=(slots .nil s1).1:=⟨_,rfl⟩
  obtain⟨ys,eys⟩:∃ys,ys=(slots .nil s2).1:=⟨_,rfl⟩
  obtain⟨xl,exl⟩:∃xl,xl=(slots .nil s1).2:=⟨_,rfl⟩
  obtain⟨yl,eyl⟩:∃yl,yl=(slots .nil s2).2:=⟨_,rfl⟩
  rw [<-exs,<-eys,<-exl,<-eyl] at szc szn k
  have rl1:res xs xl=result s1:=by
   have:=yq s1 .nil
   rw [<-exs,<-exl] at this
   exact this
  have rl2:res ys yl=result s2:=by
   have:=yq s2 .nil
   rw [<-eys,<-eyl] at this
   exact this
  obtain⟨in1,dl1,nl1⟩:=Uj xs xl
  obtain⟨in2,dl2,nl2⟩:=Uj ys yl
  rw [rl1] at in1 dl1 nl1
  rw [rl2] at in2 dl2 nl2
  obtain⟨dx1,cz1,P1,F1,ps1,fs1,a1,a2,a3,a4,a5,a6⟩:=R1.open_
  obtain⟨dx2,cz2,P2,F2,ps2,fs2,b1,b2,b3,b4,b5,b6⟩:=R2.open_
  rw [<-exs] at a5 a6 r1 l1
  rw [<-eys] at b5 b6 r2 l2
  have pl1:=a4.len
  have bl1:(yg s1).length=xs.length+1:=by unfold yg;rw [List.length_append,List.length_map,<-exs];rfl
  obtain⟨whole,ew⟩:∃o,o=J9 true g above xl yl 0 xs ys:=⟨_,rfl⟩
  have ew0:whole=j4 g above xl yl xs ys 0:=by rw [ew];unfold j4;rw [if_pos (Nat.zero_le _)];rfl
  rw [<-ew] at szc szn k
  refine⟨Nat.zero_le _,fun tr htr=>?_⟩
  have trM:=B.new htr
  have trM':=trM
  simp only [List.mem_cons,not_or] at trM'
  have s0:zd H (upd H tr (.lst [])):=zd.new htr
  have htr0:upd H tr (.lst []) tr=some (.lst []):=z7
  generalize upd H tr (.lst [])=H0 at s0 htr0 ⊢
  have sM:∀{H':Hp},But [cl] H H'->zd (hid (cl::M0) H) (hid (cl::tr::M0) H'):=fun b x o e=>by
   obtain⟨nx,e⟩:=zf e
   simp only [List.mem_cons,not_or] at nx
   exact zt (by simp [nx.1,nx.2,za e htr]) (b x o e (by simpa using nx.1))
  have cnM:cl∉tr::M0:=fun z=>by
   rcases List.mem_cons.mp z with z | z
   ·exact trM'.1 z.symm
   ·exact B.nc z
  have B0:Wo X.O.C H0 p cl (tr::M0) cs:=by
   obtain⟨⟨dx,vs,hp,hc,A⟩,nc,lv⟩:=B
   refine⟨⟨dx,vs,s0 _ _ hp,s0 _ _ hc,A.mono (sM (But.of s0))⟩,cnM,fun b m=>?_⟩
   rcases List.mem_cons.mp m with m | m
   ·rw [m,htr0];intro z;cases z
   ·obtain⟨o,e⟩:=zD (lv b m)
    rw [s0 _ _ e];intro z;cases z
  refine⟨_,rfl,ra,R.R.C,dx1,_,_,rfl,s0 _ _ (zf a1).2,R.R.c,R.R.n,rfl,P1,ps1,rfl,SqL.of (s0 _ _ (zf a2).2),Up (K:=K) (a:=P1) (xs:=ps1)
   (fun i σ H'=>∃v5 v6 v7 ts acc ca,σ=[some (.ref p),some (.ref pl),some (.ref ra),some (.ref rb),some (.ref tr),v5,v6,v7]/\H' tr=some (.lst ts)/\zm T.T.C (hid (cl::tr::M0) H') ts acc/\Wo X.O.C H' p cl (tr::M0) (cs++ca)/\But [cl] H H'/\whole=cat {hedge:=acc,conflicts:=ca} (j4 g above xl yl xs ys i))
   ⟨none,none,none,[],.nil,[],rfl,htr0,.nil,by rw [List.append_nil];exact B0,But.of s0,ew0⟩ (fun i σ H' _ ⟨_,_,_,_,_,_,_,_,_,_,b,_⟩=>SqL.of (b _ _ (zf a2).2 (by simpa using fun z=>(zf a2).1 (by simp [z])))) ?_ ?_⟩
  ·rintro i x σ H' tp hi ⟨v5,v6,v7,ts,acc,ca,rfl,htr',fa,B',bH,ewi⟩ htp
   have hlt:=(List.getElem?_eq_some_iff.mp hi).1
   refine⟨tp,_,rfl,SqT.of z7,rfl,_,_,rfl,_,_,rfl,rfl,?_⟩
   have sT:zd H' (upd H' tp (.tup [.int (i:Nat),x])):=zd.new htp
   have bT:=bH.trans (But.of sT)
   have npl':(upd H' tp (.tup [.int (i:Nat),x])) pl=some (.lst (x9 above)):=bT _ _ hpl (by simpa using npl)
   refine⟨_,rfl,_,rfl,(by show 1<=sizeLine;decide),fun l0 hl0=>?_⟩
   refine⟨pl,l0,_,_,rfl,rfl,(zd.new hl0) _ _ npl',z7,by rw [Jf];show _+1<=_;omega,fun sp hsp=>?_⟩
   rw [NZ]
   have s5:zd H' (upd (upd (upd H' tp (.tup [.int (i:Nat),x])) l0 (.lst [.int (i:Nat)])) sp (.lst (x9 (above++[i])))):=(sT.trans (zd.new hl0)).trans (zd.new hsp)
   have hsp5:upd (upd (upd H' tp (.tup [.int (i:Nat),x])) l0 (.lst [.int (i:Nat)])) sp (.lst (x9 (above++[i]))) sp=some (.lst (x9 (above++[i]))):=z7
   have spH':H' sp=none:=(sT.trans (zd.new hl0)).free hsp
   generalize upd (upd (upd H' tp (.tup [.int (i:Nat),x])) l0 (.lst [.int (i:Nat)])) sp (.lst (x9 (above++[i])))=H5 at s5 hsp5 ⊢
   have B5:=B'.same s5
   have b5':=bH.trans (But.of s5)
   have sp5:hid (cl::tr::M0) H5 sp=some (.lst (x9 (above++[i]))):=zt (B'.new spH') hsp5
   have sm5:=sM b5'
   have htr5:=s5 _ _ htr'
   obtain⟨dx5,hp5⟩:=B5.at_
   have li:i<=xs.length:=by omega
   obtain⟨x1,hx1⟩:∃x1,(yg s1)[i]? = some x1:=⟨_,List.getElem?_eq_getElem (by omega)⟩
   have bl2:(yg s2).length=ys.length+1:=by unfold yg;rw [List.length_append,List.length_map,<-eys];rfl
   obtain⟨y1,hy1⟩:∃y1,(yg s2)[i]? = some y1:=⟨_,List.getElem?_eq_getElem (by omega)⟩
   obtain⟨pa,ta,e1,e2,e3⟩:=a4.get hx1
   obtain⟨pb,tb,e4,e5,e6⟩:=b4.get hy1
   rw [e1] at hi
   cases hi
   have bx:deep x1<=f/\nodes x1<=100000:=by
    rw [qy,<-exs,<-exl] at hx1
    by_cases c:i<xs.length
    ·rw [if_pos c,List.getElem?_eq_getElem c] at hx1
     cases hx1
     obtain⟨q1,q2,q3,q4⟩:=in1 xs[i] (List.getElem_mem c)
     dsimp only
     exact⟨by omega,by omega⟩
    ·rw [if_neg c,if_pos (by omega)] at hx1
     cases hx1
     exact⟨by omega,by omega⟩
   have by_:nodes y1<=100000:=by
    rw [qy,<-eys,<-eyl] at hy1
    by_cases c:i<ys.length
    ·rw [if_pos c,List.getElem?_eq_getElem c] at hy1
     cases hy1
     obtain⟨q1,q2,q3,q4⟩:=in2 ys[i] (List.getElem_mem c)
     dsimp only
     omega
    ·rw [if_neg c,if_pos (by omega)] at hy1
     cases hy1
     omega
   have rst:∃tail,j4 g above xl yl xs ys i=cat (puts true (above++[i]) x1 y1) tail/\((i=xs.length/\tail=nothing/\j4 g above xl yl xs ys (i+1)=nothing)\/(i<xs.length/\∃z1 z2,xs[i]? = some z1/\ys[i]? = some z2/\tail=cat (yd true g (above++[i]) z1.fate z2.fate) (j4 g above xl yl xs ys (i+1)))):=by
    rw [qy,<-exs,<-exl] at hx1
    rw [qy,<-eys,<-eyl] at hy1
    by_cases c:i<xs.length
    ·have c2:i<ys.length:=by omega
     rw [if_pos c,List.getElem?_eq_getElem c] at hx1
     rw [if_pos c2,List.getElem?_eq_getElem c2] at hy1
     cases hx1
     cases hy1
     exact⟨_,zag (List.getElem?_eq_getElem c) (List.getElem?_eq_getElem c2),.inr ⟨c,_,_,List.getElem?_eq_getElem c,List.getElem?_eq_getElem c2,rfl⟩⟩
    ·have ei:i=xs.length:=by omega
     have c2:¬i<ys.length:=by omega
     rw [if_neg c,if_pos ei] at hx1
     rw [if_neg c2,if_pos (by omega)] at hy1
     cases hx1
     cases hy1
     subst ei
     obtain⟨q1,q2⟩:=VR (f:=g) (above:=above) (xl:=xl) (yl:=yl) (xs:=xs) (ys:=ys)
     exact⟨nothing,by rw [q1,jC],.inl ⟨rfl,rfl,q2⟩⟩
   obtain⟨tail,rst,rcase⟩:=rst
   rw [rst] at ewi
   have ch:append acc (append (puts true (above++[i]) x1 y1).hedge tail.hedge)=whole.hedge:=by rw [ewi];rfl
   have cc:ca++((puts true (above++[i]) x1 y1).conflicts++tail.conflicts)=whole.conflicts:=by rw [ewi];rfl
   have cn:=congrArg nodes ch
   rw [zO,zO] at cn
   have cl':=congrArg List.length cc
   rw [List.length_append,List.length_append] at cl'
   refine⟨_,rfl,.inl ⟨rfl,_,SqL.of htr5⟩,_,rfl,p,dx5,_,rfl,hp5,rfl,_,rfl,_,rfl,_,rfl,rb,R.R.C,dx2,_,_,rfl,(zf (sm5 _ _ b1)).2,R.R.c,R.R.n,rfl,_,rfl,P2,ps2,_,_,rfl,rfl,SqL.of (zf (sm5 _ _ b2)).2,zp e4,?_⟩
   refine⟨p,cl,sp,pa,pb,tr::M0,cs++ca,above++[i],ta,tb,x1,y1,rfl,B5,sp5,sm5 _ _ e2,sm5 _ _ e5,e3.mono sm5,e6.mono sm5,bx.1,by rw [List.length_append];omega,bx.2,by_,fun H6 l6 O6=>?_⟩
   obtain⟨⟨ts6,hl6,fl6⟩,B6,b56⟩:=O6
   have hl6':=(zf hl6).2
   have htr6:H6 tr=some (.lst ts):=b56 _ _ htr5 (by simpa using trM'.1)
   have sm56:zd (hid (cl::tr::M0) H5) (hid (cl::tr::M0) H6):=(b56.mono (by simp)).hid
   have sm5':zd (hid (cl::tr::M0) H') (hid (cl::tr::M0) H5):=(But.of s5).hid
   have tl1:=fa.len
   have tl2:=fl6.len
   have wa:=yo acc
   have wp:=yo (puts true (above++[i]) x1 y1).hedge
   refine⟨tr,l6,ts,ts6,rfl,rfl,htr6,hl6',by omega,?_⟩
   have B7:=B6.upd (ts:=ts++ts6) htr6
   have bH6:=b5'.trans b56
   have bH7:But [cl] H (upd H6 tr (.lst (ts++ts6))):=fun x o e nx=>by rw [z8 (za e htr)];exact bH6 x o e nx
   have f7:zm T.T.C (hid (cl::tr::M0) (upd H6 tr (.lst (ts++ts6)))) (ts++ts6) (append acc (puts true (above++[i]) x1 y1).hedge):=by
    rw [xW (by simp)]
    exact(fa.mono (sm5'.trans sm56)).append fl6
   have htr7:upd H6 tr (.lst (ts++ts6)) tr=some (.lst (ts++ts6)):=z7
   have sp7:hid (cl::tr::M0) (upd H6 tr (.lst (ts++ts6))) sp=some (.lst (x9 (above++[i]))):=by rw [xW (by simp)];exact sm56 _ _ sp5
   generalize upd H6 tr (.lst (ts++ts6))=H7 at B7 bH7 f7 htr7 sp7 ⊢
   have sm7:=sM bH7
   rw [List.append_assoc] at B7
   obtain⟨dx7,hp7⟩:=B7.at_
   refine⟨_,rfl,_,rfl,ra,R.R.C,dx1,_,_,rfl,(zf (sm7 _ _ a1)).2,R.R.c,R.R.n,rfl,F1,fs1,rfl,.inl (SqL.of (zf (sm7 _ _ a3)).2),_,_,rfl,rfl,_,rfl,?_⟩
   rcases rcase with ⟨ei,et,er⟩ | ⟨c,z1,z2,hz1,hz2,et⟩
   ·rw [decide_eq_false (show ¬((i:Nat):Int)<((fs1.length:Nat):Int) by omega)]
    refine zr ⟨_,_,_,_,_,_,rfl,htr7,f7,B7,bH7,?_⟩
    rw [ewi,et,er,jC,jC]
    rfl
   ·rw [decide_eq_true (show((i:Nat):Int)<((fs1.length:Nat):Int) by omega)]
    refine zu ?_
    obtain⟨w1,ew1,fz1⟩:=a6 i z1 hz1
    obtain⟨w2,ew2,fz2⟩:=b6 i z2 hz2
    have o1:=r1.get hz1
    have o2:=r2.get hz2
    have dd:deep (children (dropTrees i h))<g/\deep (children (dropTrees i h))+1<=f:=by
     have a:=yU o1.ne
     have b:=xL i h
     exact⟨by omega,by omega⟩
    obtain⟨q1,q2,q3,q4⟩:=in1 z1 (List.mem_of_getElem? hz1)
    obtain⟨q5,q6,q7,q8⟩:=in2 z2 (List.mem_of_getElem? hz2)
    have th:tail.hedge=append (yd true g (above++[i]) z1.fate z2.fate).hedge (j4 g above xl yl xs ys (i+1)).hedge:=by rw [et];rfl
    have tc:tail.conflicts=(yd true g (above++[i]) z1.fate z2.fate).conflicts++(j4 g above xl yl xs ys (i+1)).conflicts:=by rw [et];rfl
    rw [th,zO] at cn
    rw [tc,List.length_append] at cl'
    refine⟨_,rfl,.inl ⟨rfl,_,SqL.of htr7⟩,_,rfl,p,dx7,_,rfl,hp7,rfl,_,rfl,_,rfl,ra,R.R.C,dx1,_,_,rfl,(zf (sm7 _ _ a1)).2,R.R.c,R.R.n,rfl,_,rfl,F1,fs1,_,_,rfl,rfl,SqL.of (zf (sm7 _ _ a3)).2,zp ew1,_,rfl,rb,R.R.C,dx2,_,_,rfl,(zf (sm7 _ _ b1)).2,R.R.c,R.R.n,rfl,_,rfl,F2,fs2,_,_,rfl,rfl,SqL.of (zf (sm7 _ _ b3)).2,zp ew2,?_⟩
    refine⟨p,cl,sp,w1,w2,tr::M0,cs++(ca++(puts true (above++[i]) x1 y1).conflicts),above++[i],dropTrees i h,z1.fate,z2.fate,g,rfl,B7,sp7,fz1.mono sm7,fz2.mono sm7,o1,o2,dd.1,dd.2,by rw [List.length_append];show _+1+f<=501;omega,by omega,by omega,by omega,by rw [List.length_append,List.length_append];omega,by omega,fun H8 l8 O8=>?_⟩
    obtain⟨⟨ts8,hl8,fl8⟩,B8,b78⟩:=O8
    have htr8:H8 tr=some (.lst (ts++ts6)):=b78 _ _ htr7 (by simpa using trM'.1)
    have sm78:zd (hid (cl::tr::M0) H7) (hid (cl::tr::M0) H8):=(b78.mono (by simp)).hid
    have tl8:=fl8.len
    have tl7:=f7.len
    have wt:=yo (yd true g (above++[i]) z1.fate z2.fate).hedge
    have wap:=yo (append acc (puts true (above++[i]) x1 y1).hedge)
    rw [zO] at wap
    refine⟨tr,l8,_,ts8,rfl,rfl,htr8,(zf hl8).2,by omega,?_⟩
    have B9:=B8.upd (ts:=(ts++ts6)++ts8) htr8
    refine⟨_,_,_,_,append (append acc (puts true (above++[i]) x1 y1).hedge) (yd true g (above++[i]) z1.fate z2.fate).hedge,(ca++(puts true (above++[i]) x1 y1).conflicts)++(yd true g (above++[i]) z1.fate z2.fate).conflicts,rfl,z7,?_,?_,fun x o e nx=>by rw [z8 (za e htr)];exact b78 _ _ (bH7 x o e nx) nx,?_⟩
    ·rw [xW (by simp)]
     exact(f7.mono sm78).append fl8
    ·rw [<-List.append_assoc];exact B9
    ·rw [ewi,et,<-Yh,<-Yh]
     rfl
  ·rintro σ H' ⟨v5,v6,v7,ts,acc,ca,rfl,htr',fa,B',bH,ewi⟩
   have er:j4 g above xl yl xs ys ps1.length=nothing:=by
    rw [pl1,bl1]
    exact VR.2
   rw [er,jC] at ewi
   have sO:zd (hid (cl::tr::M0) H') (hid (cl::M0) H'):=fun x o e=>by
    obtain⟨nx,e⟩:=zf e
    simp only [List.mem_cons,not_or] at nx
    exact zt (by simp [nx.1,nx.2.2]) e
   refine⟨_,rfl,k H' tr ⟨⟨ts,zt trM htr',?_⟩,?_,bH⟩⟩
   ·rw [ewi];exact fa.mono sO
   ·rw [ewi];exact B'.out
theorem Ur (X:jd K mg) (R:zB K mg) (T:zw K mg) (W:y9 K mg):∀f,zj P w K mg base CX0 (3*f+5) X.row.f X.row.fd ["self","path","first","second"] (spORow T.T.C R.R.C R.P.C X.O.C f)
 | 0=>UL X R T W (Nat.le_refl _) (Vg X R T (by omega) (NS X R T 3))
 | f+1=>UL X R T W (by omega) (Vg X R T (by omega) (Om X R T (by omega) (Ur X R T W f)))
end
end Hm
end
section
namespace Hm
open PySem PySem.Spec PyProof.Rows L2
open Vaheda (Hedge nodes append width deep children saying dropTrees Path)
open Vahedn (Fate Slot slots leftAlone paired renewed alone result Conflict nothing puts given clash dropped rowOf)
open Vahedl (Script)
def of_ (cl l:Addr):List (Str×V):=[("conflicts",.ref cl),("hedge",.ref l)]
structure OutAt (C CO:Addr) (G:Hp) (p:Addr) (o:Vahedn.Outcome):Prop where
 ex:∃dx cl l vs ts,G p=some (.ins CO dx (of_ cl l))/\G cl=some (.lst vs)/\je G vs o.conflicts/\G l=some (.lst ts)/\zm C G ts o.hedge
def spOInit (C CR CP CO:Addr):Sp:=fun vs H Q _=>∃(p dx ra rb:Addr) (M:List Addr) (h:Hedge) (s t:Script) (f:Nat),vs=[.ref p,.ref ra,.ref rb]/\H p=some (.ins CO dx [])/\p∉M/\(∀b∈M,H b≠none) /\
 yu C CR CP (hid (p::M) H) ra s/\yu C CR CP (hid (p::M) H) rb t/\Of h s/\Of h t/\deep h<f/\deep h<=40/\deep (result s)<=40/\nodes (result s)<=100000/\nodes (result t)<=100000/\(rowOf true f [] s t).conflicts.length<=100000/\nodes (rowOf true f [] s t).hedge<=100000 /\
 ∀H',OutAt C CO (hid M H') p (rowOf true f [] s t)->But [p] H H'->Q .non H'
section
variable {P:Program} {w:World} {K:PySem.W.Frag} {mg:Str->Option Value} {base:Heap}
theorem scOInit:zh ["self","first","second"] ["self","first","second"] (zg sOInit):=⟨rfl,rfl,rfl,by decide +kernel,rfl,by decide +kernel,by decide +kernel⟩
theorem Ir (X:jd K mg) (R:zB K mg) (T:zw K mg) (W:y9 K mg):zj P w K mg base CX0 126 X.init.f X.init.fd ["self","first","second"] (spOInit T.T.C R.R.C R.P.C X.O.C):=by
 have GR:=Ur (P:=P) (w:=w) (base:=base) X R T W 40
 refine X.init.F.ok scOInit (fun vs H Q E h=>?_) (fun cdv A outer s H vs Q E hr h=>?_)
 ·obtain⟨_,_,_,_,_,_,_,_,_,rfl,_⟩:=h
  rfl
 ·obtain⟨p,dx,ra,rb,M,h,s1,s2,f,rfl,hp,pM,lv,R1,R2,of1,of2,dh,dh4,dr,nr1,nr2,szc,szn,k⟩:=h
  refine⟨_,z9 (zZ (pv 0) (zM zb) rfl) (zc (zZ (pv 0) (zT (pv 0) X.O.c X.row.m GR hr X.row.b .nil zk (z6 (zM zb) (z6 (pv 1) (z6 (pv 2) zb)))) rfl)),?_⟩
  refine⟨Nat.zero_le _,fun cl hcl=>?_⟩
  have npc:p≠cl:=za hp hcl
  refine⟨_,rfl,p,X.O.C,dx,_,rfl,by rw [z8 npc];exact hp,X.O.c,X.O.n,(by show 0<1000;decide),?_⟩
  obtain⟨H1,eH1⟩:∃H1,upd (upd H cl (.lst [])) p (.ins X.O.C dx (y4 "conflicts" (.ref cl) []))=H1:=⟨_,rfl⟩
  have hp1:H1 p=some (.ins X.O.C dx [("conflicts",.ref cl)]):=by rw [<-eH1,z7];rfl
  have hc1:H1 cl=some (.lst []):=by rw [<-eH1,z8 (Ne.symm npc),z7]
  have b1:But [p] H H1:=by rw [<-eH1];exact(But.new hcl).trans (But.upd (by simp))
  rw [eH1]
  refine⟨_,rfl,p,dx,_,rfl,hp1,rfl,Nat.zero_le _,fun pl hpl=>?_⟩
  have s2':zd H1 (upd H1 pl (.lst [])):=zd.new hpl
  have npl:pl≠cl:=Ne.symm (za hc1 hpl)
  have nlp:pl≠p:=Ne.symm (za hp1 hpl)
  have hpl2:upd H1 pl (.lst []) pl=some (.lst []):=z7
  generalize upd H1 pl (.lst [])=H2 at s2' hpl2 ⊢
  have clM:cl∉M:=fun z=>lv cl z hcl
  have sR:zd (hid (p::M) H) (hid (cl::p::M) H2):=fun b o e=>by
   obtain⟨nb,e⟩:=zf e
   simp only [List.mem_cons,not_or] at nb
   exact zt (by simp [nb.1,nb.2,za e hcl]) (s2' _ _ (b1 b o e (by simpa using nb.1)))
  have lv2:∀b∈p::M,H2 b≠none:=fun b m=>by
   rcases List.mem_cons.mp m with m | m
   ·rw [m,s2' _ _ hp1];intro z;cases z
   ·obtain⟨o,e⟩:=zD (lv b m)
    rw [s2' _ _ (b1 b o e (by simpa using fun z=>pM (by rw [<-z];exact m)))]
    intro z;cases z
  refine⟨_,rfl,_,rfl,p,cl,pl,ra,rb,p::M,[],[],h,s1,s2,f,rfl,⟨⟨dx,[],s2' _ _ hp1,s2' _ _ hc1,.nil⟩,by simp [Ne.symm npc,clM],lv2⟩,hpl2,npl,by show 0+40<=500;omega,R1.mono sR,R2.mono sR,of1,of2,dh,dh4,dr,nr1,nr2,by show 0+_<=_;omega,szn,fun H3 l O3=>?_⟩
  obtain⟨⟨ts,hl,fl⟩,B3,b23⟩:=O3
  obtain⟨⟨dx3,vs3,hp3,hc3,A3⟩,nc3,lv3⟩:=B3
  have hp3':=b23 _ _ (s2' _ _ hp1) (by simpa using npc)
  refine⟨_,rfl,p,X.O.C,dx,_,rfl,hp3',X.O.c,X.O.n,(by show 1<1000;decide),?_⟩
  have sF:zd (hid (cl::p::M) H3) (hid M (upd H3 p (.ins X.O.C dx (y4 "hedge" (.ref l) [("conflicts",.ref cl)])))):=fun b o e=>by
   obtain⟨nb,e⟩:=zf e
   simp only [List.mem_cons,not_or] at nb
   exact zt nb.2.2 (by rw [z8 nb.2.1];exact e)
  refine k _ ⟨dx,cl,l,vs3,ts,zt pM z7,zt clM (by rw [z8 (Ne.symm npc)];exact hc3),A3.mono sF,sF _ _ hl,fl.mono sF⟩ ?_
  intro b o e nb
  have nb':b≠p:=by simpa using nb
  rw [z8 nb']
  exact b23 b o (s2' _ _ (b1 b o e nb)) (by simpa using za e hcl)
end
end Hm
end
section
namespace Hm
open PySem PySem.Spec PyProof.Rows L2
open Vaheda (Hedge nodes append width deep children saying dropTrees Path readText)
open Vahedn (Fate Slot slots leftAlone paired renewed alone result Conflict nothing puts given clash dropped rowOf State)
open Vahedl (Script)
abbrev sCheckV:Stmt:=top 68
abbrev sCheckS:Stmt:=top 69
abbrev sHeld:Stmt:=top 70
structure yY (K:PySem.W.Frag) (mg:Str->Option Value):Type where
 checkV:Df K mg "check_version" sCheckV ["number"]
 checkS:Df K mg "check_size" sCheckS ["hedge"]
 held:Df K mg "held_hedge" sHeld ["text"]
 NoVersion:Addr
 nv:mg "NoVersion"=some (.ref NoVersion)
 nvX:Exc K NoVersion
 TooMany:Addr
 tm:mg "TooManyNodes"=some (.ref TooMany)
 tmX:Exc K TooMany
 most:GlI mg "MOST_HELD_NODES" 200
def spCheckV (NV:Addr):Sp:=fun vs H Q E=>∃w:Int,vs=[.int w]/\((w=1\/w=2)->∀H',zd H H'->Q .non H')/\(¬(w=1\/w=2)->∀H',zd H H'->E (.ref NV) none H')
def spCheckS (C TM:Addr):Sp:=fun vs H Q E=>∃(l:Addr) (ts:List V) (h:Hedge),vs=[.ref l]/\H l=some (.lst ts)/\zm C H ts h/\nodes h<sizeLine/\(nodes h<=200->∀H',zd H H'->Q .non H')/\(¬nodes h<=200->∀H',zd H H'->E (.ref TM) none H')
def spHeld (C NH TM:Addr):Sp:=fun vs H Q E=>∃(tx:Addr) (t:zl) (Mr:List Addr),vs=[.ref tx]/\H tx=some (.lst (wds t))/\t.length<sizeLine/\(∀b∈Mr,H b≠none) /\
 (∀h,readText t=.ok h->nodes h<=200->yi Wok h->deep h<=40->∀H' l ts,H l=none->H' l=some (.lst ts)->zm C (hid Mr H') ts h->zd H H'->Q (.ref l) H') /\
 (∀h,readText t=.ok h->¬nodes h<=200->∀H',zd H H'->E (.ref TM) none H')/\(∀e,readText t=.error e->∀H',zd H H'->E (.ref NH) none H')
section
variable {P:Program} {w:World} {K:PySem.W.Frag} {mg:Str->Option Value} {base:Heap}
theorem scCheckV:zh ["number"] ["number"] (zg sCheckV):=⟨rfl,rfl,rfl,by decide +kernel,rfl,by decide +kernel,by decide +kernel⟩
theorem scCheckS:zh ["hedge"] ["hedge"] (zg sCheckS):=⟨rfl,rfl,rfl,by decide +kernel,rfl,by decide +kernel,by decide +kernel⟩
theorem scHeld:zh ["text","hedge"] ["text"] (zg sHeld):=⟨rfl,rfl,rfl,by decide +kernel,rfl,by decide +kernel,by decide +kernel⟩
theorem jn (X:yY K mg):zj P w K mg base (CXE P w) 1 X.checkV.f X.checkV.fd ["number"] (spCheckV X.NoVersion):=by
 refine X.checkV.F.okx scCheckV (fun vs H Q E h=>?_) (fun cdv A outer s H vs Q E hr h=>?_)
 ·obtain⟨_,rfl,_⟩:=h
  rfl
 ·obtain⟨n,rfl,k,ke⟩:=h
  refine⟨_,zc (zR (zx J2 (pv 0) (jB (z6 zi (z6 zi zb))) rfl) (zc (yN xc rfl rfl X.nv X.nvX)) zE),?_⟩
  refine⟨_,rfl,(by show 2<=sizeLine;decide),fun tp htp=>?_⟩
  refine⟨tp,_,rfl,.inr (SqT.of z7),rfl,rfl,_,rfl,?_⟩
  show if (!inV (.int n) [V.int 1,V.int 2])=true then _ else _
  rw [inV2]
  by_cases c:n=1\/n=2
  ·rw [decide_eq_true c]
   exact zr (k c _ (zd.new htp))
  ·rw [decide_eq_false c]
   exact zu (ke c _ (zd.new htp))
theorem Vo (X:yY K mg) (T:zw K mg):zj P w K mg base (CXE P w) 2 X.checkS.f X.checkS.fd ["hedge"] (spCheckS T.T.C X.TooMany):=by
 have GS:=YA (P:=P) (w:=w) (base:=base) T
 refine X.checkS.F.okx scCheckS (fun vs H Q E h=>?_) (fun cdv A outer s H vs Q E hr h=>?_)
 ·obtain⟨_,_,_,rfl,_⟩:=h
  rfl
 ·obtain⟨l,ts,h,rfl,hl,f,hz,k,ke⟩:=h
  refine⟨_,zc (zR (zx JY (zC GS hr (by rfl) T.size.m T.size.F.kp T.size.b .nil zk (z6 (pv 0) zb)) (zP X.most) (zG _)) (zc (yN xc rfl rfl X.tm X.tmX)) zE),?_⟩
  refine⟨_,rfl,l,ts,h,rfl,hl,f,hz,fun H1 s1=>⟨_,_,rfl,rfl,_,rfl,?_⟩⟩
  by_cases c:nodes h<=200
  ·rw [decide_eq_false (show ¬(200:Int)<((nodes h:Nat):Int) by omega)]
   exact zr (k c H1 s1)
  ·rw [decide_eq_true (show(200:Int)<((nodes h:Nat):Int) by omega)]
   exact zu (ke c H1 s1)
theorem UU (X:yY K mg) (R:jD K mg) (S:yf K mg) (W:y9 K mg) (T:zw K mg):zj P w K mg base (CXE P w) 7 X.held.f X.held.fd ["text"] (spHeld T.T.C S.NoHedge X.TooMany):=by
 have GR:=zbe (P:=P) (w:=w) (base:=base) R S W T
 have GC:=Vo (P:=P) (w:=w) (base:=base) X T
 refine X.held.F.okx scHeld (fun vs H Q E h=>?_) (fun cdv A outer s H vs Q E hr h=>?_)
 ·obtain⟨_,_,_,rfl,_⟩:=h
  rfl
 ·obtain⟨tx,t,Mr,rfl,ht,lz,lvr,k,k5,k1⟩:=h
  have hr2:zJ 2 _:=hr.mono (by decide)
  have hz:sizeLine=16777216:=sizeLine_eq
  refine⟨_,z9 (zy (i:=1) scHeld.nd rfl (Or.inl rfl) (zC GR hr (by rfl) R.read.m R.read.F.kp R.read.b .nil yh (z6 (pv 0) zb)))
   (z9 (zz (zC GC hr2 (by rfl) X.checkS.m X.checkS.F.kp X.checkS.b .nil yh (z6 (pv 1) zb))) (zc (zn (pv 1)))),?_⟩
  refine⟨_,rfl,tx,t,Mr,rfl,ht,lz,lvr,?_,?_⟩
  ·intro h hh aw dp nn H1 l ts hl hl1 f1 s1
   have hh:readText t=.ok h:=by
    cases q:readText t with
    | ok x=>rw [q] at hh;cases hh;rfl
    | error e=>rw [q] at hh;cases hh
   refine⟨_,rfl,l,ts,h,rfl,hl1,f1.mono (yn _ _),by omega,fun c H2 s2=>?_,fun c H2 s2=>k5 h hh c H2 (s1.trans s2)⟩
   exact⟨_,rfl,k h hh c aw dp H2 l ts hl (s2 _ _ hl1) (f1.mono (But.of (M:=Mr) s2).hid) (s1.trans s2)⟩
  ·intro hh H1 s1
   cases q:readText t with
   | ok x=>rw [q] at hh;cases hh
   | error e=>exact k1 e q H1 s1
end
end Hm
end
section
namespace Hm
open PySem PySem.Spec PyProof.Rows L2
open Vaheda (Hedge nodes append width deep children saying dropTrees Path readText)
open Vahedn (Fate Slot slots leftAlone paired renewed alone result Conflict nothing puts given clash dropped rowOf State)
open Vahedl (Script)
abbrev sTInit:Stmt:=zK (top 71) 0
abbrev sTAll:Stmt:=zK (top 71) 1
abbrev sTVer:Stmt:=zK (top 71) 2
abbrev sTForget:Stmt:=zK (top 71) 3
abbrev sTScr:Stmt:=zK (top 71) 4
abbrev sTOut:Stmt:=zK (top 71) 5
abbrev sTHOut:Stmt:=zK (top 71) 6
structure yH (K:PySem.W.Frag) (mg:Str->Option Value):Type where
 T:Cl K mg "Trio" ["hedges","scripts"]
 init:Me K T.C "__init__" "Trio.__init__" sTInit ["self"]
 mk1:Mk K T.C init.f
 all:Me K T.C "set_all" "Trio.set_all" sTAll ["self","hedge"]
 ver:Me K T.C "set_version" "Trio.set_version" sTVer ["self","number","hedge"]
 forget:Me K T.C "forget_scripts" "Trio.forget_scripts" sTForget ["self","number"]
 scr:Me K T.C "script" "Trio.script" sTScr ["self","one","other"]
 out:Me K T.C "outcome" "Trio.outcome" sTOut ["self","number"]
 hout:Me K T.C "held_outcome" "Trio.held_outcome" sTHOut ["self","number"]
def tfl (hl sl:Addr):List (Str×V):=[("hedges",.ref hl),("scripts",.ref sl)]
def yQ (C:Addr) (G:Hp) (l:Addr) (h:Hedge):Prop:=∃ts,G l=some (.lst ts)/\zm C G ts h
theorem yQ.mono {C:Addr} {G G':Hp} {l:Addr} {h:Hedge} (A:yQ C G l h) (s:zd G G'):yQ C G' l h:=by
 obtain⟨ts,e,f⟩:=A
 exact⟨ts,s _ _ e,f.mono s⟩
def yJ (a b:Nat):List Key:=[Sum.inl (a:Int),Sum.inl (b:Int)]
def Ends2 (a b:Nat):Prop:=(a=0/\b=1)\/(a=0/\b=2)\/(a=1/\b=2)
def hOf (st:State) (a:Nat):Hedge:=if a=0 then st.base else if a=1 then st.one else st.two
def ScrAt (C CR CP:Addr) (G:Hp) (v:V) (b x:Hedge):Prop:=∃r,v=.ref r/\yu C CR CP G r (S b x)/\qG CR G r (D b x:Nat)
theorem ScrAt.mono {C CR CP:Addr} {G G':Hp} {v:V} {b x:Hedge} (A:ScrAt C CR CP G v b x) (s:zd G G'):ScrAt C CR CP G' v b x:=by
 obtain⟨r,e,A,c⟩:=A
 exact⟨r,e,A.mono s,c.mono s⟩
structure xA (C CR CP:Addr) (G:Hp) (kvs:List (List Key×V)) (st:State):Prop where
 nd:(kvs.map (·.1)).Nodup
 at_:∀k v,(k,v)∈kvs->∃a b,Ends2 a b/\k=yJ a b/\ScrAt C CR CP G v (hOf st a) (hOf st b)
theorem xA.mono {C CR CP:Addr} {G G':Hp} {kvs:List (List Key×V)} {st:State} (A:xA C CR CP G kvs st) (s:zd G G'):xA C CR CP G' kvs st:=by
 refine⟨A.nd,fun k v m=>?_⟩
 obtain⟨a,b,e,q,z⟩:=A.at_ k v m
 exact⟨a,b,e,q,z.mono s⟩
theorem xA.nil {C CR CP:Addr} {G:Hp} {st:State}:xA C CR CP G [] st:=⟨List.nodup_nil,fun k v m=>by cases m⟩
theorem Ye {α:Type} [DecidableEq α]:∀(u l:List α),l.Nodup->(∀x∈l,x∈u)->l.length<=u.length
 | [],l,_,h=>by
  cases l with
  | nil=>exact Nat.le_refl _
  | cons a l=>exact absurd (h a (List.mem_cons_self ..)) (by simp)
 | a::u,l,nd,h=>by
  by_cases c:a∈l
  ·have ih:=Ye u (l.erase a) (nd.erase a) (fun x m=>by
    have m':=(nd.mem_erase_iff).mp m
    rcases List.mem_cons.mp (h x m'.2) with z | z
    ·exact absurd z m'.1
    ·exact z)
   rw [List.length_erase_of_mem c] at ih
   show l.length<=u.length+1
   omega
  ·have ih:=Ye u l nd (fun x m=>by
    rcases List.mem_cons.mp (h x m) with z | z
    ·exact absurd (by rw [<-z];exact m) c
    ·exact z)
   show l.length<=u.length+1
   omega
theorem xA.few {C CR CP:Addr} {G:Hp} {kvs:List (List Key×V)} {st:State} (A:xA C CR CP G kvs st):kvs.length<=3:=by
 have q:=Ye [yJ 0 1,yJ 0 2,yJ 1 2] (kvs.map (·.1)) A.nd (fun x m=>by
  obtain⟨⟨k,v⟩,m2,rfl⟩:=List.mem_map.mp m
  obtain⟨a,b,e,q,_⟩:=A.at_ k v m2
  rcases e with ⟨rfl,rfl⟩ | ⟨rfl,rfl⟩ | ⟨rfl,rfl⟩ <;> (show k∈_;rw [q];simp))
 rw [List.length_map] at q
 exact q
theorem IW {κ:Type} [DecidableEq κ] {kvs:List (κ×V)} {k:κ} {v:V} (h:yL kvs k=some v):(k,v)∈kvs:=by
 unfold yL at h
 cases q:kvs.find? (fun kv=>decide (kv.1=k)) with
 | none=>rw [q] at h;cases h
 | some e=>
  rw [q] at h
  have m:=List.mem_of_find?_eq_some q
  have z:=List.find?_some q
  have z:e.1=k:=by simpa using z
  have h:e.2=v:=Option.some.inj h
  rw [<-z,<-h]
  exact m
theorem zaa {κ:Type} [DecidableEq κ] {kvs:List (κ×V)} {k k':κ} {v v':V} (n:yL kvs k=none) (m:(k',v')∈yR kvs k v):(k',v')∈kvs\/(k'=k/\v'=v):=by
 rw [Uo v n] at m
 rcases List.mem_append.mp m with m | m
 ·exact .inl m
 ·have:=List.mem_singleton.mp m
  cases this
  exact .inr ⟨rfl,rfl⟩
theorem xA.put {C CR CP:Addr} {G:Hp} {kvs:List (List Key×V)} {st:State} {a b:Nat} {v:V} (A:xA C CR CP G kvs st) (n:yL kvs (yJ a b)=none) (e:Ends2 a b) (z:ScrAt C CR CP G v (hOf st a) (hOf st b)):xA C CR CP G (yR kvs (yJ a b) v) st:=by
 refine⟨Ng v A.nd n,fun k' v' m=>?_⟩
 rcases zaa n m with m | ⟨rfl,rfl⟩
 ·exact A.at_ k' v' m
 ·exact⟨a,b,e,rfl,z⟩
def qS (h:Hedge):Prop:=yi Wok h/\deep h<=40/\nodes h<=200
structure qQ (st:State):Prop where
 b:qS st.base
 one:qS st.one
 two:qS st.two
theorem qQ.of {st:State} (f:qQ st) (a:Nat):qS (hOf st a):=by
 unfold hOf
 split
 ·exact f.b
 ·split
  ·exact f.one
  ·exact f.two
def TrioX (C CT CR CP:Addr) (H:Hp) (t:Addr) (M M0:List Addr) (st su:State):Prop:=∃(dx hl sl l0 l1 l2:Addr) (kvs:List (List Key×V)),M=[t,hl,sl]/\M.Nodup/\(∀b∈M,b∉M0)/\H t=some (.ins CT dx (tfl hl sl))/\H hl=some (.lst [.ref l0,.ref l1,.ref l2])/\H sl=some (.dT kvs) /\
  yQ C (hid (M++M0) H) l0 st.base/\yQ C (hid (M++M0) H) l1 st.one/\yQ C (hid (M++M0) H) l2 st.two/\xA C CR CP (hid (M++M0) H) kvs su
structure y3 (C CT CR CP:Addr) (H:Hp) (t:Addr) (M M0:List Addr) (st:State):Prop where
 ex:TrioX C CT CR CP H t M M0 st st
 fine:qQ st
 lv0:∀b∈M0,H b≠none
section
variable {C CT CR CP:Addr} {H H':Hp} {t:Addr} {M M0:List Addr} {st su:State}
theorem TrioX.live (B:TrioX C CT CR CP H t M M0 st su):∀b∈M,H b≠none:=by
 obtain⟨dx,hl,sl,l0,l1,l2,kvs,rfl,nd,n0,ht,hh,hs,_⟩:=B
 intro b m
 simp only [List.mem_cons,List.not_mem_nil,or_false] at m
 rcases m with m | m | m
 ·rw [m,ht];intro z;cases z
 ·rw [m,hh];intro z;cases z
 ·rw [m,hs];intro z;cases z
theorem y3.live (B:y3 C CT CR CP H t M M0 st):∀b∈M++M0,H b≠none:=by
 intro b m
 rcases List.mem_append.mp m with m | m
 ·exact B.ex.live b m
 ·exact B.lv0 b m
theorem y3.same (B:y3 C CT CR CP H t M M0 st) (s:zd H H'):y3 C CT CR CP H' t M M0 st:=by
 obtain⟨dx,hl,sl,l0,l1,l2,kvs,e,nd,n0,ht,hh,hs,a0,a1,a2,sc⟩:=B.ex
 have m:=(But.of (M:=M++M0) s).hid
 refine⟨⟨dx,hl,sl,l0,l1,l2,kvs,e,nd,n0,s _ _ ht,s _ _ hh,s _ _ hs,a0.mono m,a1.mono m,a2.mono m,sc.mono m⟩,B.fine,fun b q=>?_⟩
 obtain⟨o,z⟩:=zD (B.lv0 b q)
 rw [s _ _ z];intro y;cases y
theorem y3.but (B:y3 C CT CR CP H t M M0 st) {N:List Addr} (hN:∀b∈N,b∈M0) (b:But N H H') (lv:∀b∈N,H' b≠none):y3 C CT CR CP H' t M M0 st:=by
 obtain⟨dx,hl,sl,l0,l1,l2,kvs,rfl,nd,n0,ht,hh,hs,a0,a1,a2,sc⟩:=B.ex
 have m:=(b.mono (N:=[t,hl,sl]++M0) (fun x z=>List.mem_append_right _ (hN x z))).hid
 refine⟨⟨dx,hl,sl,l0,l1,l2,kvs,rfl,nd,n0,b _ _ ht (fun z=>n0 t (by simp) (hN _ z)),b _ _ hh (fun z=>n0 hl (by simp) (hN _ z)),b _ _ hs (fun z=>n0 sl (by simp) (hN _ z)),a0.mono m,a1.mono m,a2.mono m,sc.mono m⟩,B.fine,fun x q=>?_⟩
 by_cases c:x∈N
 ·exact lv x c
 ·obtain⟨o,z⟩:=zD (B.lv0 x q)
  rw [b x o z c];intro y;cases y
end
def yz (st:State) (w:Int):Hedge:=if w=1 then st.one else st.two
def Jv (st:State) (w:Int) (h:Hedge):State:=if w=1 then {st with one:=h} else {st with two:=h}
def spTInit (C CT CR CP:Addr):Sp:=fun vs H Q _=>∃(p dx:Addr) (M0:List Addr),vs=[.ref p]/\H p=some (.ins CT dx [])/\p∉M0/\(∀b∈M0,H b≠none)/\∀H' M,y3 C CT CR CP H' p M M0 Vahedn.start->(∀b∈M,b=p\/H b=none)->But [p] H H'->Q .non H'
def spTAll (C CT CR CP:Addr):Sp:=fun vs H Q _=>∃(t l:Addr) (M M0:List Addr) (st:State) (h:Hedge),vs=[.ref t,.ref l]/\y3 C CT CR CP H t M M0 st/\yQ C (hid (M++M0) H) l h/\qS h /\
 ∀H' M',y3 C CT CR CP H' t M' M0 {base:=h,one:=h,two:=h}->(∀b∈M',b∈M\/H b=none)->But M H H'->Q (.int (nodes h:Nat)) H'
def spTVer (C CT CR CP:Addr):Sp:=fun vs H Q _=>∃(t l:Addr) (w:Int) (M M0:List Addr) (st:State) (h:Hedge),vs=[.ref t,.int w,.ref l]/\(w=1\/w=2)/\y3 C CT CR CP H t M M0 st/\yQ C (hid (M++M0) H) l h/\qS h /\
 ∀H' M',y3 C CT CR CP H' t M' M0 (Jv st w h)->(∀b∈M',b∈M\/H b=none)->But M H H'->Q (.int (nodes h:Nat)) H'
def spTForget (C CT CR CP:Addr):Sp:=fun vs H Q _=>∃(t:Addr) (n:Nat) (M M0:List Addr) (st su:State),vs=[.ref t,.int n]/\TrioX C CT CR CP H t M M0 st su/\(∀a,a<=2->a≠n->hOf st a=hOf su a)/\(∀b∈M0,H b≠none) /\
 ∀H' M',TrioX C CT CR CP H' t M' M0 st st->(∀b∈M',b∈M\/H b=none)->But M H H'->Q .non H'
def spTScr (C CT CR CP:Addr):Sp:=fun vs H Q _=>∃(t:Addr) (a b:Nat) (M M0:List Addr) (st:State),vs=[.ref t,.int a,.int b]/\Ends2 a b/\y3 C CT CR CP H t M M0 st /\
 ∀H' r,y3 C CT CR CP H' t M M0 st->yu C CR CP (hid (M++M0) H') r (S (hOf st a) (hOf st b))->qG CR (hid (M++M0) H') r (D (hOf st a) (hOf st b):Nat)->But M H H'->Q (.ref r) H'
def spTOut (C CT CR CP CO:Addr):Sp:=fun vs H Q _=>∃(t:Addr) (w:Int) (M M0:List Addr) (st:State),vs=[.ref t,.int w]/\(w=1\/w=2)/\y3 C CT CR CP H t M M0 st /\
 ∀H' p,y3 C CT CR CP H' t M M0 st->OutAt C CO (hid (M++M0) H') p (Vahedn.outcome st w)->But M H H'->Q (.ref p) H'
def spTHOut (C CT CR CP TM:Addr):Sp:=fun vs H Q E=>∃(t:Addr) (w:Int) (M M0:List Addr) (st:State),vs=[.ref t,.int w]/\(w=1\/w=2)/\y3 C CT CR CP H t M M0 st /\
 (nodes (Vahedn.outcome st w).hedge<=200->∀H' l,y3 C CT CR CP H' t M M0 st->yQ C (hid (M++M0) H') l (Vahedn.outcome st w).hedge->But M H H'->Q (.ref l) H') /\
 (¬nodes (Vahedn.outcome st w).hedge<=200->∀H',y3 C CT CR CP H' t M M0 st->But M H H'->E (.ref TM) none H')
theorem zat {M M0:List Addr} {H:Hp} {b:Addr} {o:HO} (h1:b∉M) (h2:b∉M0) (e:H b=some o):hid (M++M0) H b=some o:=zt (fun z=>(List.mem_append.mp z).elim h1 h2) e
section
variable {P:Program} {w:World} {K:PySem.W.Frag} {mg:Str->Option Value} {base:Heap}
theorem scTInit:zh ["self"] ["self"] (zg sTInit):=⟨rfl,rfl,rfl,by decide +kernel,rfl,by decide +kernel,by decide +kernel⟩
theorem scTAll:zh ["self","hedge"] ["self","hedge"] (zg sTAll):=⟨rfl,rfl,rfl,by decide +kernel,rfl,by decide +kernel,by decide +kernel⟩
theorem scTVer:zh ["self","number","hedge"] ["self","number","hedge"] (zg sTVer):=⟨rfl,rfl,rfl,by decide +kernel,rfl,by decide +kernel,by decide +kernel⟩
theorem scTForget:zh ["self","number","kept","ends"] ["self","number"] (zg sTForget):=⟨rfl,rfl,rfl,by decide +kernel,rfl,by decide +kernel,by decide +kernel⟩
theorem scTScr:zh ["self","one","other","ends"] ["self","one","other"] (zg sTScr):=⟨rfl,rfl,rfl,by decide +kernel,rfl,by decide +kernel,by decide +kernel⟩
theorem scTOut:zh ["self","number"] ["self","number"] (zg sTOut):=⟨rfl,rfl,rfl,by decide +kernel,rfl,by decide +kernel,by decide +kernel⟩
theorem scTHOut:zh ["self","number","hedge"] ["self","number"] (zg sTHOut):=⟨rfl,rfl,rfl,by decide +kernel,rfl,by decide +kernel,by decide +kernel⟩
theorem Nm (X:yH K mg) (R:zB K mg) (T:zw K mg):zj P w K mg base CX0 2 X.all.f X.all.fd ["self","hedge"] (spTAll T.T.C X.T.C R.R.C R.P.C):=by
 have GS:=YA (P:=P) (w:=w) (base:=base) T
 refine X.all.F.ok scTAll (fun vs H Q E h=>?_) (fun cdv A outer s H vs Q E hr h=>?_)
 ·obtain⟨_,_,_,_,_,_,rfl,_⟩:=h
  rfl
 ·obtain⟨t,l,M,M0,st,h,rfl,B,⟨ts,hl,f⟩,fh,k⟩:=h
  have lv:=B.live
  have hz:sizeLine=16777216:=sizeLine_eq
  refine⟨_,z9 (zZ (pv 0) (zM (z6 (pv 1) (z6 (pv 1) (z6 (pv 1) zb)))) rfl) (z9 (zZ (pv 0) YV rfl)
   (zc (zn (zC GS hr (by rfl) T.size.m T.size.F.kp T.size.b .nil zk (z6 (pv 1) zb))))),?_⟩
  obtain⟨dx,hA,sA,l0,l1,l2,kvs,rfl,nd,n0,ht,hh,hs,a0,a1,a2,sc⟩:=B.ex
  refine⟨_,rfl,_,rfl,_,rfl,(by show 3<=sizeLine;decide),fun n1 hn1=>?_⟩
  have nt1:t≠n1:=za ht hn1
  refine⟨_,rfl,t,X.T.C,dx,_,rfl,by rw [z8 nt1];exact ht,X.T.c,X.T.n,(by show 2<1000;decide),?_⟩
  obtain⟨H1,eH1⟩:∃H1,upd (upd H n1 (.lst [.ref l,.ref l,.ref l])) t (.ins X.T.C dx (y4 "hedges" (.ref n1) (tfl hA sA)))=H1:=⟨_,rfl⟩
  have ht1:H1 t=some (.ins X.T.C dx (tfl n1 sA)):=by rw [<-eH1,z7];rfl
  have h11:H1 n1=some (.lst [.ref l,.ref l,.ref l]):=by rw [<-eH1,z8 (Ne.symm nt1),z7]
  have b1:But [t] H H1:=by rw [<-eH1];exact(But.new hn1).trans (But.upd (by simp))
  rw [eH1]
  intro n2 hn2
  have nt2:t≠n2:=za ht1 hn2
  have n12:n1≠n2:=za h11 hn2
  have hn2H:H n2=none:=b1.none (by simp [ht1]) hn2
  refine⟨_,rfl,t,X.T.C,dx,_,rfl,by rw [z8 nt2];exact ht1,X.T.c,X.T.n,(by show 2<1000;decide),?_⟩
  obtain⟨H2,eH2⟩:∃H2,upd (upd H1 n2 (.dT [])) t (.ins X.T.C dx (y4 "scripts" (.ref n2) (tfl n1 sA)))=H2:=⟨_,rfl⟩
  have ht2:H2 t=some (.ins X.T.C dx (tfl n1 n2)):=by rw [<-eH2,z7];rfl
  have h22:H2 n2=some (.dT []):=by rw [<-eH2,z8 (Ne.symm nt2),z7]
  have b12:But [t] H1 H2:=by rw [<-eH2];exact(But.new hn2).trans (But.upd (by simp))
  rw [eH2]
  have b2:=b1.trans b12
  have h12:=b12 _ _ h11 (by simpa using Ne.symm nt1)
  have m1:n1∉M0:=fun z=>lv n1 (List.mem_append_right _ z) hn1
  have m2:n2∉M0:=fun z=>lv n2 (List.mem_append_right _ z) hn2H
  have sM:zd (hid ([t,hA,sA]++M0) H) (hid ([t,n1,n2]++M0) H2):=fun b o e=>by
   obtain⟨nb,e⟩:=zf e
   simp only [List.cons_append,List.nil_append,List.mem_cons,not_or] at nb
   exact zt (by simp [nb.1,nb.2.2.2,za e hn1,za e hn2H]) (b2 b o e (by simpa using nb.1))
  have hl2:=sM _ _ hl
  have f2:=f.mono sM
  refine⟨_,rfl,l,ts,h,rfl,(zf hl2).2,f2.mono (yn _ _),by have:=fh.2.2;omega,fun H3 s3=>?_⟩
  have A2:y3 T.T.C X.T.C R.R.C R.P.C H2 t [t,n1,n2] M0 {base:=h,one:=h,two:=h}:=by
   refine⟨⟨dx,n1,n2,l,l,l,[],rfl,by simp [nt1,nt2,n12],fun b m=>?_,ht2,h12,h22,⟨ts,hl2,f2⟩,⟨ts,hl2,f2⟩,⟨ts,hl2,f2⟩,xA.nil⟩,⟨fh,fh,fh⟩,fun b m=>?_⟩
   ·simp only [List.mem_cons,List.not_mem_nil,or_false] at m
    rcases m with m | m | m
    ·rw [m];exact n0 t (by simp)
    ·rw [m];exact m1
    ·rw [m];exact m2
   ·obtain⟨o,e⟩:=zD (B.lv0 b m)
    rw [b2 b o e (by simpa using fun z=>n0 t (by simp) (by rw [<-z];exact m))]
    intro z;cases z
  refine k H3 [t,n1,n2] (A2.same s3) (fun b m=>?_) ((b2.mono (by simp)).trans (But.of s3))
  simp only [List.mem_cons,List.not_mem_nil,or_false] at m ⊢
  rcases m with m | m | m
  ·exact .inl (.inl m)
  ·exact .inr (by rw [m];exact hn1)
  ·exact .inr (by rw [m];exact hn2H)
end
end Hm
end
section
namespace L2
open PySem PySem.Spec PyProof.Rows
theorem Ii {d:Addr} {o:Obj} {kvs:List (List Key×V)} {g:TG} {tb:TS} {D:Jl} {σ:St} {H:Hp} (Pv:Nat->St->Hp->Prop) (h0:Pv 0 σ H) (hl:∀i σ H,i<=kvs.length->Pv i σ H->H d=some (.frz o (.dT kvs)))
  (hs:∀i k v q σ H,kvs[i]? = some (k,v)->H q=some (.tup (k.map kV))->Pv i σ H->g (.ref q) σ H fun σ2 H2=>tb {D with nx:=Pv (i+1),ct:=Pv (i+1),bk:=D.nx} σ2 H2) (hd:∀σ H,Pv kvs.length σ H->D.nx σ H) :
  ∃W:Nat->Nat->St->Hp->Prop,(∃m,W 0 m σ H)/\∀i m σ H,W i m σ H ->
   ((Itkt d o kvs).stop i H/\D.nx σ H)\/((Itkt d o kvs).go i H/\∃N:St->Hp->Prop,(∀σ' H',N σ' H'->∃m',m'<m/\W (i+1) m' σ' H')/\∀x H',(Itkt d o kvs).yld i H x H'->g x σ H' fun σ2 H2=>tb {D with nx:=N,ct:=N,bk:=D.nx} σ2 H2):=by
 refine⟨fun i m σ H=>m=kvs.length - i/\i<=kvs.length/\Pv i σ H,⟨kvs.length,by simp,Nat.zero_le _,h0⟩,?_⟩
 rintro i m σ H ⟨rfl,hi,p⟩
 have q:=hl i σ H hi p
 by_cases hlt:i<kvs.length
 ·refine .inr ⟨⟨q,hlt⟩,Pv (i+1),fun σ' H' p'=>⟨kvs.length - (i+1),by omega,rfl,hlt,p'⟩,fun x H' y=>?_⟩
  obtain⟨e,k,v,a,y1,rfl,y2⟩:=y
  subst e
  exact hs i k v a σ _ y1 y2 p
 ·have e:i=kvs.length:=by omega
  subst e
  exact .inl ⟨⟨q,Nat.le_refl _⟩,hd σ H p⟩
theorem O9 {κ:Type} [DecidableEq κ] {kvs:List (κ×V)} {k k':κ} {v v':V} (m:(k',v')∈yR kvs k v):(k',v')∈kvs\/(k'=k/\v'=v):=by
 unfold yR at m
 split at m
 ·obtain⟨p,hp,e⟩:=List.mem_map.mp m
  split at e
  ·rename_i c
   cases e
   exact .inr ⟨c,rfl⟩
  ·rw [<-e];exact .inl hp
 ·rcases List.mem_append.mp m with m | m
  ·exact .inl m
  ·have:=List.mem_singleton.mp m
   cases this
   exact .inr ⟨rfl,rfl⟩
theorem IR {κ:Type} [DecidableEq κ] {kvs:List (κ×V)} {k:κ} (v:V) (hn:(kvs.map (·.1)).Nodup):((yR kvs k v).map (·.1)).Nodup:=by
 cases q:yL kvs k with
 | none=>exact Ng v hn q
 | some x=>
  unfold yR
  rw [if_pos (by rw [jJ,q];rfl),List.map_map]
  have e:((fun x:κ×V=>x.1) ∘ fun kv:κ×V=>if kv.1=k then (kv.1,v) else kv)=fun x:κ×V=>x.1:=by
   funext kv
   show(if kv.1=k then (kv.1,v) else kv).1=kv.1
   split <;> rfl
  rw [e]
  exact hn
theorem Nd {κ:Type} [DecidableEq κ]:∀{kvs:List (κ×V)} {k:κ} {v:V},(kvs.map (·.1)).Nodup->(k,v)∈kvs->yL kvs k=some v
 | [],k,v,_,m=>by cases m
 | p::r,k,v,nd,m=>by
  have nd:(p.1::r.map (·.1)).Nodup:=nd
  obtain⟨n1,n2⟩:=List.nodup_cons.mp nd
  rcases List.mem_cons.mp m with m | m
  ·rw [<-m];exact xf rfl
  ·rw [xg (fun e=>n1 (List.mem_map.mpr ⟨(k,v),m,e.symm⟩))]
   exact Nd n2 m
end L2
namespace Hm
open PySem PySem.Spec PyProof.Rows L2
open Vaheda (Hedge nodes append width deep children saying dropTrees Path readText)
open Vahedn (Fate Slot slots leftAlone paired renewed alone result Conflict nothing puts given clash dropped rowOf State)
open Vahedl (Script)
theorem jr {st:State} (f:qQ st) (w:Int):qS (yz st w):=by
 unfold yz
 split
 ·exact f.one
 ·exact f.two
theorem OK {a b c d:Nat} (h:yJ a b=yJ c d):a=c/\b=d:=by
 unfold yJ at h
 simp only [List.cons.injEq,Sum.inl.injEq,and_true] at h
 omega
section
variable {P:Program} {w:World} {K:PySem.W.Frag} {mg:Str->Option Value} {base:Heap}
theorem zam (X:yH K mg) (R:zB K mg) (T:zw K mg):zj P w K mg base CX0 1 X.init.f X.init.fd ["self"] (spTInit T.T.C X.T.C R.R.C R.P.C):=by
 refine X.init.F.ok scTInit (fun vs H Q E h=>?_) (fun cdv A outer s H vs Q E hr h=>?_)
 ·obtain⟨_,_,_,rfl,_⟩:=h
  rfl
 ·obtain⟨t,dx,M0,rfl,ht,tM0,lv,k⟩:=h
  refine⟨_,z9 (zZ (pv 0) (zM (z6 (zM zb) (z6 (zM zb) (z6 (zM zb) zb)))) rfl) (zc (zZ (pv 0) YV rfl)),?_⟩
  refine⟨Nat.zero_le _,fun l0 hl0=>⟨Nat.zero_le _,fun l1 hl1=>⟨Nat.zero_le _,fun l2 hl2=>⟨(by show 3<=sizeLine;decide),fun n1 hn1=>?_⟩⟩⟩⟩
  have s3:zd H (upd (upd (upd H l0 (.lst [])) l1 (.lst [])) l2 (.lst [])):=((zd.new hl0).trans (zd.new hl1)).trans (zd.new hl2)
  have e2:upd (upd (upd H l0 (.lst [])) l1 (.lst [])) l2 (.lst []) l2=some (.lst []):=z7
  have e1:upd (upd (upd H l0 (.lst [])) l1 (.lst [])) l2 (.lst []) l1=some (.lst []):=(zd.new hl2) _ _ z7
  have e0:upd (upd (upd H l0 (.lst [])) l1 (.lst [])) l2 (.lst []) l0=some (.lst []):=(zd.new hl2) _ _ ((zd.new hl1) _ _ z7)
  have k0:H l0=none:=hl0
  have k1:H l1=none:=(zd.new hl0).free hl1
  have k2:H l2=none:=((zd.new hl0).trans (zd.new hl1)).free hl2
  generalize upd (upd (upd H l0 (.lst [])) l1 (.lst [])) l2 (.lst [])=H3 at s3 e0 e1 e2 hn1 ⊢
  have ht3:=s3 _ _ ht
  have nt1:t≠n1:=za ht3 hn1
  have hn1H:H n1=none:=s3.free hn1
  refine⟨_,rfl,t,X.T.C,dx,_,rfl,by rw [z8 nt1];exact ht3,X.T.c,X.T.n,(by show 0<1000;decide),?_⟩
  obtain⟨H4,eH4⟩:∃H4,upd (upd H3 n1 (.lst [.ref l0,.ref l1,.ref l2])) t (.ins X.T.C dx (y4 "hedges" (.ref n1) []))=H4:=⟨_,rfl⟩
  have ht4:H4 t=some (.ins X.T.C dx [("hedges",.ref n1)]):=by rw [<-eH4,z7];rfl
  have h14:H4 n1=some (.lst [.ref l0,.ref l1,.ref l2]):=by rw [<-eH4,z8 (Ne.symm nt1),z7]
  have b34:But [t] H3 H4:=by rw [<-eH4];exact(But.new hn1).trans (But.upd (by simp))
  rw [eH4]
  intro n2 hn2
  have nt2:t≠n2:=za ht4 hn2
  have n12:n1≠n2:=za h14 hn2
  have hn23:H3 n2=none:=b34.none (by simp [ht4]) hn2
  have hn2H:H n2=none:=s3.free hn23
  refine⟨_,rfl,t,X.T.C,dx,_,rfl,by rw [z8 nt2];exact ht4,X.T.c,X.T.n,(by show 1<1000;decide),?_⟩
  obtain⟨H5,eH5⟩:∃H5,upd (upd H4 n2 (.dT [])) t (.ins X.T.C dx (y4 "scripts" (.ref n2) [("hedges",.ref n1)]))=H5:=⟨_,rfl⟩
  have ht5:H5 t=some (.ins X.T.C dx (tfl n1 n2)):=by rw [<-eH5,z7];rfl
  have h25:H5 n2=some (.dT []):=by rw [<-eH5,z8 (Ne.symm nt2),z7]
  have b45:But [t] H4 H5:=by rw [<-eH5];exact(But.new hn2).trans (But.upd (by simp))
  rw [eH5]
  have b35:=b34.trans b45
  have h15:=b45 _ _ h14 (by simpa using Ne.symm nt1)
  have bH5:But [t] H H5:=(But.of s3).trans b35
  have free:∀{x:Addr} {o:HO},H3 x=some o->H x=none->hid ([t,n1,n2]++M0) H5 x=some o:=fun {x o} e n=>by
   have nxt:x≠t:=fun z=>by rw [z,ht] at n;cases n
   refine zat ?_ (fun z=>lv x z n) (b35 x o e (by simpa using nxt))
   simp [nxt,za e hn1,za e hn23]
  have fh:qS .nil:=⟨trivial,Nat.zero_le _,Nat.zero_le _⟩
  refine k H5 [t,n1,n2] ⟨⟨dx,n1,n2,l0,l1,l2,[],rfl,by simp [nt1,nt2,n12],fun b m=>?_,ht5,h15,h25,⟨[],free e0 k0,.nil⟩,⟨[],free e1 k1,.nil⟩,⟨[],free e2 k2,.nil⟩,xA.nil⟩,⟨fh,fh,fh⟩,fun b m=>?_⟩ (fun b m=>?_) bH5
  ·simp only [List.mem_cons,List.not_mem_nil,or_false] at m
   rcases m with m | m | m
   ·rw [m];exact tM0
   ·rw [m];exact fun z=>lv n1 z hn1H
   ·rw [m];exact fun z=>lv n2 z hn2H
  ·obtain⟨o,e⟩:=zD (lv b m)
   rw [bH5 b o e (by simpa using fun z=>tM0 (by rw [<-z];exact m))]
   intro z;cases z
  ·simp only [List.mem_cons,List.not_mem_nil,or_false] at m
   rcases m with m | m | m
   ·exact .inl m
   ·exact .inr (by rw [m];exact hn1H)
   ·exact .inr (by rw [m];exact hn2H)
theorem NI (X:yH K mg) (R:zB K mg) (T:zw K mg):zj P w K mg base CX0 1 X.forget.f X.forget.fd ["self","number"] (spTForget T.T.C X.T.C R.R.C R.P.C):=by
 refine X.forget.F.ok scTForget (fun vs H Q E h=>?_) (fun cdv A outer s H vs Q E hr h=>?_)
 ·obtain⟨_,_,_,_,_,_,rfl,_⟩:=h
  rfl
 ·obtain⟨t,n,M,M0,st,su,rfl,B,eq,lv0,k⟩:=h
  have hu:=hr.units
  have hu1:_+1<cLine:=Nat.lt_of_le_of_lt (Nat.add_le_add_left (by decide:1<=64) _) hu
  have hz:sizeLine=16777216:=sizeLine_eq
  refine⟨_,z9 (zy (i:=2) scTForget.nd rfl (Or.inl rfl) YV)
   (z9 (zb4 (xF PassesOwn.never rfl (zbr (ze (pv 0) rfl)) (yA (i:=3) scTForget.nd rfl (Or.inl rfl))
    (zc (zR (zx J2 (pv 1) (pv 3) rfl)
     (zc (UR hu1 (pv 2) (pv 3) (N4 hu1 (ze (pv 0) rfl) (pv 3) (fun _ _=>rfl)) rfl)) zE))))
   (zc (zZ (pv 0) (pv 2) rfl))),?_⟩
  have lv:=B.live
  obtain⟨dx,hA,sA,l0,l1,l2,kvs,rfl,nd,n0,ht,hh,hs,a0,a1,a2,sc⟩:=B
  have nd0:=nd
  simp only [List.nodup_cons,List.mem_cons,List.not_mem_nil,or_false,not_or] at nd
  obtain⟨⟨nth,nts⟩,nhs,_⟩:=nd
  intro kd hkd
  have ntk:t≠kd:=za ht hkd
  have nhk:hA≠kd:=za hh hkd
  have nsk:sA≠kd:=za hs hkd
  have s1:zd H (upd H kd (.dT [])):=zd.new hkd
  have hk1:upd H kd (.dT []) kd=some (.dT []):=z7
  generalize upd H kd (.dT [])=H1 at s1 hk1 ⊢
  refine⟨sA,.dT kvs,s1 _ _ hs,trivial,fun od=>?_⟩
  have fewk:=sc.few
  have b2:But [sA] H (upd H1 sA (.frz od (.dT kvs))):=fun b o e nb=>by
   rw [z8 (by simpa using nb)];exact s1 b o e
  refine⟨_,rfl,t,X.T.C,dx,_,_,rfl,b2 _ _ ht (by simpa using nts),X.T.c,X.T.n,rfl,sA,od,rfl,.inr ⟨kvs,z7,?_⟩⟩
  refine Ii (fun i σ H'=>∃ve kept,σ=[some (.ref t),some (.int n),some (.ref kd),ve]/\H' sA=some (.frz od (.dT kvs))/\H' kd=some (.dT kept)/\kept.length<=i/\xA T.T.C R.R.C R.P.C (hid ([t,hA,sA]++M0) H) kept st/\But [sA] H H')
   ⟨none,[],rfl,z7,by rw [z8 (Ne.symm nsk)];exact hk1,Nat.le_refl _,xA.nil,b2⟩ (fun i σ H' _ ⟨_,_,_,e,_⟩=>e) ?_ ?_
  ·rintro i kk v q σ H' hi hq ⟨ve,kept,rfl,hs',hk',kl,sk,bm⟩
   have hil:=(List.getElem?_eq_some_iff.mp hi).1
   have mm:(kk,v)∈kvs:=List.mem_of_getElem? hi
   obtain⟨a,b,e2,rfl,z⟩:=sc.at_ kk v mm
   refine⟨_,rfl,_,rfl,q,_,rfl,.inr (SqT.of hq),rfl,rfl,_,rfl,?_⟩
   show if (!inV (.int (n:Int)) [V.int (a:Int),V.int (b:Int)])=true then _ else _
   rw [inV2]
   by_cases c:((n:Int)=(a:Int)\/(n:Int)=(b:Int))
   ·rw [decide_eq_true c]
    exact zr ⟨_,kept,rfl,hs',hk',Nat.le_succ_of_le kl,sk,bm⟩
   ·rw [decide_eq_false c]
    have na:a≠n:=fun y=>c (.inl (by rw [y]))
    have nb:b≠n:=fun y=>c (.inr (by rw [y]))
    have ht':=bm _ _ ht (by simpa using nts)
    refine zu ?_
    have gv:=Nd sc.nd mm
    have g1:qe H' sA (.ref q) (some v):=.inr ⟨kvs,yJ a b,q,.inr ⟨od,hs'⟩,rfl,hq,gv.symm⟩
    refine⟨_,rfl,t,X.T.C,dx,_,_,rfl,ht',X.T.c,X.T.n,rfl,_,rfl,sA,v,rfl,g1,?_⟩
    refine⟨_,rfl,_,rfl,kd,_,rfl,DPut.t (k:=yJ a b) hk' hq (by omega),?_⟩
    have lp:=Jp kept (yJ a b) v
    refine⟨_,_,rfl,by rw [z8 nsk];exact hs',z7,by omega,⟨IR v sk.nd,fun k' v' m=>?_⟩,fun x o e nx=>?_⟩
    ·rcases O9 m with m | ⟨rfl,rfl⟩
     ·exact sk.at_ k' v' m
     ·refine⟨a,b,e2,rfl,?_⟩
      have ab:a<=2/\b<=2:=by rcases e2 with ⟨h1,h2⟩ | ⟨h1,h2⟩ | ⟨h1,h2⟩ <;> omega
      rw [eq a ab.1 na,eq b ab.2 nb]
      exact z
    ·rw [z8 (za e hkd)];exact bm x o e nx
  ·rintro σ H' ⟨ve,kept,rfl,hs',hk',kl,sk,bm⟩
   refine⟨hs',?_⟩
   have b3:zd H (upd H' sA (.dT kvs)):=fun x o e=>by
    by_cases c:x=sA
    ·rw [c,z7];rw [c,hs] at e;exact e
    ·rw [z8 c];exact bm x o e (by simpa using c)
   have hk3:upd H' sA (.dT kvs) kd=some (.dT kept):=by rw [z8 (Ne.symm nsk)];exact hk'
   generalize upd H' sA (.dT kvs)=H3 at b3 hk3 ⊢
   refine⟨_,rfl,_,rfl,t,X.T.C,dx,_,rfl,b3 _ _ ht,X.T.c,X.T.n,(by show 2<1000;decide),?_⟩
   have b4:But [t] H (upd H3 t (.ins X.T.C dx (y4 "scripts" (.ref kd) (tfl hA sA)))):=(But.of b3).trans (But.upd (by simp))
   have m4:zd (hid ([t,hA,sA]++M0) H) (hid ([t,hA,kd]++M0) (upd H3 t (.ins X.T.C dx (y4 "scripts" (.ref kd) (tfl hA sA))))):=fun x o e=>by
    obtain⟨nx,e⟩:=zf e
    simp only [List.cons_append,List.nil_append,List.mem_cons,not_or] at nx
    exact zt (by simp [nx.1,nx.2.1,nx.2.2.2,za e hkd]) (b4 x o e (by simpa using nx.1))
   have kM0:kd∉M0:=fun z=>lv0 kd z hkd
   refine k _ [t,hA,kd] ⟨dx,hA,kd,l0,l1,l2,kept,rfl,by simp [nth,ntk,nhk],fun x m=>?_,by rw [z7];rfl,b4 _ _ hh (by simpa using Ne.symm nth),by rw [z8 (Ne.symm ntk)];exact hk3,a0.mono m4,a1.mono m4,a2.mono m4,sk.mono m4⟩ (fun x m=>?_) (b4.mono (by simp))
   ·simp only [List.mem_cons,List.not_mem_nil,or_false] at m
    rcases m with m | m | m
    ·rw [m];exact n0 t (by simp)
    ·rw [m];exact n0 hA (by simp)
    ·rw [m];exact kM0
   ·simp only [List.mem_cons,List.not_mem_nil,or_false] at m ⊢
    rcases m with m | m | m
    ·exact .inl (.inl m)
    ·exact .inl (.inr (.inl m))
    ·exact .inr (by rw [m];exact hkd)
theorem N8 (X:yH K mg) (R:zB K mg) (T:zw K mg):zj P w K mg base CX0 124 X.ver.f X.ver.fd ["self","number","hedge"] (spTVer T.T.C X.T.C R.R.C R.P.C):=by
 have GS:=YA (P:=P) (w:=w) (base:=base) T
 have GH:=VW (P:=P) (w:=w) (base:=base) T 40
 have GF:=NI (P:=P) (w:=w) (base:=base) X R T
 refine X.ver.F.ok scTVer (fun vs H Q E h=>?_) (fun cdv A outer s H vs Q E hr h=>?_)
 ·obtain⟨_,_,_,_,_,_,_,rfl,_⟩:=h
  rfl
 ·obtain⟨t,l,n,M,M0,st,h,rfl,hn,B,⟨ts,hl,f⟩,fh,k⟩:=h
  have hr1:zJ 1 _:=hr.mono (by decide)
  have hz:sizeLine=16777216:=sizeLine_eq
  refine⟨_,z9 (zR (JA (zV (zC GH hr (by rfl) T.sHedge.m T.sHedge.F.kp T.sHedge.b .nil zk (z6 (zN zA (ze (pv 0) rfl) (pv 1) (fun _ _=>rfl)) (z6 (pv 2) zb))) (fun _=>rfl)))
    (z9 (JD (pv 2) (Jy (ze (pv 0) rfl) (pv 1) qh)) (zc (zz (zT (pv 0) X.T.c X.forget.m GF hr1 X.forget.b .nil zk (z6 (pv 1) zb))))) zE)
   (zc (zn (zC GS hr1 (by rfl) T.size.m T.size.F.kp T.size.b .nil zk (z6 (pv 2) zb)))),?_⟩
  have lv:=B.live
  obtain⟨dx,hA,sA,l0,l1,l2,kvs,rfl,nd,n0,ht,hh,hs,a0,a1,a2,sc⟩:=B.ex
  have nd0:=nd
  simp only [List.nodup_cons,List.mem_cons,List.not_mem_nil,or_false,not_or] at nd
  obtain⟨⟨nth,nts⟩,nhs,_⟩:=nd
  have hl':=(zf hl).2
  have f':=f.mono (yn _ _)
  have hnz:=fh.2.2
  obtain⟨j,lw,ej,jl,gl,aw,es,e3⟩:∃(j:Nat) (lw:Addr),n=(j:Int)/\j<3/\([V.ref l0,.ref l1,.ref l2])[j]? = some (.ref lw)/\yQ T.T.C (hid ([t,hA,sA]++M0) H) lw (yz st n)/\(∀a,a<=2->a≠j->hOf (Jv st n h) a=hOf st a) /\
    ∃m0 m1 m2,([V.ref l0,.ref l1,.ref l2]).set j (.ref l)=[V.ref m0,.ref m1,.ref m2]/\yQ T.T.C (hid ([t,hA,sA]++M0) H) m0 (Jv st n h).base/\yQ T.T.C (hid ([t,hA,sA]++M0) H) m1 (Jv st n h).one/\yQ T.T.C (hid ([t,hA,sA]++M0) H) m2 (Jv st n h).two:=by
   rcases hn with rfl | rfl
   ·refine⟨1,l1,rfl,by decide,rfl,a1,fun a _ na=>?_,l0,l,l2,rfl,a0,⟨ts,hl,f⟩,a2⟩
    show(if a=0 then st.base else if a=1 then h else st.two)=(if a=0 then st.base else if a=1 then st.one else st.two)
    rw [if_neg na,if_neg na]
   ·refine⟨2,l2,rfl,by decide,rfl,a2,fun a al na=>?_,l0,l1,l,rfl,a0,a1,⟨ts,hl,f⟩⟩
    have:a=0\/a=1:=by omega
    rcases this with rfl | rfl <;> rfl
  have fst:qQ (Jv st n h):=by
   rcases hn with rfl | rfl
   ·exact⟨B.fine.b,fh,B.fine.two⟩
   ·exact⟨B.fine.b,B.fine.one,fh⟩
  obtain⟨tsw,xw,fw⟩:=aw
  have fv:=jr B.fine n
  refine⟨_,rfl,t,X.T.C,dx,_,_,rfl,ht,X.T.c,X.T.n,rfl,_,rfl,hA,_,_,_,rfl,rfl,SqL.of hh,by rw [ej];exact zp gl,_,rfl,lw,l,tsw,ts,_,_,rfl,(zf xw).2,hl',fw.mono (yn _ _),f',fv.2.1,_,rfl,?_⟩
  by_cases c:yz st n=h
  ·rw [decide_eq_true c]
   refine zr ?_
   have e:Jv st n h=st:=by
    rw [<-c]
    rcases hn with rfl | rfl <;> rfl
   refine⟨_,rfl,l,ts,h,rfl,hl',f',by omega,fun H3 s3=>?_⟩
   rw [e] at k
   exact k H3 _ (B.same s3) (fun b m=>.inl m) (But.of s3)
  ·rw [decide_eq_false c]
   refine zu ?_
   obtain⟨m0,m1,m2,em,x0,x1,x2⟩:=e3
   refine⟨_,rfl,_,rfl,t,X.T.C,dx,_,_,rfl,ht,X.T.c,X.T.n,rfl,_,rfl,hA,_,_,j,rfl,rfl,hh,by rw [ej];exact qY jl,?_⟩
   rw [em]
   have b1:But [t,hA,sA] H (upd H hA (.lst [.ref m0,.ref m1,.ref m2])):=But.upd (by simp)
   have eM:hid ([t,hA,sA]++M0) (upd H hA (.lst [.ref m0,.ref m1,.ref m2]))=hid ([t,hA,sA]++M0) H:=xW (by simp)
   have ht1:upd H hA (.lst [.ref m0,.ref m1,.ref m2]) t=some (.ins X.T.C dx (tfl hA sA)):=by rw [z8 nth];exact ht
   have X1:TrioX T.T.C X.T.C R.R.C R.P.C (upd H hA (.lst [.ref m0,.ref m1,.ref m2])) t [t,hA,sA] M0 (Jv st n h) st:=by
    refine⟨dx,hA,sA,m0,m1,m2,kvs,rfl,nd0,n0,ht1,z7,by rw [z8 (Ne.symm nhs)];exact hs,?_,?_,?_,?_⟩
    ·rw [eM];exact x0
    ·rw [eM];exact x1
    ·rw [eM];exact x2
    ·rw [eM];exact sc
   have lv1:∀b∈M0,upd H hA (.lst [.ref m0,.ref m1,.ref m2]) b≠none:=fun b m=>by
    obtain⟨o,e⟩:=zD (B.lv0 b m)
    rw [b1 b o e (fun z=>n0 b z m)]
    intro z;cases z
   refine⟨_,rfl,t,dx,_,rfl,ht1,rfl,_,rfl,t,j,_,M0,Jv st n h,st,by rw [ej];rfl,X1,es,lv1,fun H2 M2 X2 mm b2=>?_⟩
   have b12:=b1.trans b2
   have sM:=(b12.mono (N:=[t,hA,sA]++M0) (fun b m=>List.mem_append_left _ m)).hid
   have hl2:=sM _ _ hl
   refine⟨_,rfl,l,ts,h,rfl,(zf hl2).2,(f.mono sM).mono (yn _ _),by omega,fun H3 s3=>?_⟩
   have A2:y3 T.T.C X.T.C R.R.C R.P.C H2 t M2 M0 (Jv st n h):=⟨X2,fst,fun b m=>by
    obtain⟨o,e⟩:=zD (B.lv0 b m)
    rw [b12 b o e (fun z=>n0 b z m)]
    intro z;cases z⟩
   refine k H3 M2 (A2.same s3) (fun b m=>?_) (b12.trans (But.of s3))
   rcases mm b m with z | z
   ·exact .inl z
   ·exact .inr (b1.none (by
     intro x m'
     simp only [List.mem_cons,List.not_mem_nil,or_false] at m'
     rcases m' with m' | m' | m'
     ·rw [m',ht1];intro z;cases z
     ·rw [m',z7];intro z;cases z
     ·rw [m',z8 (Ne.symm nhs),hs];intro z;cases z) z)
theorem YH (X:yH K mg) (N:ym K mg) (R:zB K mg) (T:zw K mg):zj P w K mg base CX0 169 X.scr.f X.scr.fd ["self","one","other"] (spTScr T.T.C X.T.C R.R.C R.P.C):=by
 have GT:=IB (P:=P) (w:=w) (base:=base) R N T 40
 refine X.scr.F.ok scTScr (fun vs H Q E h=>?_) (fun cdv A outer s H vs Q E hr h=>?_)
 ·obtain⟨_,_,_,_,_,_,rfl,_⟩:=h
  rfl
 ·obtain⟨t,a,b,M,M0,st,rfl,en,B,k⟩:=h
  have hu:=hr.units
  have hu1:_+1<cLine:=Nat.lt_of_le_of_lt (Nat.add_le_add_left (by decide:1<=64) _) hu
  have hz:sizeLine=16777216:=sizeLine_eq
  refine⟨_,z9 (zy (i:=3) scTScr.nd rfl (Or.inl rfl) (jB (z6 (pv 1) (z6 (pv 2) zb))))
   (z9 (zR (zcq (Ol hu1 (pv 3) (ze (pv 0) rfl)))
    (zc (UR hu1 (ze (pv 0) rfl) (pv 3) (zC GT hr (by rfl) R.told.m R.told.F.kp R.told.b .nil zk (z6 (zN zA (ze (pv 0) rfl) (pv 1) (fun _ _=>rfl)) (z6 (zN zA (ze (pv 0) rfl) (pv 2) (fun _ _=>rfl)) zb))) rfl)) zE)
   (zc (zn (N4 hu1 (ze (pv 0) rfl) (pv 3) (fun _ _=>rfl))))),?_⟩
  refine⟨_,rfl,_,rfl,(by show 2<=sizeLine;decide),fun tp htp=>?_⟩
  have s1:zd H (upd H tp (.tup [.int (a:Int),.int (b:Int)])):=zd.new htp
  have htp1:upd H tp (.tup [.int (a:Int),.int (b:Int)]) tp=some (.tup ((yJ a b).map kV)):=z7
  generalize upd H tp (.tup [.int (a:Int),.int (b:Int)])=H1 at s1 htp1 ⊢
  have B1:=B.same s1
  have lv:=B1.live
  obtain⟨dx,hA,sA,l0,l1,l2,kvs,rfl,nd,n0,ht,hh,hs,a0,a1,a2,sc⟩:=B1.ex
  have nd0:=nd
  simp only [List.nodup_cons,List.mem_cons,List.not_mem_nil,or_false,not_or] at nd
  obtain⟨⟨nth,nts⟩,nhs,_⟩:=nd
  have few:=sc.few
  refine⟨_,rfl,_,rfl,t,X.T.C,dx,_,_,rfl,ht,X.T.c,X.T.n,rfl,sA,_,rfl,qe.t (k:=yJ a b) hs htp1,_,rfl,?_⟩
  cases q:yL kvs (yJ a b) with
  | none=>
   refine zu ?_
   obtain⟨la,lb,ga,gb,ha,hb⟩:∃la lb,([V.ref l0,.ref l1,.ref l2])[a]? = some (.ref la)/\([V.ref l0,.ref l1,.ref l2])[b]? = some (.ref lb)/\yQ T.T.C (hid ([t,hA,sA]++M0) H1) la (hOf st a)/\yQ T.T.C (hid ([t,hA,sA]++M0) H1) lb (hOf st b):=by
    rcases en with ⟨rfl,rfl⟩ | ⟨rfl,rfl⟩ | ⟨rfl,rfl⟩
    ·exact⟨l0,l1,rfl,rfl,a0,a1⟩
    ·exact⟨l0,l2,rfl,rfl,a0,a2⟩
    ·exact⟨l1,l2,rfl,rfl,a1,a2⟩
   obtain⟨tsa,xa,fa⟩:=ha
   obtain⟨tsb,xb,fb⟩:=hb
   have fha:=B.fine.of a
   have fhb:=B.fine.of b
   refine⟨_,rfl,t,X.T.C,dx,_,_,rfl,ht,X.T.c,X.T.n,rfl,_,rfl,hA,_,_,_,rfl,rfl,SqL.of hh,zp ga,?_⟩
   refine⟨_,rfl,t,X.T.C,dx,_,_,rfl,ht,X.T.c,X.T.n,rfl,_,rfl,hA,_,_,_,rfl,rfl,SqL.of hh,zp gb,?_⟩
   refine⟨la,lb,hOf st a,hOf st b,tsa,tsb,[t,hA,sA]++M0,rfl,lv,(zf xa).2,(zf xb).2,fa,fb,fha.2.1,by have:=fha.2.2;omega,by have:=fhb.2.2;omega,fun H2 r hr0 R2 c2 s2=>?_⟩
   refine⟨_,rfl,t,X.T.C,dx,_,_,rfl,s2 _ _ ht,X.T.c,X.T.n,rfl,_,rfl,sA,_,rfl,DPut.t (k:=yJ a b) (s2 _ _ hs) (s2 _ _ htp1) (by omega),?_⟩
   have b2:But [t,hA,sA] H (upd H2 sA (.dT (yR kvs (yJ a b) (.ref r)))):=((But.of s1).trans (But.of s2)).trans (But.upd (by simp))
   have eM:hid ([t,hA,sA]++M0) (upd H2 sA (.dT (yR kvs (yJ a b) (.ref r))))=hid ([t,hA,sA]++M0) H2:=xW (by simp)
   have m:=(But.of (M:=[t,hA,sA]++M0) s2).hid
   have ht3:upd H2 sA (.dT (yR kvs (yJ a b) (.ref r))) t=some (.ins X.T.C dx (tfl hA sA)):=by rw [z8 nts];exact s2 _ _ ht
   have A2:y3 T.T.C X.T.C R.R.C R.P.C (upd H2 sA (.dT (yR kvs (yJ a b) (.ref r)))) t [t,hA,sA] M0 st:=by
    refine⟨⟨dx,hA,sA,l0,l1,l2,_,rfl,nd0,n0,ht3,by rw [z8 nhs];exact s2 _ _ hh,z7,?_,?_,?_,?_⟩,B.fine,fun x q=>?_⟩
    ·rw [eM];exact a0.mono m
    ·rw [eM];exact a1.mono m
    ·rw [eM];exact a2.mono m
    ·rw [eM];exact(sc.mono m).put q en ⟨r,rfl,R2,c2⟩
    ·obtain⟨o,z⟩:=zD (B.lv0 x q)
     rw [b2 x o z (fun y=>n0 x y q)]
     intro y;cases y
   have ntp:tp≠sA:=fun z=>by
    rw [z] at htp1
    rw [hs] at htp1;cases htp1
   have g3:qe (upd H2 sA (.dT (yR kvs (yJ a b) (.ref r)))) sA (.ref tp) (some (.ref r)):=by
    have g:=qe.t (H:=upd H2 sA (.dT (yR kvs (yJ a b) (.ref r)))) (k:=yJ a b) (b:=tp) z7 (by rw [z8 ntp];exact s2 _ _ htp1)
    rw [IA,if_pos rfl] at g
    exact g
   refine⟨_,rfl,t,X.T.C,dx,_,_,rfl,ht3,X.T.c,X.T.n,rfl,_,rfl,sA,_,rfl,g3,?_⟩
   exact k _ r A2 (by rw [eM];exact R2) (by rw [eM];exact c2) b2
  | some v=>
   refine zr ?_
   obtain⟨a',b',_,e,r,rfl,Rw,cw⟩:=sc.at_ _ v (IW q)
   obtain⟨rfl,rfl⟩:=OK e
   have g3:qe H1 sA (.ref tp) (some (.ref r)):=by
    have g:=qe.t (k:=yJ a b) hs htp1
    rw [q] at g
    exact g
   refine⟨_,rfl,t,X.T.C,dx,_,_,rfl,ht,X.T.c,X.T.n,rfl,_,rfl,sA,_,rfl,g3,?_⟩
   exact k H1 r B1 Rw cw (But.of s1)
theorem qT {st:State} (w:Int) (hw:w=1\/w=2):Vahedn.outcome st w=rowOf true (deep st.base+1) [] (S st.base (yz st w)) (S st.base (yz st (3 - w))):=by
 rcases hw with rfl | rfl
 ·rfl
 ·show rowOf false (deep st.base+1) [] (S st.base st.one) (S st.base st.two)=rowOf true (deep st.base+1) [] (S st.base st.two) (S st.base st.one)
  exact U1 _ _ st.base _ _ (JL _ _) (JL _ _)
theorem ZP (X:yH K mg) (O:jd K mg) (N:ym K mg) (R:zB K mg) (T:zw K mg) (W:y9 K mg):zj P w K mg base CX0 170 X.out.f X.out.fd ["self","number"] (spTOut T.T.C X.T.C R.R.C R.P.C O.O.C):=by
 have GS:=YH (P:=P) (w:=w) (base:=base) X N R T
 have GO:=Ir (P:=P) (w:=w) (base:=base) O R T W
 refine X.out.F.ok scTOut (fun vs H Q E h=>?_) (fun cdv A outer s H vs Q E hr h=>?_)
 ·obtain⟨_,_,_,_,_,rfl,_⟩:=h
  rfl
 ·obtain⟨t,n,M,M0,st,rfl,hn,B,k⟩:=h
  have hr1:zJ 127 _:=hr.mono (by decide)
  refine⟨_,zc (zn (xr O.mk1 GO hr1 rfl O.O.g O.init.b .nil zk (z6 (zT (pv 0) X.T.c X.scr.m GS hr X.scr.b .nil zk (z6 zi (z6 (pv 1) zb))) (z6 (zT (pv 0) X.T.c X.scr.m GS hr X.scr.b .nil zk (z6 zi (z6 (yb qF zi (pv 1)) zb))) zb)))),?_⟩
  have at_:∀{H':Hp},y3 T.T.C X.T.C R.R.C R.P.C H' t M M0 st->∃dx hl sl,H' t=some (.ins X.T.C dx (tfl hl sl)):=fun A=>by
   obtain⟨dx,hl,sl,_,_,_,_,_,_,_,h,_⟩:=A.ex
   exact⟨dx,hl,sl,h⟩
  obtain⟨dx,hl,sl,ht⟩:=at_ B
  obtain⟨a,b,ea,eb,n1,n2,v1,v2⟩:∃a b:Nat,Ends2 0 a/\Ends2 0 b/\[V.ref t,.int 0,.int n]=[.ref t,.int ((0:Nat):Int),.int (a:Int)]/\[V.ref t,.int 0,.int (3 - n)]=[.ref t,.int ((0:Nat):Int),.int (b:Int)]/\hOf st a=yz st n/\hOf st b=yz st (3 - n):=by
   rcases hn with rfl | rfl
   ·exact⟨1,2,.inl ⟨rfl,rfl⟩,.inr (.inl ⟨rfl,rfl⟩),rfl,rfl,rfl,rfl⟩
   ·exact⟨2,1,.inr (.inl ⟨rfl,rfl⟩),.inl ⟨rfl,rfl⟩,rfl,rfl,rfl,rfl⟩
  refine⟨_,rfl,t,dx,_,rfl,ht,rfl,_,rfl,t,0,a,M,M0,st,n1,ea,B,fun H1 r1 B1 R1 _ b1=>?_⟩
  obtain⟨dx1,hl1,sl1,ht1⟩:=at_ B1
  refine⟨_,rfl,t,dx1,_,rfl,ht1,rfl,_,rfl,_,_,rfl,rfl,t,0,b,M,M0,st,n2,eb,B1,fun H2 r2 B2 R2 _ b2=>?_⟩
  rw [v1] at R1
  rw [v2] at R2
  have R1:yu T.T.C R.R.C R.P.C (hid (M++M0) H1) r1 (S st.base (yz st n)):=R1
  have R2:yu T.T.C R.R.C R.P.C (hid (M++M0) H2) r2 (S st.base (yz st (3 - n))):=R2
  intro p dp hp hdp ndp
  have pM:p∉M++M0:=fun z=>B2.live p z hp
  have s0:zd H2 (upd (upd H2 dp (.own p)) p (.ins O.O.C dp [])):=(zd.new hdp).trans (zd.new (by rw [z8 (Ne.symm ndp)];exact hp))
  have sN:zd (hid (M++M0) H2) (hid (p::(M++M0)) (upd (upd H2 dp (.own p)) p (.ins O.O.C dp []))):=fun b o e=>by
   obtain⟨nb,e⟩:=zf e
   exact zt (fun z=>(List.mem_cons.mp z).elim (za e hp) nb) (s0 b o e)
  have R1':=R1.mono (b2.mono (N:=M++M0) (fun b m=>List.mem_append_left _ m)).hid
  have fb:=B.fine.b
  have f1:=jr B.fine n
  have f2:=jr B.fine (3 - n)
  have ofs:=JL st.base (yz st n)
  have oft:=JL st.base (yz st (3 - n))
  have rn:=Jk (deep st.base+1) [] (S st.base (yz st n)) (S st.base (yz st (3 - n)))
  have rc:=Za (deep st.base+1) [] st.base (S st.base (yz st n)) (S st.base (yz st (3 - n))) ofs oft
  rw [xh,xh] at rn
  have g1:=fb.2.1
  have g2:=fb.2.2
  have g3:=f1.2.1
  have g4:=f1.2.2
  have g5:=f2.2.2
  refine⟨p,dp,r1,r2,M++M0,st.base,_,_,deep st.base+1,rfl,z7,pM,fun b m=>?_,R1'.mono sN,R2.mono sN,ofs,oft,Nat.lt_succ_self _,g1,by rw [xh];exact g3,by rw [xh];omega,by rw [xh];omega,by omega,by omega,fun H3 O3 b3=>⟨rfl,?_⟩⟩
  ·obtain⟨o,q⟩:=zD (B2.live b m)
   rw [s0 _ _ q]
   intro z;cases z
  have s3:=zd.made hp hdp b3
  rw [<-qT n hn] at O3
  exact k H3 p (B2.same s3) O3 ((b1.trans b2).trans (But.of s3))
theorem Vs {st:State} (f:qQ st) {w:Int} (hw:w=1\/w=2):nodes (Vahedn.outcome st w).hedge<=400:=by
 rw [qT w hw]
 have f1:=jr f w
 have f2:=jr f (3 - w)
 have b:=Jk (deep st.base+1) [] (S st.base (yz st w)) (S st.base (yz st (3 - w)))
 rw [xh,xh] at b
 have g1:=f1.2.2
 have g2:=f2.2.2
 omega
theorem U7 (X:yH K mg) (E':yY K mg) (O:jd K mg) (N:ym K mg) (R:zB K mg) (T:zw K mg) (W:y9 K mg):zj P w K mg base (CXE P w) 171 X.hout.f X.hout.fd ["self","number"] (spTHOut T.T.C X.T.C R.R.C R.P.C E'.TooMany):=by
 have GO:=ZP (P:=P) (w:=w) (base:=base) X O N R T W
 have GZ:=Vo (P:=P) (w:=w) (base:=base) E' T
 refine X.hout.F.okx scTHOut (fun vs H Q E h=>?_) (fun cdv A outer s H vs Q E hr h=>?_)
 ·obtain⟨_,_,_,_,_,rfl,_⟩:=h
  rfl
 ·obtain⟨t,n,M,M0,st,rfl,hn,B,k,ke⟩:=h
  have hr2:zJ 2 _:=hr.mono (by decide)
  have hz:sizeLine=16777216:=sizeLine_eq
  refine⟨_,z9 (zy (i:=2) scTHOut.nd rfl (Or.inl rfl) (ze (zT (pv 0) X.T.c X.out.m GO hr X.out.b .nil zk (z6 (pv 1) zb)) rfl))
   (z9 (zz (zC GZ hr2 (by rfl) E'.checkS.m E'.checkS.F.kp E'.checkS.b .nil yh (z6 (pv 2) zb)))
   (zc (zn (pv 2)))),?_⟩
  obtain⟨dx,hl,sl,_,_,_,_,_,_,_,ht,_⟩:=B.ex
  refine⟨_,rfl,t,dx,_,rfl,ht,rfl,_,rfl,t,n,M,M0,st,rfl,hn,B,fun H3 p B3 O3 b3=>?_⟩
  obtain⟨dp,co,l,vs,ts,o1,o2,o3,o4,o5⟩:=O3.ex
  have on:=Vs B.fine hn
  refine⟨p,O.O.C,dp,_,_,rfl,(zf o1).2,O.O.c,O.O.n,rfl,?_⟩
  refine⟨_,rfl,l,ts,_,rfl,(zf o4).2,o5.mono (yn _ _),by omega,fun nz H4 s4=>?_,fun nz H4 s4=>?_⟩
  ·have m4:=(But.of (M:=M++M0) s4).hid
   exact⟨_,rfl,k nz H4 l (B3.same s4) ⟨ts,m4 _ _ o4,o5.mono m4⟩ (b3.trans (But.of s4))⟩
  ·exact ke nz H4 (B3.same s4) (b3.trans (But.of s4))
end
end Hm
end
section
namespace Hm
open PySem PySem.Spec PyProof.Rows L2
open Vaheda (Hedge nodes append width deep children saying dropTrees Path readText)
open Vahedn (Conflict State)
abbrev sCuInit:Stmt:=zK (top 82) 0
abbrev sCuEnd:Stmt:=zK (top 82) 1
abbrev sCuNum:Stmt:=zK (top 82) 2
abbrev sCuRow:Stmt:=zK (top 82) 3
abbrev sCounted:Stmt:=top 83
structure xk (K:PySem.W.Frag) (mg:Str->Option Value):Type where
 C:Cl K mg "Cursor" ["calls","place"]
 init:Me K C.C "__init__" "Cursor.__init__" sCuInit ["self","calls"]
 mk1:Mk K C.C init.f
 fin:Me K C.C "at_end" "Cursor.at_end" sCuEnd ["self"]
 num:Me K C.C "take_number" "Cursor.take_number" sCuNum ["self"]
 row:Me K C.C "take_row" "Cursor.take_row" sCuRow ["self"]
 counted:Df K mg "counted" sCounted ["numbers"]
 nlen:mg "len"=none
def y8 (L:List Int):List V:=L.map V.int
theorem xR (L:List Int):(y8 L).length=L.length:=by unfold y8;rw [List.length_map]
theorem VX {L:List Int} {i:Nat} {n:Int} (h:L[i]? = some n):(y8 L)[i]? = some (.int n):=by unfold y8;rw [List.getElem?_map,h];rfl
def xE (K:PySem.W.Frag) (H:Hp) (cl:Addr) (L:List Int):Prop:=(∃o,H cl=some (.frz o (.lst (y8 L))))\/∀H',SqL K H' cl (y8 L)
theorem xE.sq {K:PySem.W.Frag} {H:Hp} {cl:Addr} {L:List Int} (A:xE K H cl L):SqL K H cl (y8 L):=by
 rcases A with ⟨o,e⟩ | A
 ·exact .inl (.inr ⟨o,e⟩)
 ·exact A H
theorem xE.of {K:PySem.W.Frag} {H:Hp} {cl:Addr} {L:List Int} (O:∀b,H b=none\/∃o u,H b=some (.frz o u)) (h:SqL K H cl (y8 L)):xE K H cl L:=by
 rcases h with (h | ⟨o,h⟩) | h
 ·rcases O cl with z | ⟨o,u,z⟩
  ·rw [z] at h;cases h
  ·rw [z] at h;cases h
 ·exact .inl ⟨o,h⟩
 ·exact .inr fun H'=>.inr h
theorem xE.but {K:PySem.W.Frag} {H H':Hp} {cl:Addr} {L:List Int} {M:List Addr} (A:xE K H cl L) (b:But M H H') (hM:∀x∈M,∀o u,H x≠some (.frz o u)):xE K H' cl L:=by
 rcases A with ⟨o,e⟩ | A
 ·exact .inl ⟨o,b _ _ e fun z=>hM cl z o _ e⟩
 ·exact .inr A
def cf (cl:Addr) (i:Nat):List (Str×V):=[("calls",.ref cl),("place",.int i)]
def spCuInit (CC:Addr):Sp:=fun vs H Q _=>∃(p dx cl:Addr),vs=[.ref p,.ref cl]/\H p=some (.ins CC dx [])/\∀H',H' p=some (.ins CC dx (cf cl 0))->But [p] H H'->Q .non H'
def spCuEnd (K:PySem.W.Frag) (CC:Addr):Sp:=fun vs H Q _=>∃(c dx cl:Addr) (L:List Int) (i:Nat),vs=[.ref c]/\H c=some (.ins CC dx (cf cl i))/\SqL K H cl (y8 L)/\Q (.bl (decide (i=L.length))) H
def spCuNum (K:PySem.W.Frag) (CC:Addr):Sp:=fun vs H Q _=>∃(c dx cl:Addr) (L:List Int) (i:Nat) (n:Int),vs=[.ref c]/\H c=some (.ins CC dx (cf cl i))/\xE K H cl L/\L[i]? = some n/\∀H',H' c=some (.ins CC dx (cf cl (i+1)))->But [c] H H'->Q (.int n) H'
def spCuRow (K:PySem.W.Frag) (CC:Addr):Sp:=fun vs H Q _=>∃(c dx cl:Addr) (L:List Int) (i n:Nat),vs=[.ref c]/\H c=some (.ins CC dx (cf cl i))/\xE K H cl L/\L[i]? = some (n:Int)/\i+1+n<=L.length /\
 ∀H' r,H r=none->H' r=some (.lst (y8 ((L.drop (i+1)).take n)))->H' c=some (.ins CC dx (cf cl (i+1+n)))->But [c] H H'->Q (.ref r) H'
def spCounted:Sp:=fun vs H Q _=>∃(l:Addr) (xs:List V),vs=[.ref l]/\H l=some (.lst xs)/\xs.length<=10000000/\∀H' r,H r=none->H' r=some (.lst (.int (xs.length:Nat)::xs))->zd H H'->Q (.ref r) H'
theorem zbn (xs:List V) (i j:Nat) (h1:i<=j) (h2:j<=xs.length):jR xs (some (i:Int)) (some (j:Int))=(xs.drop i).take (j - i):=by
 unfold jR
 rw [HT.sIx_nat,HT.sIx_nat,Nat.min_eq_left (show i<=xs.length by omega),Nat.min_eq_left h2]
section
variable {P:Program} {w:World} {K:PySem.W.Frag} {mg:Str->Option Value} {base:Heap}
theorem scCuInit:zh ["self","calls"] ["self","calls"] (zg sCuInit):=⟨rfl,rfl,rfl,by decide +kernel,rfl,by decide +kernel,by decide +kernel⟩
theorem scCuEnd:zh ["self"] ["self"] (zg sCuEnd):=⟨rfl,rfl,rfl,by decide +kernel,rfl,by decide +kernel,by decide +kernel⟩
theorem scCuNum:zh ["self"] ["self"] (zg sCuNum):=⟨rfl,rfl,rfl,by decide +kernel,rfl,by decide +kernel,by decide +kernel⟩
theorem scCuRow:zh ["self","length"] ["self"] (zg sCuRow):=⟨rfl,rfl,rfl,by decide +kernel,rfl,by decide +kernel,by decide +kernel⟩
theorem scCounted:zh ["numbers"] ["numbers"] (zg sCounted):=⟨rfl,rfl,rfl,by decide +kernel,rfl,by decide +kernel,by decide +kernel⟩
theorem Oy (X:xk K mg):zj P w K mg base CX0 1 X.init.f X.init.fd ["self","calls"] (spCuInit X.C.C):=by
 refine X.init.F.ok scCuInit (fun vs H Q E h=>?_) (fun cdv A outer s H vs Q E hr h=>?_)
 ·obtain⟨_,_,_,rfl,_⟩:=h
  rfl
 ·obtain⟨p,dx,cl,rfl,hp,k⟩:=h
  refine⟨_,z9 (zZ (pv 0) (pv 1) rfl) (zc (zZ (pv 0) zi rfl)),?_⟩
  refine⟨_,rfl,_,rfl,p,X.C.C,dx,_,rfl,hp,X.C.c,X.C.n,(by show 0<1000;decide),?_⟩
  refine⟨_,rfl,p,X.C.C,dx,_,rfl,z7,X.C.c,X.C.n,(by show 1<1000;decide),?_⟩
  rw [x6]
  exact k _ z7 (But.upd (by simp))
theorem Iv (X:xk K mg):zj P w K mg base CX0 1 X.fin.f X.fin.fd ["self"] (spCuEnd K X.C.C):=by
 refine X.fin.F.ok scCuEnd (fun vs H Q E h=>?_) (fun cdv A outer s H vs Q E hr h=>?_)
 ·obtain⟨_,_,_,_,_,rfl,_⟩:=h
  rfl
 ·obtain⟨c,dx,cl,L,i,rfl,hc,hs,k⟩:=h
  refine⟨_,zc (zn (JC xO (ze (pv 0) rfl) (zU zF (by rfl) X.nlen PySem.boot_len (z6 (ze (pv 0) rfl) zb)) (zG _))),?_⟩
  refine⟨_,rfl,c,X.C.C,dx,_,_,rfl,hc,X.C.c,X.C.n,rfl,_,rfl,c,X.C.C,dx,_,_,rfl,hc,X.C.c,X.C.n,rfl,cl,_,rfl,.inl hs,rfl,?_⟩
  rw [xR]
  by_cases e:i=L.length
  ·rw [decide_eq_true e] at k
   rw [decide_eq_true (show V.int (i:Nat)=V.int (L.length:Nat) by rw [e])]
   exact k
  ·rw [decide_eq_false e] at k
   rw [decide_eq_false (show ¬V.int (i:Nat)=V.int (L.length:Nat) from fun z=>e (by have:=V.int.inj z;omega))]
   exact k
theorem jc (X:xk K mg):zj P w K mg base CX0 1 X.num.f X.num.fd ["self"] (spCuNum K X.C.C):=by
 refine X.num.F.ok scCuNum (fun vs H Q E h=>?_) (fun cdv A outer s H vs Q E hr h=>?_)
 ·obtain⟨_,_,_,_,_,_,rfl,_⟩:=h
  rfl
 ·obtain⟨c,dx,cl,L,i,n,rfl,hc,hs,hn,k⟩:=h
  refine⟨_,z9 (yj (pv 0) zi x5) (zc (zn (zN zA (ze (pv 0) rfl) (yb qF (ze (pv 0) rfl) zi) (fun _ _=>rfl)))),?_⟩
  refine⟨_,rfl,c,X.C.C,dx,_,_,rfl,hc,X.C.c,X.C.n,rfl,_,_,rfl,rfl,dx,_,hc,(by show 2<1000;decide),?_⟩
  have b1:But [c] H (upd H c (.ins X.C.C dx (cf cl (i+1)))):=But.upd (by simp)
  rw [show y4 "place" (V.int ((i:Nat)+1:Int)) (cf cl i)=cf cl (i+1) from rfl]
  have hs1:SqL K (upd H c (.ins X.C.C dx (cf cl (i+1)))) cl (y8 L):=(hs.but b1 fun x m o u z=>by rw [List.mem_singleton.mp m,hc] at z;cases z).sq
  refine⟨_,rfl,c,X.C.C,dx,_,_,rfl,z7,X.C.c,X.C.n,rfl,_,rfl,c,X.C.C,dx,_,_,rfl,z7,X.C.c,X.C.n,rfl,_,_,rfl,rfl,cl,_,_,_,rfl,rfl,hs1,?_,k _ z7 b1⟩
  rw [show((i+1:Nat):Int) - 1=((i:Nat):Int) by omega]
  exact zp (VX hn)
theorem YY (X:xk K mg):zj P w K mg base CX0 2 X.row.f X.row.fd ["self"] (spCuRow K X.C.C):=by
 have GN:=jc (P:=P) (w:=w) (base:=base) X
 refine X.row.F.ok scCuRow (fun vs H Q E h=>?_) (fun cdv A outer s H vs Q E hr h=>?_)
 ·obtain⟨_,_,_,_,_,_,rfl,_⟩:=h
  rfl
 ·obtain⟨c,dx,cl,L,i,n,rfl,hc,hs,hn,le,k⟩:=h
  refine⟨_,z9 (zy (i:=1) scCuRow.nd rfl (Or.inl rfl) (zS (pv 0) X.C.c X.num.m GN hr X.num.b .nil zk)) (z9 (yj (pv 0) (pv 1) x5)
   (zc (zn (qi qX (ze (pv 0) rfl) (jO (yb qF (ze (pv 0) rfl) (pv 1))) (jO (ze (pv 0) rfl)))))),?_⟩
  have nfz:∀(H':Hp) (i':Nat),H' c=some (.ins X.C.C dx (cf cl i'))->∀x∈[c],∀o u,H' x≠some (.frz o u):=fun H' i' e x m o u z=>by
   rw [List.mem_singleton.mp m,e] at z;cases z
  refine⟨_,rfl,c,dx,_,rfl,hc,rfl,c,dx,cl,L,i,_,rfl,hc,hs,hn,fun H1 h1 b1=>?_⟩
  refine⟨_,rfl,c,X.C.C,dx,_,_,rfl,h1,X.C.c,X.C.n,rfl,_,rfl,_,_,rfl,rfl,dx,_,h1,(by show 2<1000;decide),?_⟩
  rw [show y4 "place" (V.int (((i+1:Nat):Int)+((n:Nat):Int))) (cf cl (i+1))=cf cl (i+1+n) from rfl]
  have b2:But [c] H (upd H1 c (.ins X.C.C dx (cf cl (i+1+n)))):=b1.trans (But.upd (by simp))
  have hs2:=(hs.but b2 (nfz _ _ hc)).sq
  refine⟨_,rfl,c,X.C.C,dx,_,_,rfl,z7,X.C.c,X.C.n,rfl,_,rfl,c,X.C.C,dx,_,_,rfl,z7,X.C.c,X.C.n,rfl,_,rfl,_,_,rfl,rfl,_,rfl,_,rfl,c,X.C.C,dx,_,_,rfl,z7,X.C.c,X.C.n,rfl,_,rfl,cl,_,rfl,hs2,fun r hr0=>?_⟩
  rw [show((i+1+n:Nat):Int) - ((n:Nat):Int)=((i+1:Nat):Int) by omega,zbn _ _ _ (by omega) (by rw [xR];exact le)]
  have ncr:c≠r:=za z7 hr0
  refine k _ r (b2.none (by simp [z7]) hr0) ?_ (by rw [z8 ncr,z7]) (b2.trans (But.new hr0))
  rw [z7]
  unfold y8
  rw [<-List.map_drop,<-List.map_take,show i+1+n - (i+1)=n by omega]
theorem qP (X:xk K mg):zj P w K mg base CX0 1 X.counted.f X.counted.fd ["numbers"] spCounted:=by
 refine X.counted.F.ok scCounted (fun vs H Q E h=>?_) (fun cdv A outer s H vs Q E hr h=>?_)
 ·obtain⟨_,_,rfl,_⟩:=h
  rfl
 ·obtain⟨l,xs,rfl,hl,sz,k⟩:=h
  have hz:sizeLine=16777216:=sizeLine_eq
  refine⟨_,zc (zn (yb Zi (zM (z6 (zU zF (by rfl) X.nlen PySem.boot_len (z6 (pv 0) zb)) zb)) (pv 0))),?_⟩
  refine⟨_,rfl,l,xs,rfl,.inl (SqL.of hl),(by show 1<=sizeLine;decide),fun l1 hl1=>?_⟩
  have s1:zd H (upd H l1 (.lst [.int (xs.length:Nat)])):=zd.new hl1
  refine⟨_,rfl,l1,l,_,_,rfl,rfl,z7,s1 _ _ hl,by show 1+_<=_;omega,fun r hr0=>?_⟩
  exact k _ r (s1.free hr0) z7 (s1.trans (zd.new hr0))
end
end Hm
end
section
namespace Hm
open PySem PySem.Spec PyProof.Rows L2
open Vaheda (Hedge nodes append width deep children saying dropTrees Path)
open Vahedn (Fate Slot slots leftAlone paired renewed alone result slotAt fateNumber pathIn)
open Vahedl (Script)
def qb (l:List Int) (s:Script):Option Slot:=(pathIn l).bind fun p=>slotAt p s
theorem Jn (x:Int) (r:List Int):pathIn (x::r)=if 0<=x then (pathIn r).map (x.toNat::·) else none:=by
 unfold pathIn
 rw [List.all_cons]
 by_cases c:0<=x
 ·rw [decide_eq_true c,Bool.true_and,if_pos c]
  split <;> rfl
 ·rw [decide_eq_false c,Bool.false_and,if_neg c]
  rfl
theorem NQ (p:Path):slotAt p .nil=none:=by
 cases p with
 | nil=>rfl
 | cons i p=>rfl
theorem NC (l:List Int):qb l .nil=none:=by
 unfold qb
 cases pathIn l with
 | none=>rfl
 | some p=>exact NQ p
theorem OH (x:Int) (s:Script):qb [x] s=if 0<=x then (slots .nil s).1[x.toNat]? else none:=by
 unfold qb
 rw [Jn]
 by_cases c:0<=x
 ·rw [if_pos c,if_pos c]
  show slotAt [x.toNat] s=_
  rw [YS]
  cases (slots .nil s).1[x.toNat]? <;> rfl
 ·rw [if_neg c,if_neg c];rfl
theorem NO (x:Int) {r:List Int} (hr:r≠[]) (s:Script):qb (x::r) s=if 0<=x then (match (slots .nil s).1[x.toNat]? with
  | none=>none
  | some z=>qb r (jt z.fate)) else none:=by
 unfold qb
 rw [Jn]
 by_cases c:0<=x
 ·rw [if_pos c,if_pos c]
  cases q:pathIn r with
  | none=>cases (slots .nil s).1[x.toNat]? <;> rfl
  | some p=>
   have pn:p.isEmpty=false:=by
    cases r with
    | nil=>exact absurd rfl hr
    | cons y r'=>
     rw [Jn] at q
     split at q
     ·cases q2:pathIn r' with
      | none=>rw [q2] at q;cases q
      | some p'=>rw [q2] at q;cases q;rfl
     ·cases q
   show slotAt (x.toNat::p) s=_
   rw [YS]
   cases (slots .nil s).1[x.toNat]? with
   | none=>rfl
   | some z=>
    dsimp only
    rw [if_neg (by rw [pn];decide)]
    rfl
 ·rw [if_neg c,if_neg c];rfl
theorem zbt (h g:Hedge):∀acc z,z∈(slots acc (S h g)).1->z.fate=.gone\/∃h' g',h'≠.nil/\g'≠.nil/\zq h'=zq g'/\z.fate=yr h' g'/\nodes g'<=nodes g:=by
 refine Yw (M:=fun h g=>∀acc z,z∈(slots acc (S h g)).1->z.fate=.gone\/∃h' g',h'≠.nil/\g'≠.nil/\zq h'=zq g'/\z.fate=yr h' g'/\nodes g'<=nodes g) (fun h g ih=>?_) h g
 intro acc z m
 have up:∀{g1:Hedge},nodes g1<=nodes g->(z.fate=.gone\/∃h' g',h'≠.nil/\g'≠.nil/\zq h'=zq g'/\z.fate=yr h' g'/\nodes g'<=nodes g1)->z.fate=.gone\/∃h' g',h'≠.nil/\g'≠.nil/\zq h'=zq g'/\z.fate=yr h' g'/\nodes g'<=nodes g:=fun le q=>by
  rcases q with q | ⟨h',g',a,b,c,d,e⟩
  ·exact .inl q
  ·exact .inr ⟨h',g',a,b,c,d,Nat.le_trans e le⟩
 by_cases hh:h=.nil
 ·subst hh
  by_cases hg:g=.nil
  ·subst hg;rw [j3] at m;cases m
  ·rw [Yz hg] at m
   have n2:=zX hg
   exact up (by omega) (ih .nil (tl g) (by omega) _ z m)
 ·have n1:=zX hh
  by_cases hg:g=.nil
  ·subst hg
   rw [S_r hh] at m
   rcases List.mem_cons.mp m with m | m
   ·rw [m];exact .inl rfl
   ·exact ih _ _ (by omega) _ z m
  ·have n2:=zX hg
   rcases Jz hh hg with ⟨e,q⟩ | q | q
   ·rw [q,Y1] at m
    rcases List.mem_cons.mp m with m | m
    ·rw [m];exact .inr ⟨h,g,hh,hg,e,rfl,Nat.le_refl _⟩
    ·exact up (by omega) (ih _ _ (by omega) _ z m)
   ·rw [q] at m
    rcases List.mem_cons.mp m with m | m
    ·rw [m];exact .inl rfl
    ·exact ih _ _ (by omega) _ z m
   ·rw [q] at m
    exact up (by omega) (ih _ _ (by omega) _ z m)
theorem Ot (g:Hedge):slots .nil (S g g)=(J3 g (width g),.nil):=by
 have e:=((qZ g g).mpr rfl).2
 rw [JR g g (width g) (by omega),ja (h:=g) (Nat.le_refl _),j3]
 show(J3 g (width g)++[],_)=_
 rw [List.append_nil]
 rfl
def spFateAt (C CR CP NN:Addr):Sp:=fun vs H Q E=>∃(r:Addr) (x:Int) (s:Script),vs=[.ref r,.int x]/\yu C CR CP H r s /\
 (∀z v,0<=x->(slots .nil s).1[x.toNat]? = some z->xI C CR CP H v z.fate->Q v H)/\((if 0<=x then (slots .nil s).1[x.toNat]? else none)=none->∀H',zd H H'->E (.ref NN) none H')
def spWithin (C CR CP NN:Addr):Sp:=fun vs H Q E=>∃(v:V) (z:Fate),vs=[v]/\xI C CR CP H v z /\
 ((z=.gone/\∀H',zd H H'->E (.ref NN) none H')\/∃h g,h≠.nil/\g≠.nil/\zq h=zq g/\z=yr h g/\nodes g<=2000/\∀H' r,yu C CR CP H' r (S (children h) (children g))->zd H H'->Q (.ref r) H')
def spKind (C CR CP:Addr):Sp:=fun vs H Q _=>∃(v:V) (z:Fate),vs=[v]/\xI C CR CP H v z/\Q (.int (fateNumber z:Nat)) H
def spToldFate (C CR CP NN:Addr):Sp:=fun vs H Q E=>∃(r pl:Addr) (h g:Hedge) (l:List Int),vs=[.ref r,.ref pl]/\yu C CR CP H r (S h g)/\nodes g<=2000/\H pl=some (.lst (y8 l)) /\
 (∀z,qb l (S h g)=some z->∀H' q,H' q=some (.lst (y8 [(fateNumber z.fate:Nat),(Vahedn.one (renewed z.fate):Nat),(width z.before:Nat)]))->zd H H'->Q (.ref q) H') /\
 (qb l (S h g)=none->∀H',zd H H'->E (.ref NN) none H')
theorem IP (xs:List V) (h:0<xs.length):jR xs none (some (-1))=xs.take (xs.length - 1):=by
 unfold jR
 rw [HT.sIx_none,List.drop_zero,Nat.sub_zero]
 congr 1
 unfold HT.sIx
 simp only
 rw [if_pos (by decide)]
 omega
section
variable {P:Program} {w:World} {K:PySem.W.Frag} {mg:Str->Option Value} {base:Heap}
theorem scToldFate:zh ["script","path","row","place","fate","renewed"] ["script","path"] (zg sToldFate):=⟨rfl,rfl,rfl,by decide +kernel,rfl,by decide +kernel,by decide +kernel⟩
theorem scFateAt:zh ["row","place"] ["row","place"] (zg sFateAt):=⟨rfl,rfl,rfl,by decide +kernel,rfl,by decide +kernel,by decide +kernel⟩
theorem scWithin:zh ["fate"] ["fate"] (zg sWithin):=⟨rfl,rfl,rfl,by decide +kernel,rfl,by decide +kernel,by decide +kernel⟩
theorem scKind:zh ["fate"] ["fate"] (zg sKind):=⟨rfl,rfl,rfl,by decide +kernel,rfl,by decide +kernel,by decide +kernel⟩
theorem zb0 (X:yy K mg) (R:zB K mg) (T:zw K mg):zj P w K mg base CX0 1 X.kind.f X.kind.fd ["fate"] (spKind T.T.C R.R.C R.P.C):=by
 refine X.kind.F.ok scKind (fun vs H Q E h=>?_) (fun cdv A outer s H vs Q E hr h=>?_)
 ·obtain⟨_,_,rfl,_⟩:=h
  rfl
 ·obtain⟨v,z,rfl,⟨ro,fv,_⟩,k⟩:=h
  refine⟨_,z9 (zR (zx qa (pv 0) xB (zG _)) (zc (zn (zP X.kDropped))) zE)
   (zc (zn (jL (zV (ze (pv 0) rfl) (fun _=>rfl)) (zP X.kAlone) (zP X.kChanged)))),?_⟩
  rcases fv with ⟨rfl,rfl⟩ | ⟨ng,pq,dq,t,rfl,g,f,q⟩
  ·exact⟨_,rfl,rfl,_,rfl,zu k⟩
  ·refine⟨_,rfl,rfl,_,rfl,zr ?_⟩
   refine⟨_,rfl,pq,R.P.C,dq,_,_,rfl,g,R.P.c,R.P.n,rfl,_,rfl,?_⟩
   have e:fateNumber z=if leftAlone z=true then 1 else 2:=by
    cases z with
    | gone=>exact absurd rfl ng
    | el a c k=>rfl
    | tx t c=>rfl
   rw [e] at k
   cases al:leftAlone z with
   | true=>rw [al] at k;exact zu k
   | false=>rw [al] at k;exact zr k
theorem Oc (X:yy K mg) (R:zB K mg) (T:zw K mg):zj P w K mg base (CXE P w) 1 X.fateAt.f X.fateAt.fd ["row","place"] (spFateAt T.T.C R.R.C R.P.C X.NoNode):=by
 refine X.fateAt.F.okx scFateAt (fun vs H Q E h=>?_) (fun cdv A outer s H vs Q E hr h=>?_)
 ·obtain⟨_,_,_,rfl,_⟩:=h
  rfl
 ·obtain⟨r,x,s,rfl,Rw,k,ke⟩:=h
  refine⟨_,z9 (zR (qK (zx qw (pv 1) zi (zG _)) (qA (zx zd5 (pv 1) (zU zF (by rfl) X.nlen PySem.boot_len (z6 (ze (pv 0) rfl) zb)) (zG _)))).pt (zc (yN xc rfl rfl X.nn X.nnX)) zE)
   (zc (zn (zN zA (ze (pv 0) rfl) (pv 1) (fun _ _=>rfl)))),?_⟩
  obtain⟨dr,c,P',F',ps,fs,r1,r2,r3,pa,fl,ft⟩:=Rw.open_
  refine⟨_,rfl,_,_,rfl,rfl,_,rfl,?_⟩
  by_cases c0:x<0
  ·rw [decide_eq_true c0]
   exact zu (zu (ke (if_neg (by omega)) H (zd.refl _)))
  ·rw [decide_eq_false c0]
   refine zr ?_
   refine⟨_,rfl,_,rfl,r,R.R.C,dr,_,_,rfl,r1,R.R.c,R.R.n,rfl,F',fs,rfl,.inl (SqL.of r3),_,_,rfl,rfl,_,rfl,?_⟩
   by_cases c1:((fs.length:Nat):Int)<=x
   ·rw [decide_eq_true c1]
    refine zu (ke ?_ H (zd.refl _))
    rw [if_pos (by omega)]
    exact List.getElem?_eq_none (by omega)
   ·rw [decide_eq_false c1]
    refine zr ?_
    have li:x.toNat<(slots .nil s).1.length:=by omega
    obtain⟨v,e1,e2⟩:=ft x.toNat _ (List.getElem?_eq_getElem li)
    refine⟨_,rfl,r,R.R.C,dr,_,_,rfl,r1,R.R.c,R.R.n,rfl,_,rfl,F',fs,_,_,rfl,rfl,SqL.of r3,(?_:atI fs x=some v),k _ v (by omega) (List.getElem?_eq_getElem li) e2⟩
    have ex:((x.toNat:Nat):Int)=x:=by omega
    rw [<-ex]
    exact zp e1
theorem OC (X:yy K mg) (R:zB K mg) (T:zw K mg):zj P w K mg base (CXE P w) 6 X.within.f X.within.fd ["fate"] (spWithin T.T.C R.R.C R.P.C X.NoNode):=by
 have GR:=ZX (P:=P) (w:=w) (base:=base) R T.T.C
 refine X.within.F.okx scWithin (fun vs H Q E h=>?_) (fun cdv A outer s H vs Q E hr h=>?_)
 ·obtain⟨_,_,rfl,_⟩:=h
  rfl
 ·obtain⟨v,z,rfl,⟨ro,fv,frow⟩,k⟩:=h
  refine⟨_,z9 (zR (zx qa (pv 0) xB (zG _)) (zc (yN xc rfl rfl X.nn X.nnX)) zE)
   (z9 (zR (zV (ze (pv 0) rfl) (fun _=>rfl)) (zc (zn (xr R.rmk GR hr rfl R.R.g R.rinit.b .nil zk (z6 zi (z6 (ze (ze (pv 0) rfl) rfl) zb))))) zE)
   (zc (zn (ze (pv 0) rfl)))),?_⟩
  rcases fv with ⟨eg,rfl⟩ | ⟨ng,pq,dq,t,rfl,g0,f,q⟩
  ·refine⟨_,rfl,rfl,_,rfl,zu ?_⟩
   rcases k with ⟨_,k⟩ | ⟨h,g,_,_,_,e,_⟩
   ·exact k H (zd.refl _)
   ·rw [eg] at e
    exact absurd e.symm (YI _ _)
  ·refine⟨_,rfl,rfl,_,rfl,zr ?_⟩
   rcases k with ⟨e,_⟩ | ⟨h,g,nh,ngl,tx,e,nz,k⟩
   ·exact absurd e ng
   subst e
   have frw:=Z8 tx
   refine⟨_,rfl,pq,R.P.C,dq,_,_,rfl,g0,R.P.c,R.P.n,rfl,_,rfl,?_⟩
   cases al:leftAlone (yr h g) with
   | true=>
    refine zu ?_
    have ehd:hd h=hd g:=by
     rw [JZ nh ngl tx] at al
     exact of_decide_eq_true al
    obtain⟨_,_,ech⟩:=(JO nh ngl).mp ehd
    rw [Jw ngl] at f
    have hne:hd g≠.nil:=by
     cases g with
     | nil=>exact absurd rfl ngl
     | el a k n=>intro y;cases y
     | tx a n=>intro y;cases y
    obtain⟨t',r',et,T1,_⟩:=f.cons hne
    cases et
    obtain⟨⟨dt,wt,kt,ks,t1,_,t3,t4⟩,_⟩:=T1
    have ech2:children (hd g)=children g:=by
     cases g with
     | nil=>exact absurd rfl ngl
     | el a k n=>rfl
     | tx a n=>rfl
    rw [ech2] at t4
    have kl:=t4.len
    have wn:=zX ngl
    have wl:=yo (children g)
    refine⟨_,rfl,pq,R.P.C,dq,_,_,rfl,g0,R.P.c,R.P.n,rfl,t,T.T.C,dt,_,_,rfl,t1,T.T.c,T.T.n,rfl,fun p dp hp hdp ndp=>?_⟩
    have s0:zd H (upd (upd H dp (.own p)) p (.ins R.R.C dp [])):=(zd.new hdp).trans (zd.new (by rw [z8 (Ne.symm ndp)];exact hp))
    have sN:zd H (hid [p] (upd (upd H dp (.own p)) p (.ins R.R.C dp []))):=fun b o e=>zt (by simpa using za e hp) (s0 b o e)
    refine⟨p,dp,kt,0,ks,children g,width (children g),[],rfl,z7,by simp,fun b m=>(by cases m),?_,t4.mono sN,Nat.le_refl _,by omega,fun H1 M1 B1 m1 b1=>⟨rfl,?_⟩⟩
    ·rw [List.take_of_length_le (by omega)]
     exact s0 _ _ t3
    have Rw:=B1.row (Ot (children g))
    rw [zau] at Rw
    rw [ech] at k
    exact k H1 p Rw (zd.made hp hdp b1)
   | false=>
    refine zr ?_
    obtain⟨ra,era⟩:=zD (q al)
    subst era
    refine⟨_,rfl,pq,R.P.C,dq,_,_,rfl,g0,R.P.c,R.P.n,rfl,?_⟩
    refine k H ra ?_ (zd.refl _)
    rw [<-frw]
    exact frow ra rfl
theorem UJ (X:yy K mg) (R:zB K mg) (T:zw K mg):zj P w K mg base (CXE P w) 7 X.told.f X.told.fd ["script","path"] (spToldFate T.T.C R.R.C R.P.C X.NoNode):=by
 have GF:=Oc (P:=P) (w:=w) (base:=base) X R T
 have GW:=OC (P:=P) (w:=w) (base:=base) X R T
 have GK:=zb0 (P:=P) (w:=w) (base:=base) X R T
 refine X.told.F.okx scToldFate (fun vs H Q E h=>?_) (fun cdv A outer s H vs Q E hr h=>?_)
 ·obtain⟨_,_,_,_,_,rfl,_⟩:=h
  rfl
 ·obtain⟨r0,pl,h0,g0,l,rfl,R0,nz,hpl,k,ke⟩:=h
  have hr1:zJ 1 _:=hr.mono (by decide)
  have hz:sizeLine=16777216:=sizeLine_eq
  refine⟨_,z9 (zR (JA (zV (pv 1) (fun _=>rfl))) (zc (yN xc rfl rfl X.nn X.nnX)) zE)
   (z9 (zy (i:=2) scToldFate.nd rfl (Or.inl rfl) (pv 0))
   (z9 (xF PassesOwn.leaving rfl (jh (qi qX (pv 1) YL (jO (j5 xy zi)))) (yA (i:=3) scToldFate.nd rfl (Or.inl rfl))
    (zc (zy (i:=2) scToldFate.nd rfl (Or.inl rfl) (zC GW hr (by rfl) X.within.m X.within.F.kp X.within.b .nil yh (z6 (zC GF hr1 (by rfl) X.fateAt.m X.fateAt.F.kp X.fateAt.b .nil yh (z6 (pv 2) (z6 (pv 3) zb))) zb)))))
   (z9 (zy (i:=4) scToldFate.nd rfl (Or.inl rfl) (zC GF hr1 (by rfl) X.fateAt.m X.fateAt.F.kp X.fateAt.b .nil yh (z6 (pv 2) (z6 (zN zA (pv 1) (j5 xy zi) (fun _ _=>rfl)) zb))))
   (z9 (zy (i:=5) scToldFate.nd rfl (Or.inl rfl) (jL (jQ (zx ZL (pv 4) xB (zG _)) (qj (zV (ze (pv 4) rfl) (fun _=>rfl)))).pt zi zi))
   (zc (zn (zM (z6 (zC GK hr1 (by rfl) X.kind.m X.kind.F.kp X.kind.b .nil zk (z6 (pv 4) zb)) (z6 (pv 5) (z6 (zU zF (by rfl) X.nlen PySem.boot_len (z6 (zN zA (ze (pv 2) rfl) (zN zA (pv 1) (j5 xy zi) (fun _ _=>rfl)) (fun _ _=>rfl)) zb)) zb)))))))))),?_⟩
  refine⟨_,rfl,_,.inl ⟨_,SqL.of hpl,rfl⟩,?_⟩
  by_cases ln:l=[]
  ·subst ln
   exact zu (ke rfl H (zd.refl _))
  ·have lp:0<l.length:=List.length_pos_iff.mpr ln
   have em:(y8 l).isEmpty=false:=by
    cases l with
    | nil=>exact absurd rfl ln
    | cons a b=>rfl
   rw [em]
   refine zr ?_
   refine⟨_,rfl,_,rfl,_,rfl,_,rfl,pl,_,rfl,SqL.of hpl,fun sl hsl=>?_⟩
   rw [IP _ (by rw [xR];exact lp)]
   have s1:zd H (upd H sl (.lst ((y8 l).take ((y8 l).length - 1)))):=zd.new hsl
   have hsl1:upd H sl (.lst ((y8 l).take ((y8 l).length - 1))) sl=some (.lst ((y8 l).take ((y8 l).length - 1))):=z7
   generalize upd H sl (.lst ((y8 l).take ((y8 l).length - 1)))=H1 at s1 hsl1 ⊢
   refine⟨sl,rfl,⟨_,SqL.of hsl1⟩,jq (K:=K) (a:=sl) (xs:=(y8 l).take ((y8 l).length - 1))
    (fun i σ H'=>∃r h g v,σ=[some (.ref r0),some (.ref pl),some (.ref r),v,none,none]/\yu T.T.C R.R.C R.P.C H' r (S h g)/\nodes g<=2000/\qb l (S h0 g0)=qb (l.drop i) (S h g)/\zd H1 H')
    ⟨r0,h0,g0,none,rfl,R0.mono s1,nz,rfl,zd.refl _⟩ (fun i σ H' _ ⟨_,_,_,_,_,_,_,_,sm⟩=>SqL.of (sm _ _ hsl1)) ?_ ?_⟩
   ·rintro i x σ H' hi ⟨r,h,g,v,rfl,Rw,ng,eq,sm⟩
    have hlt:=(List.getElem?_eq_some_iff.mp hi).1
    rw [List.length_take,xR] at hlt
    have li:i<l.length:=by omega
    rw [List.getElem?_take_of_lt (by rw [xR];omega),VX (List.getElem?_eq_getElem li)] at hi
    cases hi
    have dr:l.drop i=l[i]::l.drop (i+1):=List.drop_eq_getElem_cons li
    have rne:l.drop (i+1)≠[]:=fun z=>by
     have:=congrArg List.length z
     rw [List.length_drop,List.length_nil] at this
     omega
    rw [dr,NO _ rne] at eq
    generalize l[i]=y at eq
    refine⟨_,rfl,_,rfl,r,y,S h g,rfl,Rw,fun z v' y0 hz fz=>?_,fun no H2 s2=>ke ?_ H2 ((s1.trans sm).trans s2)⟩
    ·rw [if_pos y0,hz] at eq
     dsimp only at eq
     refine⟨v',z.fate,rfl,fz,?_⟩
     rcases zbt h g .nil z (List.mem_of_getElem? hz) with eg | ⟨h',g',a1,a2,a3,a4,a5⟩
     ·refine .inl ⟨eg,fun H2 s2=>ke ?_ H2 ((s1.trans sm).trans s2)⟩
      rw [eq,eg]
      exact NC _
     ·have ne:=zX a2
      refine .inr ⟨h',g',a1,a2,a3,a4,by omega,fun H2 r2 R2 s2=>⟨r2,children h',children g',_,rfl,R2,by omega,?_,sm.trans s2⟩⟩
      rw [eq,a4,<-ZZ,Z8 a3]
    ·rw [eq]
     by_cases c:0<=y
     ·rw [if_pos c] at no
      rw [if_pos c,no]
     ·rw [if_neg c]
   ·rintro σ H2 ⟨r,h,g,v,rfl,Rw,ng,eq,sm⟩
    have el:=(List.dropLast_concat_getLast ln).symm
    generalize l.dropLast=li at el
    generalize l.getLast ln=y at el
    have hat:atI (y8 l) (-1)=some (.int y):=by
     rw [el]
     show atI ((li++[y]).map V.int) (-1)=_
     rw [List.map_append]
     exact J8 _ _
    have dl:l.drop (((y8 l).take ((y8 l).length - 1)).length)=[y]:=by
     rw [List.length_take,xR,el,List.length_append]
     show(li++[y]).drop (min (li.length+1 - 1) (li.length+1))=_
     rw [show min (li.length+1 - 1) (li.length+1)=li.length by omega,List.drop_left]
    rw [dl,OH] at eq
    have sA:=s1.trans sm
    have hpl2:=sA _ _ hpl
    refine⟨_,rfl,_,rfl,_,rfl,pl,_,_,_,rfl,rfl,SqL.of hpl2,hat,r,y,S h g,rfl,Rw,fun z v' y0 hz fz=>?_,fun no H3 s3=>ke (by rw [eq];exact no) H3 (sA.trans s3)⟩
    rw [if_pos y0,hz] at eq
    obtain⟨dr,c,P',F',ps,fs,r1,r2,r3,pa,fl,ft⟩:=Rw.open_
    have lz:y.toNat<(slots .nil (S h g)).1.length:=(List.getElem?_eq_some_iff.mp hz).1
    have hb:(yg (S h g))[y.toNat]? = some z.before:=by
     unfold yg
     rw [List.getElem?_append_left (by rw [List.length_map];exact lz),List.getElem?_map,hz]
     rfl
    obtain⟨pq0,ts,e1,e2,e3⟩:=pa.get hb
    have tl:=e3.len
    have ey:((y.toNat:Nat):Int)=y:=by omega
    have hat2:atI ps y=some (.ref pq0):=by rw [<-ey];exact zp e1
    obtain⟨ro,fv,_⟩:=id fz
    rcases fv with ⟨eg,rfl⟩ | ⟨ngo,pq,dq,t,rfl,g1,f,qq⟩
    ·have rn:renewed z.fate=false:=by rw [eg];rfl
     refine⟨_,rfl,rfl,_,rfl,zr (zr ?_)⟩
     refine⟨_,rfl,_,z.fate,rfl,fz,_,rfl,_,rfl,r,R.R.C,dr,_,_,rfl,r1,R.R.c,R.R.n,rfl,_,rfl,_,rfl,pl,_,_,_,rfl,rfl,SqL.of hpl2,hat,P',ps,_,_,rfl,rfl,SqL.of r2,hat2,pq0,ts,rfl,.inl (SqL.of e2),(by show 3<=sizeLine;decide),fun q hq=>?_⟩
     refine k z eq _ q ?_ (sA.trans (zd.new hq))
     rw [z7,tl,rn]
     rfl
    ·refine⟨_,rfl,rfl,_,rfl,zu ?_⟩
     refine⟨_,rfl,pq,R.P.C,dq,_,_,rfl,g1,R.P.c,R.P.n,rfl,_,rfl,?_⟩
     cases rn:renewed z.fate with
     | true=>
      refine zu ?_
      refine⟨_,rfl,_,z.fate,rfl,fz,_,rfl,_,rfl,r,R.R.C,dr,_,_,rfl,r1,R.R.c,R.R.n,rfl,_,rfl,_,rfl,pl,_,_,_,rfl,rfl,SqL.of hpl2,hat,P',ps,_,_,rfl,rfl,SqL.of r2,hat2,pq0,ts,rfl,.inl (SqL.of e2),(by show 3<=sizeLine;decide),fun q hq=>?_⟩
      refine k z eq _ q ?_ (sA.trans (zd.new hq))
      rw [z7,tl,rn]
      rfl
     | false=>
      refine zr ?_
      refine⟨_,rfl,_,z.fate,rfl,fz,_,rfl,_,rfl,r,R.R.C,dr,_,_,rfl,r1,R.R.c,R.R.n,rfl,_,rfl,_,rfl,pl,_,_,_,rfl,rfl,SqL.of hpl2,hat,P',ps,_,_,rfl,rfl,SqL.of r2,hat2,pq0,ts,rfl,.inl (SqL.of e2),(by show 3<=sizeLine;decide),fun q hq=>?_⟩
      refine k z eq _ q ?_ (sA.trans (zd.new hq))
      rw [z7,tl,rn]
      rfl
end
end Hm
end
section
namespace Hm
open PySem PySem.Spec PyProof.Rows L2
open Vaheda (Hedge nodes append width deep children saying dropTrees Path readText form)
open Vahedn (Conflict State Call does)
abbrev sCBase:Stmt:=top 84
abbrev sCVer:Stmt:=top 85
abbrev sCForm:Stmt:=top 86
abbrev sCMerge:Stmt:=top 87
abbrev sCConf:Stmt:=top 88
abbrev sCDid:Stmt:=top 89
abbrev sCFate:Stmt:=top 90
abbrev sCDist:Stmt:=top 91
abbrev sCTake:Stmt:=top 92
abbrev sCSettle:Stmt:=top 93
structure j0 (K:PySem.W.Frag) (mg:Str->Option Value):Type where
 base:Df K mg "call_base" sCBase ["trio","cursor"]
 ver:Df K mg "call_version" sCVer ["trio","cursor"]
 form:Df K mg "call_form" sCForm ["trio","cursor"]
 merge:Df K mg "call_merge" sCMerge ["trio","cursor"]
 conf:Df K mg "call_conflicts" sCConf ["trio","cursor"]
 did:Df K mg "call_did" sCDid ["trio","cursor"]
 fate:Df K mg "call_fate" sCFate ["trio","cursor"]
 dist:Df K mg "call_distances" sCDist ["trio","cursor"]
 take:Df K mg "call_take" sCTake ["trio","cursor"]
 settle:Df K mg "call_settle" sCSettle ["trio","cursor"]
structure Ad where
 tree:Addr
 trio:Addr
 row:Addr
 pair:Addr
 cur:Addr
 nh:Addr
 nv:Addr
 nn:Addr
 tm:Addr
structure x4 (K:PySem.W.Frag) (A:Ad) (H:Hp) (t cu cl:Addr) (M M0:List Addr) (L:List Int) (st:State) (i:Nat):Prop where
 trio:y3 A.tree A.trio A.row A.pair H t M M0 st
 cur:∃dx,H cu=some (.ins A.cur dx (cf cl i))
 cM:cu∈M0
 calls:xE K H cl L
section
variable {K:PySem.W.Frag} {A:Ad} {H H':Hp} {t cu cl:Addr} {M M' M0:List Addr} {L:List Int} {st st':State} {i i':Nat}
theorem y3.nofrz {C CT CR CP:Addr} (B:y3 C CT CR CP H t M M0 st):∀x∈M,∀o u,H x≠some (.frz o u):=by
 obtain⟨dx,hl,sl,l0,l1,l2,kvs,rfl,nd,n0,ht,hh,hs,_⟩:=B.ex
 intro x m o u z
 simp only [List.mem_cons,List.not_mem_nil,or_false] at m
 rcases m with m | m | m
 ·rw [m,ht] at z;cases z
 ·rw [m,hh] at z;cases z
 ·rw [m,hs] at z;cases z
theorem y3.out0 {C CT CR CP:Addr} (B:y3 C CT CR CP H t M M0 st):∀x∈M,x∉M0:=by
 obtain⟨dx,hl,sl,l0,l1,l2,kvs,rfl,nd,n0,_⟩:=B.ex
 exact n0
theorem x4.curs (D:x4 K A H t cu cl M M0 L st i) (b:But [cu] H H') {dx:Addr} (h:H' cu=some (.ins A.cur dx (cf cl i'))):x4 K A H' t cu cl M M0 L st i':=by
 obtain⟨B,⟨dx0,hc⟩,cM,ca⟩:=D
 refine⟨B.but (N:=[cu]) (fun x m=>by rw [List.mem_singleton.mp m];exact cM) b (fun x m=>by rw [List.mem_singleton.mp m,h];intro z;cases z),⟨dx,h⟩,cM,ca.but b fun x m o u z=>?_⟩
 rw [List.mem_singleton.mp m,hc] at z;cases z
theorem x4.same (D:x4 K A H t cu cl M M0 L st i) (s:zd H H'):x4 K A H' t cu cl M M0 L st i:=by
 obtain⟨B,⟨dx0,hc⟩,cM,ca⟩:=D
 exact⟨B.same s,⟨dx0,s _ _ hc⟩,cM,ca.but (M:=[]) (But.of s) fun x m=>(by cases m)⟩
theorem x4.trios (D:x4 K A H t cu cl M M0 L st i) (b:But M H H') (B':y3 A.tree A.trio A.row A.pair H' t M' M0 st'):x4 K A H' t cu cl M' M0 L st' i:=by
 obtain⟨B,⟨dx0,hc⟩,cM,ca⟩:=D
 exact⟨B',⟨dx0,b _ _ hc (fun z=>B.out0 cu z cM)⟩,cM,ca.but b B.nofrz⟩
end
def qd (l:List Nat):List V:=l.map fun n=>V.int (n:Nat)
def codeOf (A:Ad) (n:Nat):Addr:=if n=1 then A.nh else if n=2 then A.nv else if n=4 then A.nn else A.tm
def jA (K:PySem.W.Frag) (A:Ad) (ok:Call->List Int->Nat->Nat->Prop):Sp:=fun vs H Q E=>∃(t cu cl:Addr) (M M0:List Addr) (L:List Int) (st:State) (i i':Nat) (c:Call),vs=[.ref t,.ref cu]/\x4 K A H t cu cl M M0 L st i/\ok c L i i'/\L.length<=16000 /\
 (∀st' ans,does st c=.ok (st',ans)->ans.length<=1000000->∀H' M' l,x4 K A H' t cu cl M' M0 L st' i'->(∀b∈M',b∈M\/H b=none)->But (cu::M) H H'->H' l=some (.lst (qd ans))->Q (.ref l) H') /\
 (∀n,does st c=.error n->(n=1\/n=2\/n=4\/n=5)->∀H' M',x4 K A H' t cu cl M' M0 L st i'->(∀b∈M',b∈M\/H b=none)->But (cu::M) H H'->E (.ref (codeOf A n)) none H')
theorem UQ {r:List Int} {t:zl} (h:VahednNeutral.text? r=some t):y8 r=wds t/\r.length=t.length:=by
 unfold VahednNeutral.text? at h
 split at h
 ·rename_i b
  cases h
  refine⟨?_,by rw [List.length_map]⟩
  unfold y8 wds
  rw [List.map_map]
  apply List.map_congr_left
  intro x hx
  have q:=List.all_eq_true.mp b x hx
  rw [Bool.and_eq_true,decide_eq_true_eq,decide_eq_true_eq] at q
  show V.int x=V.int ((UInt8.ofNat x.toNat).toNat:Nat)
  rw [UInt8.toNat_ofNat']
  have:x.toNat % 2 ^ 8=x.toNat:=Nat.mod_eq_of_lt (by omega)
  rw [this]
  congr 1
  omega
 ·cases h
theorem UX (t:zl):(V.int (t.length:Nat)::wds t:List V)=qd (Vahedn.toldText t):=by
 unfold qd Vahedn.toldText wds
 rw [List.map_cons,List.map_map]
 rfl
theorem isV (w:Int):Vahedn.isVersion w=decide (w=1\/w=2):=by
 unfold Vahedn.isVersion
 by_cases a:w=1
 ·subst a;rfl
 ·by_cases b:w=2
  ·subst b;rfl
  ·rw [decide_eq_false (fun z=>z.elim a b),beq_eq_false_iff_ne.mpr a,beq_eq_false_iff_ne.mpr b];rfl
section
variable {P:Program} {w:World} {K:PySem.W.Frag} {mg:Str->Option Value} {base:Heap}
abbrev J1 (S:yf K mg) (E:yY K mg) (T:zw K mg) (R:zB K mg) (X:yH K mg) (C:xk K mg) (Dd:yy K mg):Ad:={tree:=T.T.C,trio:=X.T.C,row:=R.R.C,pair:=R.P.C,cur:=C.C.C,nh:=S.NoHedge,nv:=E.NoVersion,nn:=Dd.NoNode,tm:=E.TooMany}
theorem scCBase:zh ["trio","cursor"] ["trio","cursor"] (zg sCBase):=⟨rfl,rfl,rfl,by decide +kernel,rfl,by decide +kernel,by decide +kernel⟩
theorem scCVer:zh ["trio","cursor","version","text"] ["trio","cursor"] (zg sCVer):=⟨rfl,rfl,rfl,by decide +kernel,rfl,by decide +kernel,by decide +kernel⟩
theorem scCForm:zh ["trio","cursor","which"] ["trio","cursor"] (zg sCForm):=⟨rfl,rfl,rfl,by decide +kernel,rfl,by decide +kernel,by decide +kernel⟩
theorem scCMerge:zh ["trio","cursor","version","outcome"] ["trio","cursor"] (zg sCMerge):=⟨rfl,rfl,rfl,by decide +kernel,rfl,by decide +kernel,by decide +kernel⟩
theorem scCConf:zh ["trio","cursor","conflicts","answer","conflict"] ["trio","cursor"] (zg sCConf):=⟨rfl,rfl,rfl,by decide +kernel,rfl,by decide +kernel,by decide +kernel⟩
theorem scCDid:zh ["trio","cursor","version","tally"] ["trio","cursor"] (zg sCDid):=⟨rfl,rfl,rfl,by decide +kernel,rfl,by decide +kernel,by decide +kernel⟩
theorem scCFate:zh ["trio","cursor","version","path"] ["trio","cursor"] (zg sCFate):=⟨rfl,rfl,rfl,by decide +kernel,rfl,by decide +kernel,by decide +kernel⟩
theorem scCDist:zh ["trio","cursor"] ["trio","cursor"] (zg sCDist):=⟨rfl,rfl,rfl,by decide +kernel,rfl,by decide +kernel,by decide +kernel⟩
theorem scCTake:zh ["trio","cursor","taker","version"] ["trio","cursor"] (zg sCTake):=⟨rfl,rfl,rfl,by decide +kernel,rfl,by decide +kernel,by decide +kernel⟩
theorem scCSettle:zh ["trio","cursor","version"] ["trio","cursor"] (zg sCSettle):=⟨rfl,rfl,rfl,by decide +kernel,rfl,by decide +kernel,by decide +kernel⟩
theorem IJ (Z:j0 K mg) (Dd:yy K mg) (C:xk K mg) (X:yH K mg) (E':yY K mg) (R:zB K mg) (B:jD K mg) (S:yf K mg) (W:y9 K mg) (T:zw K mg):zj P w K mg base (CXE P w) 8 Z.base.f Z.base.fd ["trio","cursor"] (jA K (J1 S E' T R X C Dd) okBase):=by
 have GA:=Nm (P:=P) (w:=w) (base:=base) X R T
 have GH:=UU (P:=P) (w:=w) (base:=base) E' B S W T
 have GR:=YY (P:=P) (w:=w) (base:=base) C
 refine Z.base.F.okx scCBase (fun vs H Q E h=>?_) (fun cdv A outer s H vs Q E hr h=>?_)
 ·obtain⟨_,_,_,_,_,_,_,_,_,_,rfl,_⟩:=h
  rfl
 ·obtain⟨t,cu,cl,M,M0,L,st,i,i',c,rfl,D,⟨n,tx,hn,le,htx,rfl,rfl⟩,lz,k,ke⟩:=h
  have hr2:zJ 2 _:=hr.mono (by decide)
  have hz:sizeLine=16777216:=sizeLine_eq
  refine⟨_,zc (zn (zM (z6 (zT (pv 0) X.T.c X.all.m GA hr2 X.all.b .nil zk (z6 (zC GH hr (by rfl) E'.held.m E'.held.F.kp E'.held.b .nil yh (z6 (zS (pv 1) C.C.c C.row.m GR hr2 C.row.b .nil zk) zb)) zb)) zb))),?_⟩
  obtain⟨dx,hA,sA,l0,l1,l2,kvs,eM,nd,n0,ht,_⟩:=D.trio.ex
  obtain⟨dc,hc⟩:=D.cur
  obtain⟨tw,tl⟩:=UQ htx
  have ll:((L.drop (i+1)).take n).length<=L.length:=by rw [List.length_take,List.length_drop];omega
  refine⟨_,rfl,t,dx,_,rfl,ht,rfl,_,rfl,cu,dc,_,rfl,hc,rfl,cu,dc,cl,L,i,n,rfl,hc,D.calls,hn,le,fun H1 r hr0 hr1 hc1 b1=>?_⟩
  rw [tw] at hr1
  have D1:=D.curs b1 hc1
  have bX:∀{H':Hp},But [cu] H H'->But (cu::M) H H':=fun b=>b.mono (by simp)
  refine⟨r,tx,M++M0,rfl,hr1,by omega,D1.trio.live,?_,?_,?_⟩
  ·intro h rh nz aw dp H2 l ts hl hl2 f2 s2
   have D2:=D1.same s2
   have lM:l∉M++M0:=fun z=>D1.trio.live l z hl
   have hdE:does st (.base tx)=.ok ({base:=h,one:=h,two:=h},[nodes h]):=by
    show(Vahedn.theHedge tx).map _=_
    unfold Vahedn.theHedge
    rw [rh]
    show(Vahedn.after (decide (nodes h<=200)) 5 (.ok h)).map _=_
    rw [decide_eq_true nz]
    rfl
   refine⟨t,l,M,M0,st,h,rfl,D2.trio,⟨ts,zt lM hl2,f2⟩,⟨aw,dp,nz⟩,fun H3 M3 B3 m3 b3=>⟨(by show 1<=sizeLine;decide),fun q hq=>?_⟩⟩
   have D3:=D2.trios b3 B3
   have s4:zd H3 (upd H3 q (.lst [.int (nodes h:Nat)])):=zd.new hq
   refine k _ _ hdE (by show 1<=1000000;omega) _ M3 q (D3.same s4) (fun b m=>?_) ?_ z7
   ·rcases m3 b m with z | z
    ·exact .inl z
    ·exact .inr ((b1.none (by simp [hc1]) (s2.free z)))
   ·exact(((bX b1).trans (But.of s2)).trans (b3.mono (fun b m=>List.mem_cons_of_mem _ m))).trans (But.of s4)
  ·intro h rh nz H2 s2
   refine ke 5 ?_ (.inr (.inr (.inr rfl))) H2 M (D1.same s2) (fun b m=>.inl m) ((bX b1).trans (But.of s2))
   show(Vahedn.theHedge tx).map _=_
   unfold Vahedn.theHedge
   rw [rh]
   show(Vahedn.after (decide (nodes h<=200)) 5 (.ok h)).map _=_
   rw [decide_eq_false nz]
   rfl
  ·intro e rh H2 s2
   refine ke 1 ?_ (.inl rfl) H2 M (D1.same s2) (fun b m=>.inl m) ((bX b1).trans (But.of s2))
   show(Vahedn.theHedge tx).map _=_
   unfold Vahedn.theHedge
   rw [rh]
   rfl
end
end Hm
end
section
namespace Hm
open PySem PySem.Spec PyProof.Rows L2
open Vaheda (Hedge nodes append width deep children saying dropTrees Path readText form)
open Vahedn (Conflict State Call does)
theorem jj {A:Type} {b:Bool} {n:Nat} {x:Except Nat A} (h:b=true):Vahedn.after b n x=x:=by unfold Vahedn.after;rw [if_pos h]
theorem jx {A:Type} {b:Bool} {n:Nat} {x:Except Nat A} (h:b=false):Vahedn.after b n x=.error n:=by unfold Vahedn.after;rw [if_neg (by rw [h];decide)]
theorem za3 {t:zl} {h:Hedge} (r:readText t=.ok h) (n:nodes h<=200):Vahedn.theHedge t=.ok h:=by
 unfold Vahedn.theHedge
 rw [r]
 exact jj (decide_eq_true n)
theorem zbq {t:zl} {h:Hedge} (r:readText t=.ok h) (n:¬nodes h<=200):Vahedn.theHedge t=.error 5:=by
 unfold Vahedn.theHedge
 rw [r]
 exact jx (decide_eq_false n)
theorem zbl {t:zl} {e} (r:readText t=.error e):Vahedn.theHedge t=.error 1:=by
 unfold Vahedn.theHedge
 rw [r]
theorem Uq (l:List Nat):(qd l).length=l.length:=by unfold qd;rw [List.length_map]
theorem jX {st:State} (f:qQ st) {w:Int} (hw:w=1\/w=2):yi Wok (Vahedn.outcome st w).hedge/\deep (Vahedn.outcome st w).hedge<=40/\nodes (Vahedn.outcome st w).hedge<=400/\(Vahedn.outcome st w).conflicts.length<=601:=by
 rw [qT w hw]
 have f1:=jr f w
 have f2:=jr f (3 - w)
 have a:=Uh (P:=Wok) (deep st.base+1) [] 40 (S st.base (yz st w)) (S st.base (yz st (3 - w))) (by rw [xh];exact⟨f1.1,f1.2.1⟩) (by rw [xh];exact⟨f2.1,f2.2.1⟩)
 have b:=Jk (deep st.base+1) [] (S st.base (yz st w)) (S st.base (yz st (3 - w)))
 have c:=Za (deep st.base+1) [] st.base (S st.base (yz st w)) (S st.base (yz st (3 - w))) (JL _ _) (JL _ _)
 rw [xh,xh] at b
 have g1:=f1.2.2
 have g2:=f2.2.2
 have g3:=f.b.2.2
 exact⟨a.1,a.2,by omega,by omega⟩
section
variable {P:Program} {w:World} {K:PySem.W.Frag} {mg:Str->Option Value} {base:Heap}
theorem zb8 (Z:j0 K mg) (Dd:yy K mg) (C:xk K mg) (X:yH K mg) (E':yY K mg) (R:zB K mg) (B:jD K mg) (S:yf K mg) (W:y9 K mg) (T:zw K mg):zj P w K mg base (CXE P w) 125 Z.ver.f Z.ver.fd ["trio","cursor"] (jA K (J1 S E' T R X C Dd) okVer):=by
 have GV:=N8 (P:=P) (w:=w) (base:=base) X R T
 have GH:=UU (P:=P) (w:=w) (base:=base) E' B S W T
 have GC:=jn (P:=P) (w:=w) (base:=base) E'
 have GN:=jc (P:=P) (w:=w) (base:=base) C
 have GR:=YY (P:=P) (w:=w) (base:=base) C
 refine Z.ver.F.okx scCVer (fun vs H Q E h=>?_) (fun cdv A outer s H vs Q E hr h=>?_)
 ·obtain⟨_,_,_,_,_,_,_,_,_,_,rfl,_⟩:=h
  rfl
 ·obtain⟨t,cu,cl,M,M0,L,st,i,i',c,rfl,D,⟨n0,n,tx,hn0,hn,le,htx,rfl,rfl⟩,lz,k,ke⟩:=h
  have hr1:zJ 1 _:=hr.mono (by decide)
  have hr2:zJ 2 _:=hr.mono (by decide)
  have hr7:zJ 7 _:=hr.mono (by decide)
  have hz:sizeLine=16777216:=sizeLine_eq
  refine⟨_,z9 (zy (i:=2) scCVer.nd rfl (Or.inl rfl) (zS (pv 1) C.C.c C.num.m GN hr1 C.num.b .nil zk))
   (z9 (zy (i:=3) scCVer.nd rfl (Or.inl rfl) (zS (pv 1) C.C.c C.row.m GR hr2 C.row.b .nil zk))
   (z9 (zz (zC GC hr1 (by rfl) E'.checkV.m E'.checkV.F.kp E'.checkV.b .nil yh (z6 (pv 2) zb)))
   (zc (zn (zM (z6 (zT (pv 0) X.T.c X.ver.m GV hr X.ver.b .nil zk (z6 (pv 2) (z6 (zC GH hr7 (by rfl) E'.held.m E'.held.F.kp E'.held.b .nil yh (z6 (pv 3) zb)) zb))) zb)))))),?_⟩
  obtain⟨dc,hc⟩:=D.cur
  obtain⟨tw,tl⟩:=UQ htx
  have ll:((L.drop (i+2)).take n).length<=L.length:=by rw [List.length_take,List.length_drop];omega
  refine⟨_,rfl,cu,dc,_,rfl,hc,rfl,cu,dc,cl,L,i,n0,rfl,hc,D.calls,hn0,fun H1 hc1 b1=>?_⟩
  have D1:=D.curs b1 hc1
  refine⟨_,rfl,cu,dc,_,rfl,hc1,rfl,cu,dc,cl,L,i+1,n,rfl,hc1,D1.calls,hn,by omega,fun H2 r hr0 hr2' hc2 b2=>?_⟩
  rw [show i+1+1=i+2 from rfl,tw] at hr2'
  rw [show i+1+1+n=i+2+n from rfl] at hc2
  have D2:=D1.curs b2 hc2
  have bX:But (cu::M) H H2:=(b1.trans b2).mono (by simp)
  have nX:∀{b:Addr},H2 b=none->H b=none:=fun {b} z=>(b1.trans b2).none (by simp [hc2]) z
  refine⟨_,rfl,n0,rfl,fun cv H3 s3=>?_,fun cv H3 s3=>?_⟩
  ·have D3:=D2.same s3
   obtain⟨dx,hA,sA,l0,l1,l2,kvs,eM,nd,nn0,ht,_⟩:=D3.trio.ex
   have iv:Vahedn.isVersion n0=true:=by rw [isV];exact decide_eq_true cv
   have dE:does st (.version n0 tx)=(Vahedn.theHedge tx).map fun h=>(if n0=1 then {st with one:=h} else {st with two:=h},[nodes h]):=jj iv
   refine⟨_,rfl,t,dx,_,rfl,ht,rfl,_,rfl,_,rfl,r,tx,M++M0,rfl,s3 _ _ hr2',by omega,D3.trio.live,?_,?_,?_⟩
   ·intro h rh nz aw dp H4 l ts hl hl4 f4 s4
    have D4:=D3.same s4
    have lM:l∉M++M0:=fun z=>D3.trio.live l z hl
    refine⟨t,l,n0,M,M0,st,h,rfl,cv,D4.trio,⟨ts,zt lM hl4,f4⟩,⟨aw,dp,nz⟩,fun H5 M5 B5 mm b5=>⟨(by show 1<=sizeLine;decide),fun q hq=>?_⟩⟩
    have D5:=D4.trios b5 B5
    have s6:zd H5 (upd H5 q (.lst [.int (nodes h:Nat)])):=zd.new hq
    refine k _ _ (by rw [dE,za3 rh nz];rfl) (by show 1<=1000000;omega) _ M5 q (D5.same s6) (fun b m=>?_) ?_ z7
    ·rcases mm b m with z | z
     ·exact .inl z
     ·exact .inr (nX (s3.free (s4.free z)))
    exact(((bX.trans (But.of s3)).trans (But.of s4)).trans (b5.mono (fun b m=>List.mem_cons_of_mem _ m))).trans (But.of s6)
   ·intro h rh nz H4 s4
    exact ke 5 (by rw [dE,zbq rh nz];rfl) (.inr (.inr (.inr rfl))) H4 M (D3.same s4) (fun b m=>.inl m) ((bX.trans (But.of s3)).trans (But.of s4))
   ·intro e rh H4 s4
    exact ke 1 (by rw [dE,zbl rh];rfl) (.inl rfl) H4 M (D3.same s4) (fun b m=>.inl m) ((bX.trans (But.of s3)).trans (But.of s4))
  ·refine ke 2 (jx (by rw [isV];exact decide_eq_false cv)) (.inr (.inl rfl)) H3 M (D2.same s3) (fun b m=>.inl m) (bX.trans (But.of s3))
theorem II {C CT CR CP:Addr} {H:Hp} {t:Addr} {M M0:List Addr} {st:State} (B:y3 C CT CR CP H t M M0 st) {u:Int} (hu:u=0\/u=1\/u=2):∃(dx hl sl l:Addr) (ls:List V) (j:Nat),H t=some (.ins CT dx (tfl hl sl))/\H hl=some (.lst ls)/\u=(j:Int)/\ls[j]? = some (.ref l)/\yQ C (hid (M++M0) H) l (if u=0 then st.base else Vahedn.versionOf st u):=by
 obtain⟨dx,hl,sl,l0,l1,l2,kvs,rfl,nd,n0,ht,hh,hs,a0,a1,a2,sc⟩:=B.ex
 rcases hu with rfl | rfl | rfl
 ·exact⟨dx,hl,sl,l0,_,0,ht,hh,rfl,rfl,a0⟩
 ·exact⟨dx,hl,sl,l1,_,1,ht,hh,rfl,rfl,a1⟩
 ·exact⟨dx,hl,sl,l2,_,2,ht,hh,rfl,rfl,a2⟩
theorem zbp {st:State} (f:qQ st) {u:Int}:qS (if u=0 then st.base else Vahedn.versionOf st u):=by
 split
 ·exact f.b
 ·unfold Vahedn.versionOf
  split
  ·exact f.one
  ·exact f.two
theorem Iz (Z:j0 K mg) (Dd:yy K mg) (C:xk K mg) (X:yH K mg) (E':yY K mg) (R:zB K mg) (S:yf K mg) (W:y9 K mg) (T:zw K mg):zj P w K mg base (CXE P w) 85 Z.form.f Z.form.fd ["trio","cursor"] (jA K (J1 S E' T R X C Dd) okForm):=by
 have GF:=No (P:=P) (w:=w) (base:=base) W T 40
 have GC:=jn (P:=P) (w:=w) (base:=base) E'
 have GN:=jc (P:=P) (w:=w) (base:=base) C
 have GK:=qP (P:=P) (w:=w) (base:=base) C
 refine Z.form.F.okx scCForm (fun vs H Q E h=>?_) (fun cdv A outer s H vs Q E hr h=>?_)
 ·obtain⟨_,_,_,_,_,_,_,_,_,_,rfl,_⟩:=h
  rfl
 ·obtain⟨t,cu,cl,M,M0,L,st,i,i',c,rfl,D,⟨u,hu,rfl,rfl⟩,lz,k,ke⟩:=h
  have hr1:zJ 1 _:=hr.mono (by decide)
  refine⟨_,z9 (zy (i:=2) scCForm.nd rfl (Or.inl rfl) (zS (pv 1) C.C.c C.num.m GN hr1 C.num.b .nil zk))
   (z9 (zR (zx YG (pv 2) zi (zG _)) (zc (zz (zC GC hr1 (by rfl) E'.checkV.m E'.checkV.F.kp E'.checkV.b .nil yh (z6 (pv 2) zb)))) zE)
   (zc (zn (zC GK hr1 (by rfl) C.counted.m C.counted.F.kp C.counted.b .nil zk (z6 (zC GF hr (by rfl) W.form.m W.form.F.kp W.form.b .nil zk (z6 (zN zA (ze (pv 0) rfl) (pv 2) (fun _ _=>rfl)) zb)) zb))))),?_⟩
  obtain⟨dc,hc⟩:=D.cur
  refine⟨_,rfl,cu,dc,_,rfl,hc,rfl,cu,dc,cl,L,i,u,rfl,hc,D.calls,hu,fun H1 hc1 b1=>?_⟩
  have D1:=D.curs b1 hc1
  have bX:But (cu::M) H H1:=b1.mono (by simp)
  have fin:(u=0\/u=1\/u=2)->∀H2,zd H1 H2->tRet (tCall spCounted [] E0 (jy (tCall (spForm T.T.C 40) [] E0 (jy (tOp (rIxL K) (Z2 K (js 0) "hedges") (js 2)) JM)) JM)) {nx:=fun _ H'=>Q .non H',rt:=Q} [some (.ref t),some (.ref cu),some (.int u)] H2:=by
   intro hu2 H2 s2
   have D2:=D1.same s2
   obtain⟨dx,hl,sl,l,ls,j,ht,hh,ej,gj,ts,hl2,f2⟩:=II D2.trio hu2
   have fh:=zbp (u:=u) D2.trio.fine
   have fl:=qk fh.1
   have g:=fh.2.2
   refine⟨_,rfl,t,X.T.C,dx,_,_,rfl,ht,X.T.c,X.T.n,rfl,_,rfl,hl,ls,_,_,rfl,rfl,SqL.of hh,by rw [ej];exact zp gj,l,_,ts,rfl,(zf hl2).2,f2.mono (yn _ _),fh.1,fh.2.1,by omega,fun H3 q hq hq3 s3=>?_⟩
   refine⟨q,_,rfl,hq3,by rw [ye];omega,fun H4 r hr0 hr4 s4=>?_⟩
   refine k st _ (jj ?_) ?_ H4 M r ((D2.same s3).same s4) (fun b m=>.inl m) (((bX.trans (But.of s2)).trans (But.of s3)).trans (But.of s4)) ?_
   ·rcases hu2 with rfl | rfl | rfl <;> rfl
   ·unfold Vahedn.toldText
    rw [List.length_cons,List.length_map]
    omega
   ·rw [hr4,ye]
    exact congrArg (fun z=>some (HO.lst z)) (UX _)
  refine⟨_,rfl,rfl,_,rfl,?_⟩
  by_cases c0:u=0
  ·rw [decide_eq_true (show V.int u=V.int 0 by rw [c0])]
   exact zr (fin (.inl c0) H1 (zd.refl _))
  ·rw [decide_eq_false (show ¬V.int u=V.int 0 from fun z=>c0 (V.int.inj z))]
   refine zu ⟨_,rfl,u,rfl,fun cv H2 s2=>fin (.inr cv) H2 s2,fun cv H2 s2=>?_⟩
   refine ke 2 (jx ?_) (.inr (.inl rfl)) H2 M (D1.same s2) (fun b m=>.inl m) (bX.trans (But.of s2))
   rw [isV,decide_eq_false cv,beq_eq_false_iff_ne.mpr c0]
   rfl
end
end Hm
end
section
namespace Hm
open PySem PySem.Spec PyProof.Rows L2
open Vaheda (Hedge nodes append width deep children saying dropTrees Path readText form)
open Vahedn (Conflict State Call does)
def ju (c:Conflict):List Nat:=c.kind::Vahedn.toldPath c.path
theorem V4:∀(cs:List Conflict),yw 41 cs->(cs.flatMap ju).length<=43*cs.length
 | [],_=>Nat.zero_le _
 | c::cs,h=>by
  have:=V4 cs fun x m=>h x (List.mem_cons_of_mem _ m)
  have q:=h c (List.mem_cons_self ..)
  rw [List.flatMap_cons,List.length_append,List.length_cons]
  have e:(ju c).length=2+c.path.length:=by
   unfold ju Vahedn.toldPath
   rw [List.length_cons,List.length_cons];omega
  omega
theorem je.get {G:Hp} {vs:List V} {cs:List Conflict} (A:je G vs cs):∀{i:Nat} {v:V},vs[i]? = some v->∃a pl c,v=.ref a/\cs[i]? = some c/\G a=some (.tup [.int (c.kind:Nat),.ref pl])/\G pl=some (.lst (x9 c.path)):=by
 induction A with
 | nil=>intro i v e;simp at e
 | @cons a pl c r cs h1 h2 _ ih=>
  intro i v e
  cases i with
  | zero=>exact⟨a,pl,c,(Option.some.inj e).symm,rfl,h1,h2⟩
  | succ i=>exact ih e
theorem ZS {cs:List Conflict} {i:Nat} {c:Conflict} (h:cs[i]? = some c):(cs.take (i+1)).flatMap ju=(cs.take i).flatMap ju++ju c:=by
 rw [xK h,List.flatMap_append]
 simp
theorem zad (a b:List Nat):qd (a++b)=qd a++qd b:=by unfold qd;rw [List.map_append]
theorem Vu {st:State} (f:qQ st) {w:Int} (hw:w=1\/w=2):yw 41 (Vahedn.outcome st w).conflicts:=by
 rw [qT w hw]
 have:=Vj (deep st.base+1) [] st.base (S st.base (yz st w)) (S st.base (yz st (3 - w))) (JL _ _) (JL _ _)
 intro c m
 have q:=this c m
 have g:=f.b.2.1
 have q:c.path.length<=0+(deep st.base+1):=q
 omega
section
variable {P:Program} {w:World} {K:PySem.W.Frag} {mg:Str->Option Value} {base:Heap}
theorem Ic (Z:j0 K mg) (Dd:yy K mg) (C:xk K mg) (X:yH K mg) (E':yY K mg) (O:jd K mg) (N:ym K mg) (R:zB K mg) (S:yf K mg) (W:y9 K mg) (T:zw K mg):zj P w K mg base (CXE P w) 171 Z.merge.f Z.merge.fd ["trio","cursor"] (jA K (J1 S E' T R X C Dd) okMerge):=by
 have GO:=ZP (P:=P) (w:=w) (base:=base) X O N R T W
 have GF:=No (P:=P) (w:=w) (base:=base) W T 40
 have GC:=jn (P:=P) (w:=w) (base:=base) E'
 have GN:=jc (P:=P) (w:=w) (base:=base) C
 have GK:=qP (P:=P) (w:=w) (base:=base) C
 refine Z.merge.F.okx scCMerge (fun vs H Q E h=>?_) (fun cdv A outer s H vs Q E hr h=>?_)
 ·obtain⟨_,_,_,_,_,_,_,_,_,_,rfl,_⟩:=h
  rfl
 ·obtain⟨t,cu,cl,M,M0,L,st,i,i',c,rfl,D,⟨u,hu,rfl,rfl⟩,lz,k,ke⟩:=h
  have hr1:zJ 1 _:=hr.mono (by decide)
  have hrF:zJ 84 _:=hr.mono (by decide)
  have hz:sizeLine=16777216:=sizeLine_eq
  refine⟨_,z9 (zy (i:=2) scCMerge.nd rfl (Or.inl rfl) (zS (pv 1) C.C.c C.num.m GN hr1 C.num.b .nil zk))
   (z9 (zz (zC GC hr1 (by rfl) E'.checkV.m E'.checkV.F.kp E'.checkV.b .nil yh (z6 (pv 2) zb)))
   (z9 (zy (i:=3) scCMerge.nd rfl (Or.inl rfl) (zT (pv 0) X.T.c X.out.m GO hr X.out.b .nil zk (z6 (pv 2) zb)))
   (zc (zn (yb Zi (zM (z6 (zU zF (by rfl) C.nlen PySem.boot_len (z6 (ze (pv 3) rfl) zb)) zb))
    (zC GK hr1 (by rfl) C.counted.m C.counted.F.kp C.counted.b .nil zk (z6 (zC GF hrF (by rfl) W.form.m W.form.F.kp W.form.b .nil zk (z6 (ze (pv 3) rfl) zb)) zb))))))),?_⟩
  obtain⟨dc,hc⟩:=D.cur
  refine⟨_,rfl,cu,dc,_,rfl,hc,rfl,cu,dc,cl,L,i,u,rfl,hc,D.calls,hu,fun H1 hc1 b1=>?_⟩
  have D1:=D.curs b1 hc1
  have bX:But (cu::M) H H1:=b1.mono (by simp)
  refine⟨_,rfl,u,rfl,fun cv H2 s2=>?_,fun cv H2 s2=>?_⟩
  ·have D2:=D1.same s2
   obtain⟨dx,hA,sA,l0,l1,l2,kvs,eM,nd,nn0,ht,_⟩:=D2.trio.ex
   refine⟨_,rfl,t,dx,_,rfl,ht,rfl,_,rfl,t,u,M,M0,st,rfl,cv,D2.trio,fun H3 p B3 O3 b3=>?_⟩
   have D3:=D2.trios b3 B3
   obtain⟨dp,co,l,vs,ts,o1,o2,o3,o4,o5⟩:=O3.ex
   have of:=jX D.trio.fine cv
   have vl:=o3.len
   refine⟨_,rfl,p,O.O.C,dp,_,_,rfl,(zf o1).2,O.O.c,O.O.n,rfl,co,vs,rfl,.inl (SqL.of (zf o2).2),(by show 1<=sizeLine;decide),fun q hq=>?_⟩
   have s4:zd H3 (upd H3 q (.lst [.int (vs.length:Nat)])):=zd.new hq
   have hq4:upd H3 q (.lst [.int (vs.length:Nat)]) q=some (.lst [.int (vs.length:Nat)]):=z7
   generalize upd H3 q (.lst [.int (vs.length:Nat)])=H4 at s4 hq4 ⊢
   have fl:=qk of.1
   refine⟨_,rfl,p,O.O.C,dp,_,_,rfl,s4 _ _ (zf o1).2,O.O.c,O.O.n,rfl,l,_,ts,rfl,s4 _ _ (zf o4).2,(o5.mono (yn _ _)).mono s4,of.1,of.2.1,by have:=of.2.2.1;omega,fun H5 q5 hq5 e5 s5=>?_⟩
   have b4:=of.2.2.1
   refine⟨q5,_,rfl,e5,by rw [ye];omega,fun H6 r hr0 e6 s6=>?_⟩
   refine⟨q,r,_,_,rfl,rfl,s6 _ _ (s5 _ _ hq4),e6,by simp only [List.length_cons,List.length_nil,ye];omega,fun z hz'=>?_⟩
   have s7:zd H6 (upd H6 z (.lst ([.int (vs.length:Nat)]++(.int ((wds (form (Vahedn.outcome st u).hedge)).length:Nat)::wds (form (Vahedn.outcome st u).hedge))))):=zd.new hz'
   have sA:=((s4.trans s5).trans s6).trans s7
   refine k st _ (jj (by rw [isV];exact decide_eq_true cv)) ?_ _ M z (D3.same sA) (fun b m=>.inl m) (((bX.trans (But.of s2)).trans (b3.mono (fun b m=>List.mem_cons_of_mem _ m))).trans (But.of sA)) ?_
   ·unfold Vahedn.toldText
    rw [List.length_cons,List.length_cons,List.length_map]
    omega
   ·rw [z7,ye,UX,vl]
    rfl
  ·exact ke 2 (jx (by rw [isV];exact decide_eq_false cv)) (.inr (.inl rfl)) H2 M (D1.same s2) (fun b m=>.inl m) (bX.trans (But.of s2))
theorem zaf (Z:j0 K mg) (Dd:yy K mg) (C:xk K mg) (X:yH K mg) (E':yY K mg) (O:jd K mg) (N:ym K mg) (R:zB K mg) (S:yf K mg) (W:y9 K mg) (T:zw K mg):zj P w K mg base CX0 171 Z.conf.f Z.conf.fd ["trio","cursor"] (jA K (J1 S E' T R X C Dd) okConf):=by
 have GO:=ZP (P:=P) (w:=w) (base:=base) X O N R T W
 have GK:=qP (P:=P) (w:=w) (base:=base) C
 refine Z.conf.F.ok scCConf (fun vs H Q E h=>?_) (fun cdv A outer s H vs Q E hr h=>?_)
 ·obtain⟨_,_,_,_,_,_,_,_,_,_,rfl,_⟩:=h
  rfl
 ·obtain⟨t,cu,cl,M,M0,L,st,i,i',c,rfl,D,⟨rfl,rfl⟩,lz,k,ke⟩:=h
  have hr1:zJ 1 _:=hr.mono (by decide)
  have hz:sizeLine=16777216:=sizeLine_eq
  refine⟨_,z9 (zy (i:=2) scCConf.nd rfl (Or.inl rfl) (ze (zT (pv 0) X.T.c X.out.m GO hr X.out.b .nil zk (z6 zi zb)) rfl))
   (z9 (zy (i:=3) scCConf.nd rfl (Or.inl rfl) (zM (z6 (zU zF (by rfl) C.nlen PySem.boot_len (z6 (pv 2) zb)) zb)))
   (z9 (xF PassesOwn.never rfl (jh (pv 2)) (yA (i:=4) scCConf.nd rfl (Or.inl rfl))
    (z9 (zz (yK PySem.F.plainAttrs_list PySem.F.slot_list_append PySem.F.type_list_append yc (pv 3) (z6 (zN Zw (pv 4) zi (fun _ _=>rfl)) zb)))
    (zc (zz (yK PySem.F.plainAttrs_list PySem.F.slot_list_extend PySem.F.type_list_extend qD (pv 3) (z6 (zC GK hr1 (by rfl) C.counted.m C.counted.F.kp C.counted.b .nil zk (z6 (zN Zw (pv 4) zi (fun _ _=>rfl)) zb)) zb))))))
   (zc (zn (pv 3))))),?_⟩
  obtain⟨dx,hA,sA,l0,l1,l2,kvs,eM,nd,nn0,ht,_⟩:=D.trio.ex
  refine⟨_,rfl,t,dx,_,rfl,ht,rfl,t,1,M,M0,st,rfl,.inl rfl,D.trio,fun H3 p B3 O3 b3=>?_⟩
  have D3:=D.trios b3 B3
  obtain⟨dp,co,l,vs,ts,o1,o2,o3,o4,o5⟩:=O3.ex
  have of:=jX D.trio.fine (w:=1) (.inl rfl)
  have os:=Vu D.trio.fine (w:=1) (.inl rfl)
  have vl:=o3.len
  have o3':=o3.mono (yn _ _)
  have o2':=(zf o2).2
  refine⟨p,O.O.C,dp,_,_,rfl,(zf o1).2,O.O.c,O.O.n,rfl,?_⟩
  refine⟨_,rfl,co,vs,rfl,.inl (SqL.of o2'),(by show 1<=sizeLine;decide),fun an han=>?_⟩
  have s4:zd H3 (upd H3 an (.lst [.int (vs.length:Nat)])):=zd.new han
  have han4:upd H3 an (.lst [.int (vs.length:Nat)]) an=some (.lst [.int (vs.length:Nat)]):=z7
  generalize upd H3 an (.lst [.int (vs.length:Nat)])=H4 at s4 han4 ⊢
  generalize ecs:(Vahedn.outcome st 1).conflicts=cs at *
  have cl43:=V4 cs os
  have pl:∀i,((cs.take i).flatMap ju).length<=(cs.flatMap ju).length:=fun i=>by
   conv=>rhs;rw [<-List.take_append_drop i cs]
   rw [List.flatMap_append,List.length_append]
   exact Nat.le_add_right _ _
  have ofc:=of.2.2.2
  refine⟨_,rfl,co,rfl,⟨_,SqL.of (s4 _ _ o2')⟩,jq (K:=K) (a:=co) (xs:=vs) (fun i σ H'=>∃v,σ=[some (.ref t),some (.ref cu),some (.ref co),some (.ref an),v]/\H' an=some (.lst (qd (cs.length::(cs.take i).flatMap ju)))/\zd H3 H')
   ⟨none,rfl,by rw [han4,vl];rfl,s4⟩ (fun i σ H' _ ⟨_,_,_,sm⟩=>SqL.of (sm _ _ o2')) ?_ ?_⟩
  ·rintro i x σ H' hi ⟨v,rfl,han',sm⟩
   obtain⟨a,pl',c,rfl,hci,ha,hp⟩:=o3'.get hi
   have pi:=pl i
   have pi1:=pl (i+1)
   rw [ZS hci,List.length_append] at pi1
   have ec:(ju c).length=2+c.path.length:=by
    unfold ju Vahedn.toldPath
    rw [List.length_cons,List.length_cons];omega
   refine⟨_,rfl,.inl ⟨rfl,_,SqL.of han'⟩,_,rfl,a,_,_,_,rfl,rfl,SqT.of (sm _ _ ha),zp (j:=0) rfl,an,_,_,rfl,rfl,han',by rw [Uq,List.length_cons];omega,?_⟩
   have sm5:zd H3 (upd H' an (.lst (qd (cs.length::(cs.take i).flatMap ju)++[.int (c.kind:Nat)]))):=fun b o e=>by rw [z8 (za e han)];exact sm b o e
   refine⟨_,rfl,.inl ⟨rfl,_,SqL.of z7⟩,_,rfl,a,_,_,_,rfl,rfl,SqT.of (sm5 _ _ ha),zp (j:=1) rfl,pl',_,rfl,sm5 _ _ hp,by rw [Jf];omega,fun H6 r hr0 hr6 s6=>?_⟩
   refine⟨an,r,_,_,rfl,rfl,s6 _ _ z7,hr6,by simp only [List.length_append,Uq,List.length_cons,List.length_nil,Jf];omega,?_⟩
   refine⟨_,rfl,?_,fun b o e=>by rw [z8 (za e han)];exact s6 _ _ (sm5 b o e)⟩
   rw [z7,ZS hci,<-List.cons_append,zad,List.append_assoc,Jf]
   rfl
  ·rintro σ H' ⟨v,rfl,han',sm⟩
   rw [vl,List.take_length] at han'
   refine⟨_,rfl,k st _ ?_ ?_ H' M an (D3.same sm) (fun b m=>.inl m) ((b3.mono (fun b m=>List.mem_cons_of_mem _ m)).trans (But.of sm)) han'⟩
   ·show Except.ok (st,(Vahedn.outcome st 1).conflicts.length::(Vahedn.outcome st 1).conflicts.flatMap ju)=_
    rw [ecs]
   ·rw [List.length_cons];omega
end
end Hm
end
section
namespace Hm
open PySem PySem.Spec PyProof.Rows L2
open Vaheda (Hedge nodes append width deep children saying dropTrees Path readText form)
open Vahedn (Conflict State Call does)
theorem Zs {st:State} {u:Int} (iv:Vahedn.isVersion u=true) (nz:nodes (Vahedn.outcome st u).hedge<=200):Vahedn.theOutcome st u=.ok (Vahedn.outcome st u).hedge:=by
 unfold Vahedn.theOutcome
 rw [jj iv,jj (show decide (nodes (Vahedn.outcome st u).hedge<=Vahedl.LARGE)=true from decide_eq_true nz)]
theorem Vr {st:State} {u:Int} (iv:Vahedn.isVersion u=true) (nz:¬nodes (Vahedn.outcome st u).hedge<=200):Vahedn.theOutcome st u=.error 5:=by
 unfold Vahedn.theOutcome
 rw [jj iv,jx (show decide (nodes (Vahedn.outcome st u).hedge<=Vahedl.LARGE)=false from decide_eq_false nz)]
theorem V0 {st:State} {u:Int} (iv:Vahedn.isVersion u=false):Vahedn.theOutcome st u=.error 2:=by
 unfold Vahedn.theOutcome
 rw [jx iv]
theorem UP {st:State} {u:Int} (hu:u=1\/u=2):∃a:Nat,Ends2 0 a/\(∀t,[V.ref t,.int 0,.int u]=[.ref t,.int ((0:Nat):Int),.int (a:Int)])/\hOf st a=Vahedn.versionOf st u:=by
 rcases hu with rfl | rfl
 ·exact⟨1,.inl ⟨rfl,rfl⟩,fun t=>rfl,rfl⟩
 ·exact⟨2,.inr (.inl ⟨rfl,rfl⟩),fun t=>rfl,rfl⟩
section
variable {P:Program} {w:World} {K:PySem.W.Frag} {mg:Str->Option Value} {base:Heap}
theorem Nz (Z:j0 K mg) (Dd:yy K mg) (C:xk K mg) (X:yH K mg) (E':yY K mg) (O:jd K mg) (N:ym K mg) (R:zB K mg) (S:yf K mg) (W:y9 K mg) (T:zw K mg):zj P w K mg base (CXE P w) 172 Z.settle.f Z.settle.fd ["trio","cursor"] (jA K (J1 S E' T R X C Dd) okSettle):=by
 have GO:=U7 (P:=P) (w:=w) (base:=base) X E' O N R T W
 have GA:=Nm (P:=P) (w:=w) (base:=base) X R T
 have GC:=jn (P:=P) (w:=w) (base:=base) E'
 have GN:=jc (P:=P) (w:=w) (base:=base) C
 refine Z.settle.F.okx scCSettle (fun vs H Q E h=>?_) (fun cdv A outer s H vs Q E hr h=>?_)
 ·obtain⟨_,_,_,_,_,_,_,_,_,_,rfl,_⟩:=h
  rfl
 ·obtain⟨t,cu,cl,M,M0,L,st,i,i',c,rfl,D,⟨u,hu,rfl,rfl⟩,lz,k,ke⟩:=h
  have hr1:zJ 1 _:=hr.mono (by decide)
  have hr2:zJ 2 _:=hr.mono (by decide)
  refine⟨_,z9 (zy (i:=2) scCSettle.nd rfl (Or.inl rfl) (zS (pv 1) C.C.c C.num.m GN hr1 C.num.b .nil zk))
   (z9 (zz (zC GC hr1 (by rfl) E'.checkV.m E'.checkV.F.kp E'.checkV.b .nil yh (z6 (pv 2) zb)))
   (zc (zn (zM (z6 (zT (pv 0) X.T.c X.all.m GA hr2 X.all.b .nil zk (z6 (zT (pv 0) X.T.c X.hout.m GO hr X.hout.b .nil yh (z6 (pv 2) zb)) zb)) zb))))),?_⟩
  obtain⟨dc,hc⟩:=D.cur
  refine⟨_,rfl,cu,dc,_,rfl,hc,rfl,cu,dc,cl,L,i,u,rfl,hc,D.calls,hu,fun H1 hc1 b1=>?_⟩
  have D1:=D.curs b1 hc1
  have bX:But (cu::M) H H1:=b1.mono (by simp)
  refine⟨_,rfl,u,rfl,fun cv H2 s2=>?_,fun cv H2 s2=>?_⟩
  ·have D2:=D1.same s2
   obtain⟨dx,hA,sA,l0,l1,l2,kvs,eM,nd,nn0,ht,_⟩:=D2.trio.ex
   have iv:Vahedn.isVersion u=true:=by rw [isV];exact decide_eq_true cv
   refine⟨_,rfl,t,dx,_,rfl,ht,rfl,_,rfl,t,dx,_,rfl,ht,rfl,_,rfl,t,u,M,M0,st,rfl,cv,D2.trio,fun nz H3 l B3 hl3 b3=>?_,fun nz H3 B3 b3=>?_⟩
   ·have D3:=D2.trios b3 B3
    have of:=jX D.trio.fine cv
    have bY:=(bX.trans (But.of s2)).trans (b3.mono (N:=cu::M) (fun b m=>List.mem_cons_of_mem _ m))
    refine⟨t,l,M,M0,st,_,rfl,B3,hl3,⟨of.1,of.2.1,nz⟩,fun H5 M5 B5 mm b5=>⟨(by show 1<=sizeLine;decide),fun q hq=>?_⟩⟩
    have D5:=D3.trios b5 B5
    have s6:zd H5 (upd H5 q (.lst [.int (nodes (Vahedn.outcome st u).hedge:Nat)])):=zd.new hq
    refine k _ [nodes (Vahedn.outcome st u).hedge] ?_ (by show 1<=1000000;omega) _ M5 q (D5.same s6) (fun b m=>?_) ((bY.trans (b5.mono (fun b m=>List.mem_cons_of_mem _ m))).trans (But.of s6)) z7
    ·show(Vahedn.theOutcome st u).map _=_
     rw [Zs iv nz]
     rfl
    ·rcases mm b m with z | z
     ·exact .inl z
     ·refine .inr ?_
      have nb:b∉M:=fun y=>B3.live b (List.mem_append_left _ y) z
      have z2:H2 b=none:=by
       cases q2:H2 b with
       | none=>rfl
       | some o=>rw [b3 b o q2 nb] at z;cases z
      exact b1.none (by simp [hc1]) (s2.free z2)
   ·refine ke 5 ?_ (.inr (.inr (.inr rfl))) H3 M (D2.trios b3 B3) (fun b m=>.inl m) ((bX.trans (But.of s2)).trans (b3.mono (N:=cu::M) (fun b m=>List.mem_cons_of_mem _ m)))
    show(Vahedn.theOutcome st u).map _=_
    rw [Vr iv nz]
    rfl
  ·refine ke 2 ?_ (.inr (.inl rfl)) H2 M (D1.same s2) (fun b m=>.inl m) (bX.trans (But.of s2))
   show(Vahedn.theOutcome st u).map _=_
   rw [V0 (by rw [isV];exact decide_eq_false cv)]
   rfl
theorem Iw (Z:j0 K mg) (Dd:yy K mg) (C:xk K mg) (X:yH K mg) (E':yY K mg) (O:jd K mg) (N:ym K mg) (R:zB K mg) (S:yf K mg) (W:y9 K mg) (T:zw K mg):zj P w K mg base (CXE P w) 172 Z.take.f Z.take.fd ["trio","cursor"] (jA K (J1 S E' T R X C Dd) okTake):=by
 have GO:=U7 (P:=P) (w:=w) (base:=base) X E' O N R T W
 have GV:=N8 (P:=P) (w:=w) (base:=base) X R T
 have GC:=jn (P:=P) (w:=w) (base:=base) E'
 have GN:=jc (P:=P) (w:=w) (base:=base) C
 refine Z.take.F.okx scCTake (fun vs H Q E h=>?_) (fun cdv A outer s H vs Q E hr h=>?_)
 ·obtain⟨_,_,_,_,_,_,_,_,_,_,rfl,_⟩:=h
  rfl
 ·obtain⟨t,cu,cl,M,M0,L,st,i,i',c,rfl,D,⟨v,u,hv,hu,rfl,rfl⟩,lz,k,ke⟩:=h
  have hr1:zJ 1 _:=hr.mono (by decide)
  have hrV:zJ 124 _:=hr.mono (by decide)
  refine⟨_,z9 (zy (i:=2) scCTake.nd rfl (Or.inl rfl) (zS (pv 1) C.C.c C.num.m GN hr1 C.num.b .nil zk))
   (z9 (zy (i:=3) scCTake.nd rfl (Or.inl rfl) (zS (pv 1) C.C.c C.num.m GN hr1 C.num.b .nil zk))
   (z9 (zz (zC GC hr1 (by rfl) E'.checkV.m E'.checkV.F.kp E'.checkV.b .nil yh (z6 (pv 2) zb)))
   (z9 (zz (zC GC hr1 (by rfl) E'.checkV.m E'.checkV.F.kp E'.checkV.b .nil yh (z6 (pv 3) zb)))
   (zc (zn (zM (z6 (zT (pv 0) X.T.c X.ver.m GV hrV X.ver.b .nil zk (z6 (pv 2) (z6 (zT (pv 0) X.T.c X.hout.m GO hr X.hout.b .nil yh (z6 (pv 3) zb)) zb))) zb))))))),?_⟩
  obtain⟨dc,hc⟩:=D.cur
  refine⟨_,rfl,cu,dc,_,rfl,hc,rfl,cu,dc,cl,L,i,v,rfl,hc,D.calls,hv,fun H0 hc0 b0=>?_⟩
  have D0:=D.curs b0 hc0
  refine⟨_,rfl,cu,dc,_,rfl,hc0,rfl,cu,dc,cl,L,i+1,u,rfl,hc0,D0.calls,hu,fun H1 hc1 b01=>?_⟩
  have D1:=D0.curs b01 hc1
  have b1:=b0.trans b01
  have bX:But (cu::M) H H1:=b1.mono (by simp)
  refine⟨_,rfl,v,rfl,fun cw H2 s2=>?_,fun cw H2 s2=>?_⟩
  ·have iw:Vahedn.isVersion v=true:=by rw [isV];exact decide_eq_true cw
   have dE:does st (.take v u)=(Vahedn.theOutcome st u).map fun h=>(if v=1 then {st with one:=h} else {st with two:=h},[nodes h]):=jj iw
   refine⟨_,rfl,u,rfl,fun cv H3 s3=>?_,fun cv H3 s3=>?_⟩
   ·have s23:=s2.trans s3
    have D3:=D1.same s23
    obtain⟨dx,hA,sA,l0,l1,l2,kvs,eM,nd,nn0,ht,_⟩:=D3.trio.ex
    have iv:Vahedn.isVersion u=true:=by rw [isV];exact decide_eq_true cv
    refine⟨_,rfl,t,dx,_,rfl,ht,rfl,_,rfl,_,rfl,t,dx,_,rfl,ht,rfl,_,rfl,t,u,M,M0,st,rfl,cv,D3.trio,fun nz H4 l B4 hl4 b4=>?_,fun nz H4 B4 b4=>?_⟩
    ·have D4:=D3.trios b4 B4
     have of:=jX D.trio.fine cv
     have bY:=(bX.trans (But.of s23)).trans (b4.mono (N:=cu::M) (fun b m=>List.mem_cons_of_mem _ m))
     refine⟨t,l,v,M,M0,st,_,rfl,cw,B4,hl4,⟨of.1,of.2.1,nz⟩,fun H5 M5 B5 mm b5=>⟨(by show 1<=sizeLine;decide),fun q hq=>?_⟩⟩
     have D5:=D4.trios b5 B5
     have s6:zd H5 (upd H5 q (.lst [.int (nodes (Vahedn.outcome st u).hedge:Nat)])):=zd.new hq
     refine k _ [nodes (Vahedn.outcome st u).hedge] ?_ (by show 1<=1000000;omega) _ M5 q (D5.same s6) (fun b m=>?_) ((bY.trans (b5.mono (fun b m=>List.mem_cons_of_mem _ m))).trans (But.of s6)) z7
     ·rw [dE,Zs iv nz]
      rfl
     ·rcases mm b m with z | z
      ·exact .inl z
      ·refine .inr ?_
       have nb:b∉M:=fun y=>B4.live b (List.mem_append_left _ y) z
       have z2:H3 b=none:=by
        cases q2:H3 b with
        | none=>rfl
        | some o=>rw [b4 b o q2 nb] at z;cases z
       exact b1.none (by simp [hc1]) (s23.free z2)
    ·refine ke 5 ?_ (.inr (.inr (.inr rfl))) H4 M (D3.trios b4 B4) (fun b m=>.inl m) ((bX.trans (But.of s23)).trans (b4.mono (N:=cu::M) (fun b m=>List.mem_cons_of_mem _ m)))
     rw [dE,Vr iv nz]
     rfl
   ·refine ke 2 ?_ (.inr (.inl rfl)) H3 M (D1.same (s2.trans s3)) (fun b m=>.inl m) (bX.trans (But.of (s2.trans s3)))
    rw [dE,V0 (by rw [isV];exact decide_eq_false cv)]
    rfl
  ·exact ke 2 (jx (by rw [isV];exact decide_eq_false cw)) (.inr (.inl rfl)) H2 M (D1.same s2) (fun b m=>.inl m) (bX.trans (But.of s2))
theorem zbd (Z:j0 K mg) (Dd:yy K mg) (C:xk K mg) (X:yH K mg) (E':yY K mg) (N:ym K mg) (R:zB K mg) (S:yf K mg) (T:zw K mg):zj P w K mg base (CXE P w) 170 Z.did.f Z.did.fd ["trio","cursor"] (jA K (J1 S E' T R X C Dd) okDid):=by
 have GS:=YH (P:=P) (w:=w) (base:=base) X N R T
 have GT:=OO (P:=P) (w:=w) (base:=base) Dd R T
 have GC:=jn (P:=P) (w:=w) (base:=base) E'
 have GN:=jc (P:=P) (w:=w) (base:=base) C
 refine Z.did.F.okx scCDid (fun vs H Q E h=>?_) (fun cdv A outer s H vs Q E hr h=>?_)
 ·obtain⟨_,_,_,_,_,_,_,_,_,_,rfl,_⟩:=h
  rfl
 ·obtain⟨t,cu,cl,M,M0,L,st,i,i',c,rfl,D,⟨u,hu,rfl,rfl⟩,lz,k,ke⟩:=h
  have hr1:zJ 1 _:=hr.mono (by decide)
  have hrT:zJ 84 _:=hr.mono (by decide)
  refine⟨_,z9 (zy (i:=2) scCDid.nd rfl (Or.inl rfl) (zS (pv 1) C.C.c C.num.m GN hr1 C.num.b .nil zk))
   (z9 (zz (zC GC hr1 (by rfl) E'.checkV.m E'.checkV.F.kp E'.checkV.b .nil yh (z6 (pv 2) zb)))
   (z9 (zy (i:=3) scCDid.nd rfl (Or.inl rfl) (xr Dd.mk1 GT hrT rfl Dd.T.g Dd.init.b .nil zk (z6 (zT (pv 0) X.T.c X.scr.m GS hr X.scr.b .nil zk (z6 zi (z6 (pv 2) zb))) zb)))
   (zc (zn (zM (z6 (ze (pv 3) rfl) (z6 (ze (pv 3) rfl) (z6 (ze (pv 3) rfl) (z6 (ze (pv 3) rfl) (z6 (ze (pv 3) rfl) zb)))))))))),?_⟩
  obtain⟨dc,hc⟩:=D.cur
  refine⟨_,rfl,cu,dc,_,rfl,hc,rfl,cu,dc,cl,L,i,u,rfl,hc,D.calls,hu,fun H1 hc1 b1=>?_⟩
  have D1:=D.curs b1 hc1
  have bX:But (cu::M) H H1:=b1.mono (by simp)
  refine⟨_,rfl,u,rfl,fun cv H2 s2=>?_,fun cv H2 s2=>?_⟩
  ·have D2:=D1.same s2
   obtain⟨dx,hA,sA,l0,l1,l2,kvs,eM,nd,nn0,ht,_⟩:=D2.trio.ex
   have iv:Vahedn.isVersion u=true:=by rw [isV];exact decide_eq_true cv
   obtain⟨a,ea,eva,eh⟩:=UP (st:=st) cv
   refine⟨_,rfl,t,dx,_,rfl,ht,rfl,_,rfl,t,0,a,M,M0,st,eva t,ea,D2.trio,fun H3 r B3 R3 _ b3=>?_⟩
   have D3:=D2.trios b3 B3
   rw [eh] at R3
   have R3:yu T.T.C R.R.C R.P.C (hid (M++M0) H3) r (Hm.S st.base (Vahedn.versionOf st u)):=R3
   intro p dp hp hdp ndp
   have s0:zd H3 (upd (upd H3 dp (.own p)) p (.ins Dd.T.C dp [])):=(zd.new hdp).trans (zd.new (by rw [z8 (Ne.symm ndp)];exact hp))
   have sN:zd (hid (M++M0) H3) (hid [p] (upd (upd H3 dp (.own p)) p (.ins Dd.T.C dp []))):=fun b o e=>by
    obtain⟨nb,e⟩:=zf e
    exact zt (by simpa using za e hp) (s0 b o e)
   refine⟨p,dp,r,st.base,_,rfl,z7,R3.mono sN,JL _ _,OI _ _,D.trio.fine.b.2.1,fun H4 h4 b4=>⟨rfl,?_⟩⟩
   have s4:=zd.made hp hdp b4
   refine⟨_,rfl,p,Dd.T.C,dp,_,_,rfl,h4,Dd.T.c,Dd.T.n,rfl,_,rfl,p,Dd.T.C,dp,_,_,rfl,h4,Dd.T.c,Dd.T.n,rfl,_,rfl,p,Dd.T.C,dp,_,_,rfl,h4,Dd.T.c,Dd.T.n,rfl,_,rfl,p,Dd.T.C,dp,_,_,rfl,h4,Dd.T.c,Dd.T.n,rfl,_,rfl,p,Dd.T.C,dp,_,_,rfl,h4,Dd.T.c,Dd.T.n,rfl,(by show 5<=sizeLine;decide),fun q hq=>?_⟩
   refine k st _ (jj iv) (by show 5<=1000000;omega) _ M q ((D3.same s4).same (zd.new hq)) (fun b m=>.inl m) ((((bX.trans (But.of s2)).trans (b3.mono (fun b m=>List.mem_cons_of_mem _ m))).trans (But.of s4)).trans (But.new hq)) ?_
   rw [z7]
   rfl
  ·exact ke 2 (jx (by rw [isV];exact decide_eq_false cv)) (.inr (.inl rfl)) H2 M (D1.same s2) (fun b m=>.inl m) (bX.trans (But.of s2))
theorem zaj (Z:j0 K mg) (Dd:yy K mg) (C:xk K mg) (X:yH K mg) (E':yY K mg) (N:ym K mg) (R:zB K mg) (S:yf K mg) (T:zw K mg):zj P w K mg base (CXE P w) 170 Z.fate.f Z.fate.fd ["trio","cursor"] (jA K (J1 S E' T R X C Dd) okFate):=by
 have GS:=YH (P:=P) (w:=w) (base:=base) X N R T
 have GT:=UJ (P:=P) (w:=w) (base:=base) Dd R T
 have GC:=jn (P:=P) (w:=w) (base:=base) E'
 have GN:=jc (P:=P) (w:=w) (base:=base) C
 have GR:=YY (P:=P) (w:=w) (base:=base) C
 refine Z.fate.F.okx scCFate (fun vs H Q E h=>?_) (fun cdv A outer s H vs Q E hr h=>?_)
 ·obtain⟨_,_,_,_,_,_,_,_,_,_,rfl,_⟩:=h
  rfl
 ·obtain⟨t,cu,cl,M,M0,L,st,i,i',c,rfl,D,⟨u,n,hu,hn,le,n100,rfl,rfl⟩,lz,k,ke⟩:=h
  have hr1:zJ 1 _:=hr.mono (by decide)
  have hr2:zJ 2 _:=hr.mono (by decide)
  have hr7:zJ 7 _:=hr.mono (by decide)
  refine⟨_,z9 (zy (i:=2) scCFate.nd rfl (Or.inl rfl) (zS (pv 1) C.C.c C.num.m GN hr1 C.num.b .nil zk))
   (z9 (zy (i:=3) scCFate.nd rfl (Or.inl rfl) (zS (pv 1) C.C.c C.row.m GR hr2 C.row.b .nil zk))
   (z9 (zz (zC GC hr1 (by rfl) E'.checkV.m E'.checkV.F.kp E'.checkV.b .nil yh (z6 (pv 2) zb)))
   (zc (zn (zC GT hr7 (by rfl) Dd.told.m Dd.told.F.kp Dd.told.b .nil yh (z6 (zT (pv 0) X.T.c X.scr.m GS hr X.scr.b .nil zk (z6 zi (z6 (pv 2) zb))) (z6 (pv 3) zb))))))),?_⟩
  obtain⟨dc,hc⟩:=D.cur
  refine⟨_,rfl,cu,dc,_,rfl,hc,rfl,cu,dc,cl,L,i,u,rfl,hc,D.calls,hu,fun H1 hc1 b1=>?_⟩
  have D1:=D.curs b1 hc1
  refine⟨_,rfl,cu,dc,_,rfl,hc1,rfl,cu,dc,cl,L,i+1,n,rfl,hc1,D1.calls,hn,by omega,fun H2 r hr0 hr2' hc2 b2=>?_⟩
  rw [show i+1+1=i+2 from rfl] at hr2'
  rw [show i+1+1+n=i+2+n from rfl] at hc2
  have D2:=D1.curs b2 hc2
  have bX:But (cu::M) H H2:=(b1.trans b2).mono (by simp)
  generalize (L.drop (i+2)).take n=pth at *
  refine⟨_,rfl,u,rfl,fun cv H3 s3=>?_,fun cv H3 s3=>?_⟩
  ·have D3:=D2.same s3
   obtain⟨dx,hA,sA,l0,l1,l2,kvs,eM,nd,nn0,ht,_⟩:=D3.trio.ex
   have iv:Vahedn.isVersion u=true:=by rw [isV];exact decide_eq_true cv
   have dE:does st (.fate u pth)=Vahedn.doFate st u pth:=jj iv
   obtain⟨a,ea,eva,eh⟩:=UP (st:=st) cv
   have rM:r∉M:=fun z=>D1.trio.live r (List.mem_append_left _ z) hr0
   refine⟨_,rfl,t,dx,_,rfl,ht,rfl,_,rfl,t,0,a,M,M0,st,eva t,ea,D3.trio,fun H4 ra B4 R4 _ b4=>?_⟩
   have D4:=D3.trios b4 B4
   rw [eh] at R4
   have R4:yu T.T.C R.R.C R.P.C (hid (M++M0) H4) ra (Hm.S st.base (Vahedn.versionOf st u)):=R4
   have bY:=(bX.trans (But.of s3)).trans (b4.mono (N:=cu::M) (fun b m=>List.mem_cons_of_mem _ m))
   have fv:nodes (Vahedn.versionOf st u)<=200:=(jr D.trio.fine u).2.2
   refine⟨_,rfl,ra,r,st.base,_,pth,rfl,R4.mono (yn _ _),by omega,b4 _ _ (s3 _ _ hr2') rM,fun z hz H5 q hq s5=>?_,fun no H5 s5=>?_⟩
   ·refine k st [Vahedn.fateNumber z.fate,Vahedn.one (Vahedn.renewed z.fate),width z.before] ?_ (by show 3<=1000000;omega) H5 M q (D4.same s5) (fun b m=>.inl m) (bY.trans (But.of s5)) ?_
    ·rw [dE]
     unfold Vahedn.doFate
     have hz:((Vahedn.pathIn pth).bind fun p=>Vahedn.slotAt p (Vahedn.scriptOf st.base (Vahedn.versionOf st u)))=some z:=hz
     rw [hz]
    ·rw [hq];rfl
   ·refine ke 4 ?_ (.inr (.inr (.inl rfl))) H5 M (D4.same s5) (fun b m=>.inl m) (bY.trans (But.of s5))
    rw [dE]
    unfold Vahedn.doFate
    have no:((Vahedn.pathIn pth).bind fun p=>Vahedn.slotAt p (Vahedn.scriptOf st.base (Vahedn.versionOf st u)))=none:=no
    rw [no]
  ·exact ke 2 (jx (by rw [isV];exact decide_eq_false cv)) (.inr (.inl rfl)) H3 M (D2.same s3) (fun b m=>.inl m) (bX.trans (But.of s3))
theorem zae (Z:j0 K mg) (Dd:yy K mg) (C:xk K mg) (X:yH K mg) (E':yY K mg) (N:ym K mg) (R:zB K mg) (S:yf K mg) (T:zw K mg):zj P w K mg base CX0 170 Z.dist.f Z.dist.fd ["trio","cursor"] (jA K (J1 S E' T R X C Dd) okDist):=by
 have GS:=YH (P:=P) (w:=w) (base:=base) X N R T
 refine Z.dist.F.ok scCDist (fun vs H Q E h=>?_) (fun cdv A outer s H vs Q E hr h=>?_)
 ·obtain⟨_,_,_,_,_,_,_,_,_,_,rfl,_⟩:=h
  rfl
 ·obtain⟨t,cu,cl,M,M0,L,st,i,i',c,rfl,D,⟨rfl,rfl⟩,lz,k,ke⟩:=h
  refine⟨_,zc (zn (zM (z6 (ze (zT (pv 0) X.T.c X.scr.m GS hr X.scr.b .nil zk (z6 zi (z6 zi zb))) rfl) (z6 (ze (zT (pv 0) X.T.c X.scr.m GS hr X.scr.b .nil zk (z6 zi (z6 zi zb))) rfl) (z6 (ze (zT (pv 0) X.T.c X.scr.m GS hr X.scr.b .nil zk (z6 zi (z6 zi zb))) rfl) zb))))),?_⟩
  have at_:∀{H':Hp},y3 T.T.C X.T.C R.R.C R.P.C H' t M M0 st->∃dx hl sl,H' t=some (.ins X.T.C dx (tfl hl sl)):=fun A=>by
   obtain⟨dx,hl,sl,_,_,_,_,_,_,_,h,_⟩:=A.ex
   exact⟨dx,hl,sl,h⟩
  obtain⟨dx,hl,sl,ht⟩:=at_ D.trio
  refine⟨_,rfl,t,dx,_,rfl,ht,rfl,t,0,1,M,M0,st,rfl,.inl ⟨rfl,rfl⟩,D.trio,fun H1 r1 B1 R1 c1 b1=>?_⟩
  obtain⟨x1,p1,f1,c1⟩:=c1
  refine⟨r1,R.R.C,x1,_,_,rfl,(zf c1).2,R.R.c,R.R.n,rfl,?_⟩
  obtain⟨dx,hl,sl,ht⟩:=at_ B1
  refine⟨_,rfl,t,dx,_,rfl,ht,rfl,t,0,2,M,M0,st,rfl,.inr (.inl ⟨rfl,rfl⟩),B1,fun H2 r2 B2 R2 c2 b2=>?_⟩
  obtain⟨x2,p2,f2,c2⟩:=c2
  refine⟨r2,R.R.C,x2,_,_,rfl,(zf c2).2,R.R.c,R.R.n,rfl,?_⟩
  obtain⟨dx,hl,sl,ht⟩:=at_ B2
  refine⟨_,rfl,t,dx,_,rfl,ht,rfl,t,1,2,M,M0,st,rfl,.inr (.inr ⟨rfl,rfl⟩),B2,fun H3 r3 B3 R3 c3 b3=>?_⟩
  obtain⟨x3,p3,f3,c3⟩:=c3
  refine⟨r3,R.R.C,x3,_,_,rfl,(zf c3).2,R.R.c,R.R.n,rfl,(by show 3<=sizeLine;decide),fun q hq=>?_⟩
  have bA:=(b1.trans b2).trans b3
  have D3:=D.trios bA B3
  refine k st [Vahedl.distance st.base st.one,Vahedl.distance st.base st.two,Vahedl.distance st.one st.two] rfl (by show 3<=1000000;omega) _ M q (D3.same (zd.new hq)) (fun b m=>.inl m) ((bA.mono (fun b m=>List.mem_cons_of_mem _ m)).trans (But.new hq)) ?_
  rw [z7]
  rfl
end
end Hm
end
section
namespace L2
open PySem PySem.Spec PyProof.Rows
inductive Ym:List DictEntry->List (Int×Addr)->Prop where
 | nil:Ym [] []
 | cons {n:Int} {t:Tok} {f:Addr} {hs:Int} {r:List DictEntry} {kvs:List (Int×Addr)}:hs=hashInt n->Ym r kvs->Ym (⟨hs,.int n t,.ref f⟩::r) ((n,f)::kvs)
structure TabK (K:PySem.W.Frag) (d:Addr) (kvs:List (Int×Addr)):Prop where
 ex:∃(es:List DictEntry) (ep:Nat),K.lookup d=some ⟨.type "dict",none,.dict es.toArray ep,#[]⟩/\Ym es kvs
def atN (kvs:List (Int×Addr)) (n:Int):Option Addr:=(kvs.find? fun kv=>kv.1 == n).map (·.2)
theorem Ym.keys {prog:Program} {w:World} {es:List DictEntry} {kvs:List (Int×Addr)} (E:Ym es kvs):KeysOf (intKind prog w) es.toArray:=by
 intro e he
 have he:e∈es:=by simpa using he
 induction E with
 | nil=>cases he
 | @cons n t f hs r kvs hh _ ih=>
  rcases List.mem_cons.mp he with he | he
  ·subst he
   exact⟨n,by show Value.isInt n (.int n t)=true;simp [Value.isInt],hh⟩
  ·exact ih (by simpa using he) he
theorem Ym.find {prog:Program} {w:World} {es:List DictEntry} {kvs:List (Int×Addr)} (E:Ym es kvs) (n:Int):findBy (intKind prog w).is es.toArray n=(atN kvs n).map fun f=>Value.ref f:=by
 unfold findBy atN
 rw [List.find?_toArray]
 induction E with
 | nil=>rfl
 | @cons m t f hs r kvs hh _ ih=>
  have e:(intKind prog w).is n (.int m t)=(m == n):=by
   show Value.isInt n (.int m t)=(m == n)
   simp [Value.isInt]
  rw [List.find?_cons,List.find?_cons]
  dsimp only
  rw [e]
  cases q:(m == n) with
  | true=>rfl
  | false=>exact ih
theorem TabK.map {X:Cx} {pins:List (Addr×Obj)} {σ:St} {H:Hp} {s:Shared} {d:Addr} {kvs:List (Int×Addr)} (T:TabK X.K d kvs) (I:Inv X pins σ H s):s.heap.MapOf (intKind X.prog X.w) d (fun n=>(atN kvs n).map fun f=>Value.ref f):=by
 obtain⟨es,ep,lk,E⟩:=T.ex
 exact⟨_,es.toArray,ep,I.kIn _ _ lk,⟨rfl,rfl,rfl⟩,rfl,E.keys,E.find⟩
def tTab (K:PySem.W.Frag) (td ty:TE):TE:=fun σ H Q=>td σ H fun x H1=>ty σ H1 fun y H2=>∃d kvs n f,x=.ref d/\y=.int n/\TabK K d kvs/\atN kvs n=some f/\Q (.ref f) H2
theorem zcu {X:Cx} {o i:Expr} {td ty:TE} {pos:Pos} (ho:PE X o td) (hi:PE X i ty) (hs:NoSl i):PE X (.Subscript o i pos) (tTab X.K td ty):=by
 intro pins s σ H Q I h
 refine Nl PySem.F.slot_dict_getitem.lookup hs (thn (ho pins s σ H _ I h) fun u s1 ⟨x,H1,I1,rx,q1⟩=>thn (hi pins s1 σ H1 _ I1 q1) fun iv s2 ⟨y,H2,I2,ry,d,kvs,n,f,ex,ey,T,hn,q2⟩=>?_)
 subst ex ey
 obtain rfl:u=Value.ref d:=rx
 obtain⟨t,rfl⟩:=ry
 have M:=T.map I2
 refine⟨M.typeIs,wpAny_getItem_of (knd:=intKind X.prog X.w) (k:=n) (by show Value.isInt n (.int n t)=true;simp [Value.isInt]) M (v:=.ref f) (by rw [hn];rfl) ?_⟩
 exact⟨.ref f,H2,I2.tok _,rfl,q2⟩
def tCallV (ok:Addr->Sp->Prop) (i:Nat) (E:XK) (t:TA):TE:=fun σ H Q=>∃f sp,σ[i]? = some (some (.ref f))/\ok f sp/\t σ H fun vs H1=>sp vs H1 Q E
theorem IO {X:Cx} {CX:CXT} {ok:Addr->Sp->Prop} {i:Nat} {x:Str} {E:XK} {p pos:Pos} {e:Expr} {es:List Expr} {t:TA}
  (hok:∀f sp,ok f sp->PySem.W.keepIn X.K (.ref f)=true/\∃k fd ps,zj X.prog X.w X.K X.mg X.base CX k f fd ps sp/\zJ k X.A/\xS X.K fd ps [])
  (hN:X.N[i]? = some x) (hv:Vis X.env.scope x) (hx:jp CX X E) (ha:PA X (e::es) t)
  (hd:(x == ("__debug__":Str))=false:=by decide) (hcd:(x == ("__classdict__":Str))=false:=by decide) (he:starEach (e::es) X.env=(false,eval e X.env)::starEach es X.env:=by rfl) (hpl:(backTo pos (starEach es X.env)).any (·.1)=false:=by rfl) :
  PE X (.Call (.Name x p) (e::es) [] pos) (tCallV ok i E t):=by
 intro pins s σ H Q I h
 obtain⟨f,sp,ev,o,h⟩:=h
 obtain⟨hk,k,fd,ps,F,hr,hb⟩:=hok f sp o
 refine wpAny_Call_Name_kw (thn (O7 hN hv hd hcd pins s σ H (fun y H'=>y=.ref f/\H'=H) I ⟨.ref f,ev,rfl,rfl⟩) fun u s1 ⟨y,H1,I1,r1,e1,e2⟩=>?_)
 subst e1 e2
 obtain rfl:u=Value.ref f:=r1
 refine PySem.W.callWith_K (h₀:=X.base) I1.ok.mod.kin hk (thn (ha pos pins s1 σ H1 _ I1 h) fun us s2 ⟨vs,H2,I2,r,q⟩=>⟨I2.kIn,?_⟩) he hpl
 exact Zn F hr hb .nil hx I2 r (by rw [List.append_nil];exact q)
end L2
end
section
namespace Hm
open PySem PySem.Spec PyProof.Rows L2
open Vahedn (Conflict State Call does)
abbrev sAnsCall:Stmt:=top 95
abbrev sAnswers:Stmt:=top 96
structure TxAns (K:PySem.W.Frag) (mg:Str->Option Value):Type where
 ans:Df K mg "answer_call" sAnsCall ["trio","cursor"]
 all:Df K mg "answers" sAnswers ["calls"]
 d:Addr
 tab:mg "CALLS"=some (.ref d)
 cNH:GlI mg "NO_HEDGE" (-1)
 cNV:GlI mg "NO_VERSION" (-2)
 cNN:GlI mg "NO_NODE" (-4)
 cTM:GlI mg "TOO_MANY_NODES" (-5)
def InTab (K:PySem.W.Frag) (A:Ad) (kvs:List (Int×Addr)) (f:Addr) (sp:Sp):Prop:=∃p,atN kvs p=some f/\sp=jA K A (jk p)
def spAns (K:PySem.W.Frag) (A:Ad) (good:Int->Prop):Sp:=fun vs H Q _=>∃(t cu cl:Addr) (M M0:List Addr) (L:List Int) (st:State) (i i':Nat) (p:Int) (c:Call),vs=[.ref t,.ref cu]/\x4 K A H t cu cl M M0 L st i/\L[i]? = some p/\good p/\jk p c L (i+1) i'/\L.length<=16000 /\
 ∀H' M' l,x4 K A H' t cu cl M' M0 L (Vahedn.step st c).1 i'->(∀b∈M',b∈M\/H b=none)->But (cu::M) H H'->H' l=some (.lst (y8 (VahednNeutral.encode (Vahedn.step st c).2)))->(VahednNeutral.encode (Vahedn.step st c).2).length<=1000000->Q (.ref l) H'
theorem Im (l:List Nat):qd l=y8 (l.map Int.ofNat):=by
 unfold qd y8
 rw [List.map_map]
 rfl
theorem zba {st st':State} {c:Call} {l:List Nat} (h:does st c=.ok (st',l)):Vahedn.step st c=(st',.told l):=by unfold Vahedn.step;rw [h]
theorem IK {st:State} {c:Call} {n:Nat} (h:does st c=.error n):Vahedn.step st c=(st,.refused n):=by unfold Vahedn.step;rw [h]
section
variable {P:Program} {w:World} {K:PySem.W.Frag} {mg:Str->Option Value} {base:Heap}
theorem scAnsCall:zh ["trio","cursor","call"] ["trio","cursor"] (zg sAnsCall):=⟨rfl,rfl,rfl,by decide +kernel,rfl,by decide +kernel,by decide +kernel⟩
theorem zck {A:Ad} {kvs:List (Int×Addr)} {good:Int->Prop} {k0:Nat} (Y:TxAns K mg) (C:xk K mg) (E':yY K mg) (S:yf K mg) (Dd:yy K mg) (eC:A.cur=C.C.C) (e1:A.nh=S.NoHedge) (e2:A.nv=E'.NoVersion) (e4:A.nn=Dd.NoNode) (e5:A.tm=E'.TooMany) (d12:E'.NoVersion≠S.NoHedge) (d15:E'.TooMany≠S.NoHedge) (d25:E'.TooMany≠E'.NoVersion) (d14:Dd.NoNode≠S.NoHedge) (d24:Dd.NoNode≠E'.NoVersion) (d45:E'.TooMany≠Dd.NoNode)
  (hk:1<=k0) (TB:TabK K Y.d kvs) (hgood:∀p,good p->∃f,atN kvs p=some f)
  (hF:∀f sp,InTab K A kvs f sp->PySem.W.keepIn K (.ref f)=true/\∃fd ps,zj P w K mg base (CXE P w) k0 f fd ps sp/\xS K fd ps []) :
  zj P w K mg base CX0 (k0+1) Y.ans.f Y.ans.fd ["trio","cursor"] (spAns K A good):=by
 have GN:=jc (P:=P) (w:=w) (base:=base) C
 refine Y.ans.F.ok scAnsCall (fun vs H Q E h=>?_) (fun cdv A' outer s H vs Q E hr h=>?_)
 ·obtain⟨_,_,_,_,_,_,_,_,_,_,_,rfl,_⟩:=h
  rfl
 ·obtain⟨t,cu,cl,M,M0,L,st,i,i',p,c,rfl,D,hp,gp,oka,lz,k⟩:=h
  have hr1:zJ 1 _:=hr.mono hk
  refine⟨_,z9 (zy (i:=2) scAnsCall.nd rfl (Or.inl rfl) (zcu (Nq (by rfl) Y.tab (v:=.ref Y.d) rfl) (zS (pv 1) C.C.c C.num.m GN hr1 C.num.b .nil zk) (fun _ _=>rfl)))
   (zc (zbw (tb:=fun E=>tRet (tCallV (InTab K A kvs) 2 E (jy (js 0) (jy (js 1) JM)))) rfl rfl
    (fun xe pn E hx=>zc (zn (IO (i:=2) (fun f sp o=>by
     obtain⟨q1,fd,ps,q2,q3⟩:=hF f sp o
     exact⟨q1,k0,fd,ps,q2,hr,q3⟩) rfl (Or.inl rfl) hx (z6 (pv 0) (z6 (pv 1) zb)))))
    (YM (by rfl) S.nh S.nhX (fun e=>zc (zn (zM (z6 (zP Y.cNH) zb))))
     (YM (by rfl) E'.nv E'.nvX (fun e=>zc (zn (zM (z6 (zP Y.cNV) zb))))
      (YM (by rfl) Dd.nn Dd.nnX (fun e=>zc (zn (zM (z6 (zP Y.cNN) zb))))
       (YM (by rfl) E'.tm E'.tmX (fun e=>zc (zn (zM (z6 (zP Y.cTM) zb)))) zc8)))))),?_⟩
  obtain⟨f,hf⟩:=hgood p gp
  obtain⟨dc,hc⟩:=D.cur
  rw [eC] at hc
  refine⟨_,rfl,cu,dc,_,rfl,hc,rfl,cu,dc,cl,L,i,p,rfl,hc,D.calls,hp,fun H1 hc1 b1=>?_⟩
  have hc1':H1 cu=some (.ins A.cur dc (cf cl (i+1))):=by rw [eC];exact hc1
  have D1:=D.curs b1 hc1'
  have bX:But (cu::M) H H1:=b1.mono (by simp)
  have nX:∀{b:Addr},H1 b=none->H b=none:=fun {b} z=>b1.none (by simp [hc1]) z
  refine⟨Y.d,kvs,p,f,rfl,rfl,TB,hf,?_⟩
  refine⟨f,jA K A (jk p),rfl,⟨p,hf,rfl⟩,_,rfl,_,rfl,?_⟩
  have mm:∀{M':List Addr},(∀b∈M',b∈M\/H1 b=none)->∀b∈M',b∈M\/H b=none:=fun m b z=>(m b z).elim .inl fun y=>.inr (nX y)
  refine⟨t,cu,cl,M,M0,L,st,i+1,i',c,rfl,D1,oka,lz,?_,?_⟩
  ·intro st' ans hd hl H2 M2 l D2 m2 b2 e2'
   have q:=zba hd
   refine k H2 M2 l ?_ (mm m2) (bX.trans b2) ?_ ?_
   ·rw [q];exact D2
   ·rw [q,e2',Im];rfl
   ·rw [q];show(ans.map Int.ofNat).length<=_;rw [List.length_map];exact hl
  ·intro n hd hn H2 M2 D2 m2 b2
   have q:=IK hd
   have fin:∀(l:Addr),H2 l=none->Q (.ref l) (upd H2 l (.lst [.int (-(n:Int))])):=fun l hl=>by
    have s3:zd H2 (upd H2 l (.lst [.int (-(n:Int))])):=zd.new hl
    refine k _ M2 l ?_ (mm m2) ((bX.trans b2).trans (But.of s3)) ?_ ?_
    ·rw [q];exact D2.same s3
    ·rw [q,z7];rfl
    ·rw [q];show 1<=1000000;omega
   have c1:codeOf A 1=S.NoHedge:=e1
   have c2:codeOf A 2=E'.NoVersion:=e2
   have c4:codeOf A 4=Dd.NoNode:=e4
   have c5:codeOf A 5=E'.TooMany:=e5
   rcases hn with rfl | rfl | rfl | rfl
   ·refine⟨S.NoHedge,by rw [c1],S.nhX,fun σ'=>?_⟩
    rw [c1]
    show(if Value.ref S.NoHedge=.ref S.NoHedge then _ else _:TS) _ _ _
    rw [if_pos rfl]
    exact⟨(by show 1<=sizeLine;decide),fin⟩
   ·refine⟨E'.NoVersion,by rw [c2],E'.nvX,fun σ'=>?_⟩
    rw [c2]
    show(if Value.ref E'.NoVersion=.ref S.NoHedge then _ else (if Value.ref E'.NoVersion=.ref E'.NoVersion then _ else _):TS) _ _ _
    rw [if_neg (fun z=>d12 (Value.ref.inj z)),if_pos rfl]
    exact⟨(by show 1<=sizeLine;decide),fin⟩
   ·refine⟨Dd.NoNode,by rw [c4],Dd.nnX,fun σ'=>?_⟩
    rw [c4]
    show(if Value.ref Dd.NoNode=.ref S.NoHedge then _ else (if Value.ref Dd.NoNode=.ref E'.NoVersion then _ else (if Value.ref Dd.NoNode=.ref Dd.NoNode then _ else _)):TS) _ _ _
    rw [if_neg (fun z=>d14 (Value.ref.inj z)),if_neg (fun z=>d24 (Value.ref.inj z)),if_pos rfl]
    exact⟨(by show 1<=sizeLine;decide),fin⟩
   ·refine⟨E'.TooMany,by rw [c5],E'.tmX,fun σ'=>?_⟩
    rw [c5]
    show(if Value.ref E'.TooMany=.ref S.NoHedge then _ else (if Value.ref E'.TooMany=.ref E'.NoVersion then _ else (if Value.ref E'.TooMany=.ref Dd.NoNode then _ else (if Value.ref E'.TooMany=.ref E'.TooMany then _ else _))):TS) _ _ _
    rw [if_neg (fun z=>d15 (Value.ref.inj z)),if_neg (fun z=>d25 (Value.ref.inj z)),if_neg (fun z=>d45 (Value.ref.inj z)),if_pos rfl]
    exact⟨(by show 1<=sizeLine;decide),fin⟩
end
end Hm
end
section
namespace Hm
open PySem PySem.Spec PyProof.Rows L2
open Vahedn (Conflict State Call does)
abbrev Jg (st:State) (cs:List (List (List Int))):List Int:=PyFlat.told (PyFlat.played VahednNeutral.step st cs)
def spAll (K:PySem.W.Frag):Sp:=fun vs H Q _=>∃(cl:Addr) (L:List Int) (cs:List (List (List Int))),vs=[.ref cl]/\xE K H cl L/\L.length<=16000/\PyFlat.calls PyVahedn.shape L.length L=some cs/\(∀c∈cs,VahednNeutral.asked1 c=true)/\(Jg Vahedn.start cs).length<=10000000 /\
 ∀H' l,H' l=some (.lst (y8 (Jg Vahedn.start cs)))->Q (.ref l) H'
theorem IX (a b:List Int):y8 (a++b)=y8 a++y8 b:=by unfold y8;rw [List.map_append]
theorem NP (st:State) (c:List (List Int)) (cs:List (List (List Int))) (k:Call) (h:VahednNeutral.callOf c=some k) :
  Jg st (c::cs)=(((VahednNeutral.encode (Vahedn.step st k).2).length:Int)::VahednNeutral.encode (Vahedn.step st k).2)++Jg (Vahedn.step st k).1 cs:=by
 have e:VahednNeutral.step st c=((Vahedn.step st k).1,VahednNeutral.encode (Vahedn.step st k).2):=by unfold VahednNeutral.step;rw [h]
 show PyFlat.told (PyFlat.played VahednNeutral.step st (c::cs))=_
 show PyFlat.told ((VahednNeutral.step st c).2::PyFlat.played VahednNeutral.step (VahednNeutral.step st c).1 cs)=_
 rw [e]
 rfl
theorem y3.more {C CT CR CP:Addr} {H H':Hp} {t x:Addr} {M M0:List Addr} {st:State} (B:y3 C CT CR CP H t M M0 st) (s:zd H H') (hx:H x=none) (hx':H' x≠none):y3 C CT CR CP H' t M (x::M0) st:=by
 have lv:=B.live
 obtain⟨dx,hl,sl,l0,l1,l2,kvs,rfl,nd,n0,ht,hh,hs,a0,a1,a2,sc⟩:=B.ex
 have m:zd (hid ([t,hl,sl]++M0) H) (hid ([t,hl,sl]++x::M0) H'):=fun b o e=>by
  obtain⟨nb,e⟩:=zf e
  refine zt (fun z=>?_) (s b o e)
  rcases List.mem_append.mp z with z | z
  ·exact nb (List.mem_append_left _ z)
  ·rcases List.mem_cons.mp z with z | z
   ·exact za e hx z
   ·exact nb (List.mem_append_right _ z)
 refine⟨⟨dx,hl,sl,l0,l1,l2,kvs,rfl,nd,fun b q z=>?_,s _ _ ht,s _ _ hh,s _ _ hs,a0.mono m,a1.mono m,a2.mono m,sc.mono m⟩,B.fine,fun b q=>?_⟩
 ·rcases List.mem_cons.mp z with z | z
  ·exact lv b (List.mem_append_left _ q) (by rw [z];exact hx)
  ·exact n0 b q z
 ·rcases List.mem_cons.mp q with q | q
  ·rw [q];exact hx'
  ·obtain⟨o,z⟩:=zD (B.lv0 b q)
   rw [s _ _ z];intro y;cases y
section
variable {P:Program} {w:World} {K:PySem.W.Frag} {mg:Str->Option Value} {base:Heap}
theorem scAnswers:zh ["calls","answered","trio","cursor"] ["calls"] (zg sAnswers):=⟨rfl,rfl,rfl,by decide +kernel,rfl,by decide +kernel,by decide +kernel⟩
theorem zcp {A:Ad} {good:Int->Prop} {k0:Nat} (Y:TxAns K mg) (C:xk K mg) (X:yH K mg) (R:zB K mg) (T:zw K mg) (eT:A.tree=T.T.C) (eX:A.trio=X.T.C) (eR:A.row=R.R.C) (eP:A.pair=R.P.C) (eC:A.cur=C.C.C) (hk:2<=k0) (hg:∀p c L i i',jk p c L i i'->good p)
  (GA:zj P w K mg base CX0 k0 Y.ans.f Y.ans.fd ["trio","cursor"] (spAns K A good)):zj P w K mg base CX0 (k0+1) Y.all.f Y.all.fd ["calls"] (spAll K):=by
 have GT:=zam (P:=P) (w:=w) (base:=base) X R T
 have GI:=Oy (P:=P) (w:=w) (base:=base) C
 have GE:=Iv (P:=P) (w:=w) (base:=base) C
 have GK:=qP (P:=P) (w:=w) (base:=base) C
 refine Y.all.F.ok scAnswers (fun vs H Q E h=>?_) (fun cdv A' outer s H vs Q E hr h=>?_)
 ·obtain⟨_,_,_,rfl,_⟩:=h
  rfl
 ·obtain⟨cl,L,cs,rfl,ca,lz,hcs,hask,tot,k⟩:=h
  have hr1:zJ 1 _:=hr.mono (by omega)
  have hr2:zJ 2 _:=hr.mono (by omega)
  have hz:sizeLine=16777216:=sizeLine_eq
  refine⟨_,z9 (zy (i:=1) scAnswers.nd rfl (Or.inl rfl) (zM zb))
   (z9 (zy (i:=2) scAnswers.nd rfl (Or.inl rfl) (U4 X.mk1 GT hr2 rfl X.T.g X.init.b .nil zk))
   (z9 (zy (i:=3) scAnswers.nd rfl (Or.inl rfl) (xr C.mk1 GI hr2 rfl C.C.g C.init.b .nil zk (z6 (pv 0) zb)))
   (z9 (jI PassesOwn.never (JA (zV (zS (pv 3) C.C.c C.fin.m GE hr1 C.fin.b .nil zk) (fun _=>rfl)))
    (zc (zz (yK PySem.F.plainAttrs_list PySem.F.slot_list_extend PySem.F.type_list_extend qD (pv 1) (z6 (zC GK hr1 (by rfl) C.counted.m C.counted.F.kp C.counted.b .nil zk (z6 (zC GA hr (by rfl) Y.ans.m Y.ans.F.kp Y.ans.b .nil zk (z6 (pv 2) (z6 (pv 3) zb))) zb)) zb)))))
   (zc (zn (pv 1)))))),?_⟩
  refine⟨Nat.zero_le _,fun ad had=>?_⟩
  have s1:zd H (upd H ad (.lst [])):=zd.new had
  have had1:upd H ad (.lst []) ad=some (.lst []):=z7
  generalize upd H ad (.lst [])=H1 at s1 had1 ⊢
  intro t dt ht hdt ndt
  have sT:zd H1 (upd (upd H1 dt (.own t)) t (.ins X.T.C dt [])):=(zd.new hdt).trans (zd.new (by rw [z8 (Ne.symm ndt)];exact ht))
  have nta:t≠ad:=fun z=>by rw [z,had1] at ht;cases ht
  refine⟨t,dt,[ad],rfl,z7,by simpa using nta,fun b m=>?_,fun H2 M B2 mM b2=>⟨rfl,?_⟩⟩
  ·rw [List.mem_singleton.mp m,sT _ _ had1];intro z;cases z
  have s2:zd H1 H2:=zd.made ht hdt b2
  have had2:=s2 _ _ had1
  refine⟨_,rfl,fun cu dc hcu hdc ndc=>?_⟩
  refine⟨cu,dc,cl,rfl,z7,fun H3 hc3 b3=>⟨rfl,?_⟩⟩
  have s3:zd H2 H3:=zd.made hcu hdc b3
  have B3:=B2.more s3 hcu (by rw [hc3];intro z;cases z)
  rw [<-eT,<-eX,<-eR,<-eP] at B3
  have nca:cu≠ad:=fun z=>by rw [z,had2] at hcu;cases hcu
  have D3:x4 K A H3 t cu cl M [cu,ad] L Vahedn.start 0:=⟨B3,⟨dc,by rw [eC];exact hc3⟩,by simp,ca.but (M:=[]) (But.of ((s1.trans s2).trans s3)) fun x m=>(by cases m)⟩
  obtain⟨W,hW⟩:∃W:Nat->L2.St->Hp->Prop,W=fun m σ H'=>∃(i f:Nat) (st:State) (cr:List (List (List Int))) (pre:List Int) (M:List Addr),σ=[some (.ref cl),some (.ref ad),some (.ref t),some (.ref cu)]/\m=L.length - i/\i<=L.length/\PyFlat.calls PyVahedn.shape f (L.drop i)=some cr/\(∀c∈cr,VahednNeutral.asked1 c=true) /\
    H' ad=some (.lst (y8 pre))/\Jg Vahedn.start cs=pre++Jg st cr/\x4 K A H' t cu cl M [cu,ad] L st i:=⟨_,rfl⟩
  refine⟨W,⟨_,by rw [hW];exact⟨0,L.length,Vahedn.start,cs,[],M,rfl,rfl,Nat.zero_le _,hcs,hask,s3 _ _ had2,rfl,D3⟩⟩,?_⟩
  intro m σ H' hw
  rw [hW] at hw
  obtain⟨i,f,st,cr,pre,M,rfl,rfl,li,hcr,hask',had',tl,D⟩:=hw
  obtain⟨dc',hc'⟩:=D.cur
  rw [eC] at hc'
  refine⟨_,rfl,cu,dc',_,rfl,hc',rfl,cu,dc',cl,L,i,rfl,hc',D.calls.sq,_,rfl,?_⟩
  by_cases ci:i=L.length
  ·rw [decide_eq_true ci]
   refine zr ⟨_,rfl,k H' ad ?_⟩
   rw [ci,List.drop_length] at hcr
   have:cr=[]:=by
    cases f <;> (unfold PyFlat.calls at hcr;cases hcr;rfl)
   rw [tl,this,had']
   show some (HO.lst (y8 pre))=some (HO.lst (y8 (pre++[])))
   rw [List.append_nil]
  ·rw [decide_eq_false ci]
   refine zu ⟨fun σ' H''=>∃m',m'<L.length - i/\W m' σ' H'',fun _ _ z=>z,?_⟩
   rw [hW]
   have lt:i<L.length:=by omega
   have dr:L.drop i=L[i]::L.drop (i+1):=List.drop_eq_getElem_cons lt
   rw [dr] at hcr
   obtain⟨f',rfl⟩:∃f',f=f'+1:=by
    cases f with
    | zero=>unfold PyFlat.calls at hcr;cases hcr
    | succ f'=>exact⟨f',rfl⟩
   unfold PyFlat.calls at hcr
   cases q1:PyFlat.call PyVahedn.shape (L[i]::L.drop (i+1)) with
   | none=>rw [q1] at hcr;cases hcr
   | some ct=>
    obtain⟨c,rest⟩:=ct
    rw [q1] at hcr
    dsimp only at hcr
    cases q2:PyFlat.calls PyVahedn.shape f' rest with
    | none=>rw [q2] at hcr;cases hcr
    | some cr'=>
     rw [q2] at hcr
     cases hcr
     obtain⟨kc,i',hk1,hok,hre,li1,li2⟩:=za7 dr q1 (hask' c (by simp))
     have pc:=NP st c cr' kc hk1
     refine⟨_,rfl,.inl ⟨rfl,_,SqL.of had'⟩,_,rfl,_,rfl,t,cu,cl,M,[cu,ad],L,st,i,i',L[i],kc,rfl,D,List.getElem?_eq_getElem lt,hg _ _ _ _ _ hok,hok,lz,fun H4 M4 l D4 m4 b4 hl4 len4=>?_⟩
     have nal:ad∉cu::M:=fun z=>by
      rcases List.mem_cons.mp z with z | z
      ·exact nca z.symm
      ·exact D.trio.out0 ad z (by simp)
     have had4:=b4 _ _ had' nal
     refine⟨l,_,rfl,hl4,by rw [xR];omega,fun H5 r hr0 hr5 s5=>?_⟩
     have had5:=s5 _ _ had4
     have tl2:=congrArg List.length tl
     rw [pc,List.length_append,List.length_append,List.length_cons] at tl2
     refine⟨ad,r,_,_,rfl,rfl,had5,hr5,by rw [xR,List.length_cons,xR];omega,?_⟩
     have D5:=D4.same s5
     have b6:But [ad] H5 (upd H5 ad (.lst (y8 pre++(.int ((y8 (VahednNeutral.encode (Vahedn.step st kc).2)).length:Nat)::y8 (VahednNeutral.encode (Vahedn.step st kc).2))))):=But.upd (by simp)
     have D6:x4 K A (upd H5 ad (.lst (y8 pre++(.int ((y8 (VahednNeutral.encode (Vahedn.step st kc).2)).length:Nat)::y8 (VahednNeutral.encode (Vahedn.step st kc).2))))) t cu cl M4 [cu,ad] L (Vahedn.step st kc).1 i':=by
      obtain⟨B5,⟨d5,h5⟩,cM,ca5⟩:=D5
      refine⟨B5.but (N:=[ad]) (fun x m=>by rw [List.mem_singleton.mp m];simp) b6 (fun x m=>by rw [List.mem_singleton.mp m,z7];intro z;cases z),⟨d5,by rw [z8 nca];exact h5⟩,cM,ca5.but b6 fun x m o u z=>?_⟩
      rw [List.mem_singleton.mp m,had5] at z;cases z
     refine⟨L.length - i',by omega,i',f',(Vahedn.step st kc).1,cr',pre++(((VahednNeutral.encode (Vahedn.step st kc).2).length:Int)::VahednNeutral.encode (Vahedn.step st kc).2),M4,rfl,rfl,li2,by rw [<-hre];exact q2,fun c' m'=>hask' c' (List.mem_cons_of_mem _ m'),?_,?_,D6⟩
     ·rw [z7,xR,IX];rfl
     ·rw [tl,pc,List.append_assoc]
end
end Hm
end
section
namespace Hm
open PySem PySem.Spec PyProof.Rows L2
theorem Zm {L:List Int} {cs:List (List (List Int))} (h:PyFlat.calls PyVahedn.shape L.length L=some cs):PyVahedn.answers L=Jg Vahedn.start cs:=by
 unfold PyVahedn.answers PyVahedn.calls
 rw [h]
 dsimp only
 rw [show cs.map PyVahedn.whole=cs by rw [show PyVahedn.whole=id from funext Um,List.map_id]]
 rfl
theorem IU {L:List Int} (h:PyVahedn.answers_asked L=true):∃cs,PyFlat.calls PyVahedn.shape L.length L=some cs/\(∀c∈cs,VahednNeutral.asked1 c=true)/\(Jg Vahedn.start cs).length<=10000000:=by
 have h0:=h
 unfold PyVahedn.answers_asked at h
 cases q:PyFlat.calls PyVahedn.shape L.length L with
 | none=>rw [q] at h;cases h
 | some cs=>
  rw [q] at h
  dsimp only at h
  simp only [Bool.and_eq_true] at h
  obtain⟨⟨⟨⟨_,_⟩,_⟩,ha⟩,hs⟩:=h
  rw [show cs.map PyVahedn.whole=cs by rw [show PyVahedn.whole=id from funext Um,List.map_id]] at ha
  unfold VahednNeutral.asked at ha
  rw [Bool.and_eq_true,List.all_eq_true] at ha
  refine⟨cs,rfl,ha.1,?_⟩
  rw [Zm q] at hs
  exact decide_eq_true_eq.mp hs
theorem spec_all {K:PySem.W.Frag} {H:Hp} {cl:Addr} {L:List Int} (O:∀b,H b=none\/∃o u,H b=some (.frz o u)) (hs:SqL K H cl (L.map V.int)) (hl:L.length<=16000) (ha:PyVahedn.answers_asked L=true) :
  spAll K [.ref cl] H (fun v H'=>L2.Dw K H' v (.list ((PyVahedn.answers L).map PySem.W.WData.int))) fun _ _ _=>False:=by
 obtain⟨cs,q,a,b⟩:=IU ha
 refine⟨cl,L,cs,rfl,xE.of O hs,hl,q,a,b,fun H' l e=>?_⟩
 rw [Zm q]
 exact .lst (SqL.of e) (L2.dw_ints _)
end Hm
end
section
namespace Hm
open PySem PySem.Spec PyProof.Rows L2
open Vahedn (Call State)
theorem Ik {K:PySem.W.Frag} {A:Ad} {ok ok':Call->List Int->Nat->Nat->Prop} (h:∀c L i i',ok' c L i i'->ok c L i i') {vs:List V} {H:Hp} {Q:VK} {E:XK} (d:jA K A ok' vs H Q E):jA K A ok vs H Q E:=by
 obtain⟨t,cu,cl,M,M0,L,st,i,i',c,e,D,o,r⟩:=d
 exact⟨t,cu,cl,M,M0,L,st,i,i',c,e,D,h _ _ _ _ o,r⟩
theorem zj.sub {P:Program} {w:World} {K:PySem.W.Frag} {mg:Str->Option Value} {base:Heap} {CX:CXT} {k:Nat} {f:Addr} {fd:FuncData} {ps:List Str} {sp sp':Sp} (F:zj P w K mg base CX k f fd ps sp) (h:∀vs H Q E,sp' vs H Q E->sp vs H Q E):zj P w K mg base CX k f fd ps sp':=
 ⟨fun vs H Q E d=>F.len vs H Q E (h vs H Q E d),fun A outer s H args us vs Q E hr he hb hv d=>F.run A outer s H args us vs Q E hr he hb hv (h vs H Q E d)⟩
theorem zc7 {c L i i'} (h:jk 0 c L i i'):okBase c L i i':=by rcases h with ⟨_,h⟩ | ⟨e,_⟩ | ⟨e,_⟩ | ⟨e,_⟩ | ⟨e,_⟩ | ⟨e,_⟩ | ⟨e,_⟩ | ⟨e,_⟩ | ⟨e,_⟩ | ⟨e,_⟩ <;> first | exact h | (exfalso;omega)
theorem zcz {c L i i'} (h:jk 1 c L i i'):okVer c L i i':=by rcases h with ⟨e,_⟩ | ⟨_,h⟩ | ⟨e,_⟩ | ⟨e,_⟩ | ⟨e,_⟩ | ⟨e,_⟩ | ⟨e,_⟩ | ⟨e,_⟩ | ⟨e,_⟩ | ⟨e,_⟩ <;> first | exact h | (exfalso;omega)
theorem zct {c L i i'} (h:jk 2 c L i i'):okForm c L i i':=by rcases h with ⟨e,_⟩ | ⟨e,_⟩ | ⟨_,h⟩ | ⟨e,_⟩ | ⟨e,_⟩ | ⟨e,_⟩ | ⟨e,_⟩ | ⟨e,_⟩ | ⟨e,_⟩ | ⟨e,_⟩ <;> first | exact h | (exfalso;omega)
theorem zca {c L i i'} (h:jk 3 c L i i'):okMerge c L i i':=by rcases h with ⟨e,_⟩ | ⟨e,_⟩ | ⟨e,_⟩ | ⟨_,h⟩ | ⟨e,_⟩ | ⟨e,_⟩ | ⟨e,_⟩ | ⟨e,_⟩ | ⟨e,_⟩ | ⟨e,_⟩ <;> first | exact h | (exfalso;omega)
theorem zce {c L i i'} (h:jk 4 c L i i'):okConf c L i i':=by rcases h with ⟨e,_⟩ | ⟨e,_⟩ | ⟨e,_⟩ | ⟨e,_⟩ | ⟨_,h⟩ | ⟨e,_⟩ | ⟨e,_⟩ | ⟨e,_⟩ | ⟨e,_⟩ | ⟨e,_⟩ <;> first | exact h | (exfalso;omega)
theorem zcl {c L i i'} (h:jk 5 c L i i'):okDid c L i i':=by rcases h with ⟨e,_⟩ | ⟨e,_⟩ | ⟨e,_⟩ | ⟨e,_⟩ | ⟨e,_⟩ | ⟨_,h⟩ | ⟨e,_⟩ | ⟨e,_⟩ | ⟨e,_⟩ | ⟨e,_⟩ <;> first | exact h | (exfalso;omega)
theorem zc6 {c L i i'} (h:jk 6 c L i i'):okFate c L i i':=by rcases h with ⟨e,_⟩ | ⟨e,_⟩ | ⟨e,_⟩ | ⟨e,_⟩ | ⟨e,_⟩ | ⟨e,_⟩ | ⟨_,h⟩ | ⟨e,_⟩ | ⟨e,_⟩ | ⟨e,_⟩ <;> first | exact h | (exfalso;omega)
theorem zc3 {c L i i'} (h:jk 7 c L i i'):okDist c L i i':=by rcases h with ⟨e,_⟩ | ⟨e,_⟩ | ⟨e,_⟩ | ⟨e,_⟩ | ⟨e,_⟩ | ⟨e,_⟩ | ⟨e,_⟩ | ⟨_,h⟩ | ⟨e,_⟩ | ⟨e,_⟩ <;> first | exact h | (exfalso;omega)
theorem zc5 {c L i i'} (h:jk 8 c L i i'):okTake c L i i':=by rcases h with ⟨e,_⟩ | ⟨e,_⟩ | ⟨e,_⟩ | ⟨e,_⟩ | ⟨e,_⟩ | ⟨e,_⟩ | ⟨e,_⟩ | ⟨e,_⟩ | ⟨_,h⟩ | ⟨e,_⟩ <;> first | exact h | (exfalso;omega)
theorem zch {c L i i'} (h:jk 9 c L i i'):okSettle c L i i':=by rcases h with ⟨e,_⟩ | ⟨e,_⟩ | ⟨e,_⟩ | ⟨e,_⟩ | ⟨e,_⟩ | ⟨e,_⟩ | ⟨e,_⟩ | ⟨e,_⟩ | ⟨e,_⟩ | ⟨_,h⟩ <;> first | exact h | (exfalso;omega)
def isNum (p:Int):Prop:=p=0\/p=1\/p=2\/p=3\/p=4\/p=5\/p=6\/p=7\/p=8\/p=9
theorem zab (p:Int) (c:Call) (L:List Int) (i i':Nat) (h:jk p c L i i'):isNum p:=by
 unfold isNum
 rcases h with ⟨e,_⟩ | ⟨e,_⟩ | ⟨e,_⟩ | ⟨e,_⟩ | ⟨e,_⟩ | ⟨e,_⟩ | ⟨e,_⟩ | ⟨e,_⟩ | ⟨e,_⟩ | ⟨e,_⟩ <;> omega
def xH (P:Program) (w:World) (K:PySem.W.Frag) (mg:Str->Option Value) (base:Heap) (A:Ad) (k0:Nat) (e:Int×Addr):Prop:=PySem.W.keepIn K (.ref e.2)=true/\∃fd ps,zj P w K mg base (CXE P w) k0 e.2 fd ps (jA K A (jk e.1))/\xS K fd ps []
section
variable {P:Program} {w:World} {K:PySem.W.Frag} {mg:Str->Option Value} {base:Heap} {A:Ad} {k0:Nat}
theorem za4 {kvs:List (Int×Addr)} (h:∀e∈kvs,xH P w K mg base A k0 e):∀f sp,InTab K A kvs f sp->PySem.W.keepIn K (.ref f)=true/\∃fd ps,zj P w K mg base (CXE P w) k0 f fd ps sp/\xS K fd ps []:=by
 rintro f sp ⟨p,hp,rfl⟩
 unfold atN at hp
 cases q:kvs.find? (fun kv=>kv.1 == p) with
 | none=>rw [q] at hp;cases hp
 | some e=>
  rw [q] at hp
  cases hp
  have m:=List.mem_of_find?_eq_some q
  have z:=List.find?_some q
  have z:e.1=p:=by simpa using z
  have g:=h e m
  rw [<-z]
  exact g
theorem xH.of {x:Str} {st:Stmt} {ps:List Str} {n:Int} {k:Nat} {ok:Call->List Int->Nat->Nat->Prop} (D:Df K mg x st ps) (F:zj P w K mg base (CXE P w) k D.f D.fd ps (jA K A ok)) (hk:k<=k0) (h:∀{c L i i'},jk n c L i i'->ok c L i i'):xH P w K mg base A k0 (n,D.f):=
 ⟨D.F.kp,D.fd,ps,(zj.sub F fun vs H Q E=>Ik fun c L i i' o=>h o).mono hk,D.b⟩
end
end Hm
end
section
namespace Hm
open PySem PySem.Spec PyProof.Rows L2
section
variable {K:PySem.W.Frag} {h:Heap} {mg:Str->Option Value}
def FK (K:PySem.W.Frag) (x qual:Str) (st:Stmt) (f:Addr):Prop:=∃fd,Fun K x qual st f fd
theorem FK.of {x qual:Str} {st:Stmt} {f:Addr} {oc:Value} {od an:Option Addr} {osl:Array (Option Value)} {kV doc pm cdv ct:Value} (l:K.lookup f=some ⟨oc,od,.func (PySem.W.fnOf x qual (defArgs st) (jN st) (zg st) .none kV doc pm an cdv ct),osl⟩)
  (c:PySem.W.codeIn K cdv qual=true) (k:PySem.W.keepIn K (.ref f)=true):FK K x qual st f:=⟨_,zcy l c k⟩
def Bd1 (x qual:Str) (st:Stmt) (ps:List Str):Prop:=∀(kV doc pm:Value) (an:Option Addr) (cdv ct:Value) (us:List Value),us.length=ps.length->bindArgs (PySem.W.fnOf x qual (defArgs st) (jN st) (zg st) .none kV doc pm an cdv ct) ⟨us,[]⟩=pure (ps.zip us)
noncomputable def Df.of {x:Str} {st:Stmt} {ps:List Str} {f:Addr} (X:K.In h) (G:h.Ns mainGlobals mg) (a:PySem.W.nsIn K mainGlobals x=some (some (.ref f))) (q:FK K x x st f) (b:Bd1 x x st ps):Df K mg x st ps:=
 ⟨f,Classical.choose q,Classical.choose_spec q,(Classical.choose_spec q).binds b,PySem.W.mg_of X G a⟩
noncomputable def Me.of {C:Addr} {x qual:Str} {st:Stmt} {ps:List Str} {f:Addr} (a:PySem.W.findIn K (.ref C) x=some (some (.ref f))) (i:PySem.W.isFn K (.ref f)=true) (q:FK K x qual st f) (b:Bd1 x qual st ps):Me K C x qual st ps:=
 ⟨f,Classical.choose q,Classical.choose_spec q,(Classical.choose_spec q).binds b,⟨a,i,(Classical.choose_spec q).kp⟩⟩
theorem jE {C:Addr}:∀a∈([]:List Str),xV K C a:=fun _ m=>by cases m
theorem zW {C:Addr} {x:Str} {xs:List Str} (e:PySem.W.findIn K (.ref C) x=some none) (r:∀a∈xs,xV K C a):∀a∈x::xs,xV K C a:=fun a m=>by
 rcases List.mem_cons.mp m with m | m
 ·rw [m];exact e
 ·exact r a m
def CK (K:PySem.W.Frag) (C:Addr):Prop:=Cls K C/\PySem.W.makesIn K C=true/\PySem.W.keepIn K (.ref C)=true
theorem CK.of {C:Addr} (pg:PySem.W.plainGet K C Str.empty=true) (hd:PySem.W.hasDictIn K C=true) (po:PySem.W.plainOver K C=true) (sa:PySem.W.findIn K (.ref C) "__setattr__"=some (some (.builtin "object.__setattr__"))) (mk:PySem.W.makesIn K C=true) (kc:PySem.W.keepIn K (.ref C)=true):CK K C:=⟨⟨pg,hd,po,sa⟩,mk,kc⟩
def Cl.of {C:Addr} {x:Str} {attrs:List Str} (X:K.In h) (G:h.Ns mainGlobals mg) (a:PySem.W.nsIn K mainGlobals x=some (some (.ref C))) (q:CK K C) (no:∀a∈attrs,xV K C a):Cl K mg x attrs:=⟨C,q.1,PySem.W.mg_of X G a,no⟩
theorem Mk.of {C f:Addr} (q:CK K C) (a:PySem.W.findIn K (.ref C) "__init__"=some (some (.ref f))) (i:PySem.W.isFn K (.ref f)=true):Mk K C f:=⟨q.2.1,a,i,q.2.2⟩
def XK1 (K:PySem.W.Frag) (C:Addr):Prop:=Exc K C
theorem GlI.of {x:Str} {i:Int} {t:Tok} (X:K.In h) (G:h.Ns mainGlobals mg) (a:PySem.W.nsIn K mainGlobals x=some (some (.int i t))):GlI mg x i:=⟨t,PySem.W.mg_of X G a⟩
theorem Exc.of {C N:Addr} {nm q:Str} {bs:List Value} {hdct:Bool} {sn:List Str} {sub:List Value} {ab:Bool} {col:Option Bool} {dd:Option Addr} {k0 k1 k2 k3 k5:Option Value}
  (l:K.lookup C=some (excClassObj nm q C N bs bmE hdct sn sub ab col dd k0 k1 k2 k3 k5 "Exception.__new__")) (e:PySem.W.excIn K C bmE "Exception.__new__"=true):Exc K C:=by
 have z:PySem.W.nsOkIn K N=true/\PySem.W.nsIn K N "__init__"=some none:=by
  unfold PySem.W.excIn at e
  rw [l] at e
  unfold excClassObj at e
  simp only [Bool.and_eq_true,beq_iff_eq] at e
  exact⟨e.1.2,e.2⟩
 exact⟨nm,q,N,bs,hdct,sn,sub,ab,col,dd,k0,k1,k2,k3,k5,l,z.1,z.2⟩
end
end Hm
namespace Hm
open PySem PySem.Spec PyProof.Rows L2
theorem NX {K:PySem.W.Frag} {x qual:Str} {st:Stmt} {f:Addr} {fd:FuncData} {ps:List Str} (F:Fun K x qual st f fd) (b:Bd1 x qual st ps) (s:Shared) (us:List Value) (hu:us.length=ps.length):BindsTo s fd ⟨us,[]⟩ (ps.zip us):=by
 obtain⟨oc,od,kV,doc,pm,an,cdv,ct,osl,rfl,lk,hcd⟩:=F.ex
 exact .of_eq (b kV doc pm an cdv ct us hu)
theorem zcd {P:Program} {w:World} {K:PySem.W.Frag} {mg:Str->Option Value} {base:Heap} {A:Ad} {k0:Nat}:∀e∈([]:List (Int×Addr)),xH P w K mg base A k0 e:=fun _ m=>by cases m
theorem jg {P:Program} {w:World} {K:PySem.W.Frag} {mg:Str->Option Value} {base:Heap} {A:Ad} {k0:Nat} {x:Int×Addr} {xs:List (Int×Addr)} (h:xH P w K mg base A k0 x) (r:∀e∈xs,xH P w K mg base A k0 e):∀e∈x::xs,xH P w K mg base A k0 e:=fun e m=>by
 rcases List.mem_cons.mp m with m | m
 ·rw [m];exact h
 ·exact r e m
end Hm
end
section
namespace Hm
open PySem PySem.Spec PyProof.Rows L2
theorem all_mk {P:Program} {w:World} {K:PySem.W.Frag} {h:Heap} {mg:Str->Option Value} {fa:Addr}
  {C_tree_T:Addr}
  {f_tree_init:Addr}
  {f_tree_size:Addr}
  {f_tree_sTree:Addr}
  {f_tree_sHedge:Addr}
  {f_tree_sLead:Addr}
  {f_write_form:Addr}
  {f_write_wHedge:Addr}
  {f_write_wTree:Addr}
  {f_write_wLeaf:Addr}
  {t_write_blank:Tok}
  {t_write_quote:Tok}
  {t_write_lpar:Tok}
  {t_write_rpar:Tok}
  {t_write_back:Tok}
  {f_scan_letter:Addr}
  {f_scan_dig:Addr}
  {C_scan_S:Addr}
  {f_scan_init:Addr}
  {f_scan_byte:Addr}
  {f_scan_skip:Addr}
  {f_scan_token:Addr}
  {f_scan_name:Addr}
  {f_scan_leaf:Addr}
  {f_scan_lbyte:Addr}
  {f_scan_cut:Addr}
  {A_scan_NoHedge:Addr}
  {t_scan_lf:Tok}
  {t_scan_last:Tok}
  {t_scan_d0:Tok}
  {t_scan_d9:Tok}
  {t_scan_la:Tok}
  {t_scan_lz:Tok}
  {t_scan_kName:Tok}
  {t_scan_kLeaf:Tok}
  {t_scan_kDown:Tok}
  {t_scan_kUp:Tok}
  {t_scan_mName:Tok}
  {t_scan_mLeaf:Tok}
  {t_scan_past:Tok}
  {C_read_B:Addr}
  {f_read_init:Addr}
  {f_read_add:Addr}
  {f_read_down:Addr}
  {f_read_up:Addr}
  {f_read_whole:Addr}
  {f_read_read:Addr}
  {t_read_mDepth:Tok}
  {t_read_mNodes:Tok}
  {C_grid_G:Addr}
  {f_grid_init:Addr}
  {f_grid_last:Addr}
  {f_grid_before:Addr}
  {f_grid_pair:Addr}
  {f_grid_first:Addr}
  {f_grid_inner:Addr}
  {t_grid_kPair:Tok}
  {t_grid_kDrop:Tok}
  {t_grid_kPut:Tok}
  {C_script_P:Addr}
  {f_script_pinit:Addr}
  {f_script_palone:Addr}
  {C_script_R:Addr}
  {f_script_rinit:Addr}
  {f_script_put:Addr}
  {f_script_fate:Addr}
  {f_script_told:Addr}
  {f_script_gscript:Addr}
  {f_script_gpair:Addr}
  {C_deed_T:Addr}
  {f_deed_init:Addr}
  {f_deed_row:Addr}
  {f_deed_pair:Addr}
  {f_deed_told:Addr}
  {f_deed_fateAt:Addr}
  {f_deed_within:Addr}
  {f_deed_kind:Addr}
  {A_deed_NoNode:Addr}
  {t_deed_kDropped:Tok}
  {t_deed_kAlone:Tok}
  {t_deed_kChanged:Tok}
  {C_out_O:Addr}
  {f_out_init:Addr}
  {f_out_add:Addr}
  {f_out_row:Addr}
  {f_out_puts:Addr}
  {f_out_fates:Addr}
  {f_out_pairs:Addr}
  {t_out_k1:Tok}
  {t_out_k2:Tok}
  {t_out_k3:Tok}
  {f_held_checkV:Addr}
  {f_held_checkS:Addr}
  {f_held_held:Addr}
  {A_held_NoVersion:Addr}
  {A_held_TooMany:Addr}
  {t_held_most:Tok}
  {C_trio_T:Addr}
  {f_trio_init:Addr}
  {f_trio_all:Addr}
  {f_trio_ver:Addr}
  {f_trio_forget:Addr}
  {f_trio_scr:Addr}
  {f_trio_out:Addr}
  {f_trio_hout:Addr}
  {C_cur_C:Addr}
  {f_cur_init:Addr}
  {f_cur_fin:Addr}
  {f_cur_num:Addr}
  {f_cur_row:Addr}
  {f_cur_counted:Addr}
  {f_calls_base:Addr}
  {f_calls_ver:Addr}
  {f_calls_form:Addr}
  {f_calls_merge:Addr}
  {f_calls_conf:Addr}
  {f_calls_did:Addr}
  {f_calls_fate:Addr}
  {f_calls_dist:Addr}
  {f_calls_take:Addr}
  {f_calls_settle:Addr}
  {f_ans_ans:Addr}
  {f_ans_all:Addr}
  {A_ans_d:Addr}
  {t_ans_cNH:Tok}
  {t_ans_cNV:Tok}
  {t_ans_cNN:Tok}
  {t_ans_cTM:Tok}
  {tk_0:Tok}
  {tk_1:Tok}
  {tk_2:Tok}
  {tk_3:Tok}
  {tk_4:Tok}
  {tk_5:Tok}
  {tk_6:Tok}
  {tk_7:Tok}
  {tk_8:Tok}
  {tk_9:Tok}
  {ep_tab:Nat}
  (X:K.In h) (G:h.Ns mainGlobals mg) (hfa:mg "answers"=some (.ref fa))
  (a_tree_T:PySem.W.nsIn K mainGlobals "Tree"=some (some (.ref C_tree_T)))
  (q_tree_T:CK K C_tree_T)
  (n0_tree_T:PySem.W.findIn K (.ref C_tree_T) "leaf"=some none)
  (n1_tree_T:PySem.W.findIn K (.ref C_tree_T) "word"=some none)
  (n2_tree_T:PySem.W.findIn K (.ref C_tree_T) "kids"=some none)
  (n3_tree_T:PySem.W.findIn K (.ref C_tree_T) "size"=some none)
  (a_tree_init:PySem.W.findIn K (.ref C_tree_T) "__init__"=some (some (.ref f_tree_init)))
  (i_tree_init:PySem.W.isFn K (.ref f_tree_init)=true)
  (q_tree_init:FK K "__init__" "Tree.__init__" sTreeInit f_tree_init)
  (a_tree_size:PySem.W.nsIn K mainGlobals "hedge_size"=some (some (.ref f_tree_size)))
  (q_tree_size:FK K "hedge_size" "hedge_size" sSize f_tree_size)
  (a_tree_sTree:PySem.W.nsIn K mainGlobals "same_tree"=some (some (.ref f_tree_sTree)))
  (q_tree_sTree:FK K "same_tree" "same_tree" sSameTree f_tree_sTree)
  (a_tree_sHedge:PySem.W.nsIn K mainGlobals "same_hedge"=some (some (.ref f_tree_sHedge)))
  (q_tree_sHedge:FK K "same_hedge" "same_hedge" sSameHedge f_tree_sHedge)
  (a_tree_sLead:PySem.W.nsIn K mainGlobals "same_lead"=some (some (.ref f_tree_sLead)))
  (q_tree_sLead:FK K "same_lead" "same_lead" sSameLead f_tree_sLead)
  (z_tree_nsum:PySem.W.nsIn K mainGlobals "sum"=some none)
  (z_tree_nlen:PySem.W.nsIn K mainGlobals "len"=some none)
  (a_write_form:PySem.W.nsIn K mainGlobals "hedge_form"=some (some (.ref f_write_form)))
  (q_write_form:FK K "hedge_form" "hedge_form" sForm f_write_form)
  (a_write_wHedge:PySem.W.nsIn K mainGlobals "write_hedge"=some (some (.ref f_write_wHedge)))
  (q_write_wHedge:FK K "write_hedge" "write_hedge" sWHedge f_write_wHedge)
  (a_write_wTree:PySem.W.nsIn K mainGlobals "write_tree"=some (some (.ref f_write_wTree)))
  (q_write_wTree:FK K "write_tree" "write_tree" sWTree f_write_wTree)
  (a_write_wLeaf:PySem.W.nsIn K mainGlobals "write_leaf"=some (some (.ref f_write_wLeaf)))
  (q_write_wLeaf:FK K "write_leaf" "write_leaf" sWLeaf f_write_wLeaf)
  (g_write_blank:PySem.W.nsIn K mainGlobals "BLANK"=some (some (.int 32 t_write_blank)))
  (g_write_quote:PySem.W.nsIn K mainGlobals "QUOTE"=some (some (.int 39 t_write_quote)))
  (g_write_lpar:PySem.W.nsIn K mainGlobals "LEFT_PAREN"=some (some (.int 40 t_write_lpar)))
  (g_write_rpar:PySem.W.nsIn K mainGlobals "RIGHT_PAREN"=some (some (.int 41 t_write_rpar)))
  (g_write_back:PySem.W.nsIn K mainGlobals "BACKSLASH"=some (some (.int 92 t_write_back)))
  (z_write_nenum:PySem.W.nsIn K mainGlobals "enumerate"=some none)
  (a_scan_letter:PySem.W.nsIn K mainGlobals "is_letter"=some (some (.ref f_scan_letter)))
  (q_scan_letter:FK K "is_letter" "is_letter" sLetter f_scan_letter)
  (a_scan_dig:PySem.W.nsIn K mainGlobals "is_digit"=some (some (.ref f_scan_dig)))
  (q_scan_dig:FK K "is_digit" "is_digit" sDigit f_scan_dig)
  (a_scan_S:PySem.W.nsIn K mainGlobals "Scanner"=some (some (.ref C_scan_S)))
  (q_scan_S:CK K C_scan_S)
  (n0_scan_S:PySem.W.findIn K (.ref C_scan_S) "text"=some none)
  (n1_scan_S:PySem.W.findIn K (.ref C_scan_S) "place"=some none)
  (a_scan_init:PySem.W.findIn K (.ref C_scan_S) "__init__"=some (some (.ref f_scan_init)))
  (i_scan_init:PySem.W.isFn K (.ref f_scan_init)=true)
  (q_scan_init:FK K "__init__" "Scanner.__init__" sScInit f_scan_init)
  (a_scan_byte:PySem.W.findIn K (.ref C_scan_S) "byte"=some (some (.ref f_scan_byte)))
  (i_scan_byte:PySem.W.isFn K (.ref f_scan_byte)=true)
  (q_scan_byte:FK K "byte" "Scanner.byte" sScByte f_scan_byte)
  (a_scan_skip:PySem.W.findIn K (.ref C_scan_S) "skip_blanks"=some (some (.ref f_scan_skip)))
  (i_scan_skip:PySem.W.isFn K (.ref f_scan_skip)=true)
  (q_scan_skip:FK K "skip_blanks" "Scanner.skip_blanks" sScSkip f_scan_skip)
  (a_scan_token:PySem.W.findIn K (.ref C_scan_S) "token"=some (some (.ref f_scan_token)))
  (i_scan_token:PySem.W.isFn K (.ref f_scan_token)=true)
  (q_scan_token:FK K "token" "Scanner.token" sScToken f_scan_token)
  (a_scan_name:PySem.W.findIn K (.ref C_scan_S) "name"=some (some (.ref f_scan_name)))
  (i_scan_name:PySem.W.isFn K (.ref f_scan_name)=true)
  (q_scan_name:FK K "name" "Scanner.name" sScName f_scan_name)
  (a_scan_leaf:PySem.W.findIn K (.ref C_scan_S) "leaf_text"=some (some (.ref f_scan_leaf)))
  (i_scan_leaf:PySem.W.isFn K (.ref f_scan_leaf)=true)
  (q_scan_leaf:FK K "leaf_text" "Scanner.leaf_text" sScLeaf f_scan_leaf)
  (a_scan_lbyte:PySem.W.findIn K (.ref C_scan_S) "leaf_byte"=some (some (.ref f_scan_lbyte)))
  (i_scan_lbyte:PySem.W.isFn K (.ref f_scan_lbyte)=true)
  (q_scan_lbyte:FK K "leaf_byte" "Scanner.leaf_byte" sScLByte f_scan_lbyte)
  (a_scan_cut:PySem.W.nsIn K mainGlobals "cut_tokens"=some (some (.ref f_scan_cut)))
  (q_scan_cut:FK K "cut_tokens" "cut_tokens" sCut f_scan_cut)
  (e_scan_nh:PySem.W.nsIn K mainGlobals "NoHedge"=some (some (.ref A_scan_NoHedge)))
  (x_scan_nhX:XK1 K A_scan_NoHedge)
  (g_scan_lf:PySem.W.nsIn K mainGlobals "LINE_FEED"=some (some (.int 10 t_scan_lf)))
  (g_scan_last:PySem.W.nsIn K mainGlobals "LAST_PLAIN"=some (some (.int 126 t_scan_last)))
  (g_scan_d0:PySem.W.nsIn K mainGlobals "DIGIT_0"=some (some (.int 48 t_scan_d0)))
  (g_scan_d9:PySem.W.nsIn K mainGlobals "DIGIT_9"=some (some (.int 57 t_scan_d9)))
  (g_scan_la:PySem.W.nsIn K mainGlobals "LETTER_A"=some (some (.int 97 t_scan_la)))
  (g_scan_lz:PySem.W.nsIn K mainGlobals "LETTER_Z"=some (some (.int 122 t_scan_lz)))
  (g_scan_kName:PySem.W.nsIn K mainGlobals "NAME"=some (some (.int 0 t_scan_kName)))
  (g_scan_kLeaf:PySem.W.nsIn K mainGlobals "LEAF"=some (some (.int 1 t_scan_kLeaf)))
  (g_scan_kDown:PySem.W.nsIn K mainGlobals "DOWN"=some (some (.int 2 t_scan_kDown)))
  (g_scan_kUp:PySem.W.nsIn K mainGlobals "UP"=some (some (.int 3 t_scan_kUp)))
  (g_scan_mName:PySem.W.nsIn K mainGlobals "MOST_NAME_BYTES"=some (some (.int 12 t_scan_mName)))
  (g_scan_mLeaf:PySem.W.nsIn K mainGlobals "MOST_LEAF_BYTES"=some (some (.int 200 t_scan_mLeaf)))
  (g_scan_past:PySem.W.nsIn K mainGlobals "PAST_END"=some (some (.int (-1) t_scan_past)))
  (z_scan_nlen:PySem.W.nsIn K mainGlobals "len"=some none)
  (a_read_B:PySem.W.nsIn K mainGlobals "Builder"=some (some (.ref C_read_B)))
  (q_read_B:CK K C_read_B)
  (n0_read_B:PySem.W.findIn K (.ref C_read_B) "rows"=some none)
  (n1_read_B:PySem.W.findIn K (.ref C_read_B) "names"=some none)
  (n2_read_B:PySem.W.findIn K (.ref C_read_B) "nodes"=some none)
  (a_read_init:PySem.W.findIn K (.ref C_read_B) "__init__"=some (some (.ref f_read_init)))
  (i_read_init:PySem.W.isFn K (.ref f_read_init)=true)
  (q_read_init:FK K "__init__" "Builder.__init__" sBInit f_read_init)
  (a_read_add:PySem.W.findIn K (.ref C_read_B) "add_tree"=some (some (.ref f_read_add)))
  (i_read_add:PySem.W.isFn K (.ref f_read_add)=true)
  (q_read_add:FK K "add_tree" "Builder.add_tree" sBAdd f_read_add)
  (a_read_down:PySem.W.findIn K (.ref C_read_B) "go_down"=some (some (.ref f_read_down)))
  (i_read_down:PySem.W.isFn K (.ref f_read_down)=true)
  (q_read_down:FK K "go_down" "Builder.go_down" sBDown f_read_down)
  (a_read_up:PySem.W.findIn K (.ref C_read_B) "come_up"=some (some (.ref f_read_up)))
  (i_read_up:PySem.W.isFn K (.ref f_read_up)=true)
  (q_read_up:FK K "come_up" "Builder.come_up" sBUp f_read_up)
  (a_read_whole:PySem.W.findIn K (.ref C_read_B) "whole"=some (some (.ref f_read_whole)))
  (i_read_whole:PySem.W.isFn K (.ref f_read_whole)=true)
  (q_read_whole:FK K "whole" "Builder.whole" sBWhole f_read_whole)
  (a_read_read:PySem.W.nsIn K mainGlobals "read_hedge"=some (some (.ref f_read_read)))
  (q_read_read:FK K "read_hedge" "read_hedge" sRead f_read_read)
  (g_read_mDepth:PySem.W.nsIn K mainGlobals "MOST_DEPTH"=some (some (.int 40 t_read_mDepth)))
  (g_read_mNodes:PySem.W.nsIn K mainGlobals "MOST_NODES"=some (some (.int 2000 t_read_mNodes)))
  (a_grid_G:PySem.W.nsIn K mainGlobals "Grid"=some (some (.ref C_grid_G)))
  (q_grid_G:CK K C_grid_G)
  (n0_grid_G:PySem.W.findIn K (.ref C_grid_G) "lead"=some none)
  (n1_grid_G:PySem.W.findIn K (.ref C_grid_G) "old"=some none)
  (n2_grid_G:PySem.W.findIn K (.ref C_grid_G) "new"=some none)
  (n3_grid_G:PySem.W.findIn K (.ref C_grid_G) "inner"=some none)
  (n4_grid_G:PySem.W.findIn K (.ref C_grid_G) "costs"=some none)
  (a_grid_init:PySem.W.findIn K (.ref C_grid_G) "__init__"=some (some (.ref f_grid_init)))
  (i_grid_init:PySem.W.isFn K (.ref f_grid_init)=true)
  (q_grid_init:FK K "__init__" "Grid.__init__" sGInit f_grid_init)
  (a_grid_last:PySem.W.findIn K (.ref C_grid_G) "last_costs"=some (some (.ref f_grid_last)))
  (i_grid_last:PySem.W.isFn K (.ref f_grid_last)=true)
  (q_grid_last:FK K "last_costs" "Grid.last_costs" sGLast f_grid_last)
  (a_grid_before:PySem.W.findIn K (.ref C_grid_G) "costs_before"=some (some (.ref f_grid_before)))
  (i_grid_before:PySem.W.isFn K (.ref f_grid_before)=true)
  (q_grid_before:FK K "costs_before" "Grid.costs_before" sGBefore f_grid_before)
  (a_grid_pair:PySem.W.findIn K (.ref C_grid_G) "pair_cost"=some (some (.ref f_grid_pair)))
  (i_grid_pair:PySem.W.isFn K (.ref f_grid_pair)=true)
  (q_grid_pair:FK K "pair_cost" "Grid.pair_cost" sGPair f_grid_pair)
  (a_grid_first:PySem.W.findIn K (.ref C_grid_G) "first_step"=some (some (.ref f_grid_first)))
  (i_grid_first:PySem.W.isFn K (.ref f_grid_first)=true)
  (q_grid_first:FK K "first_step" "Grid.first_step" sGFirst f_grid_first)
  (a_grid_inner:PySem.W.nsIn K mainGlobals "inner_grid"=some (some (.ref f_grid_inner)))
  (q_grid_inner:FK K "inner_grid" "inner_grid" sInner f_grid_inner)
  (g_grid_kPair:PySem.W.nsIn K mainGlobals "PAIR"=some (some (.int 0 t_grid_kPair)))
  (g_grid_kDrop:PySem.W.nsIn K mainGlobals "DROP"=some (some (.int 1 t_grid_kDrop)))
  (g_grid_kPut:PySem.W.nsIn K mainGlobals "PUT"=some (some (.int 2 t_grid_kPut)))
  (z_grid_nlen:PySem.W.nsIn K mainGlobals "len"=some none)
  (z_grid_nmin:PySem.W.nsIn K mainGlobals "min"=some none)
  (z_grid_nrange:PySem.W.nsIn K mainGlobals "range"=some none)
  (a_script_P:PySem.W.nsIn K mainGlobals "Pair"=some (some (.ref C_script_P)))
  (q_script_P:CK K C_script_P)
  (n0_script_P:PySem.W.findIn K (.ref C_script_P) "tree"=some none)
  (n1_script_P:PySem.W.findIn K (.ref C_script_P) "alone"=some none)
  (n2_script_P:PySem.W.findIn K (.ref C_script_P) "renewed"=some none)
  (n3_script_P:PySem.W.findIn K (.ref C_script_P) "row"=some none)
  (a_script_pinit:PySem.W.findIn K (.ref C_script_P) "__init__"=some (some (.ref f_script_pinit)))
  (i_script_pinit:PySem.W.isFn K (.ref f_script_pinit)=true)
  (q_script_pinit:FK K "__init__" "Pair.__init__" sPairInit f_script_pinit)
  (a_script_palone:PySem.W.nsIn K mainGlobals "pair_alone"=some (some (.ref f_script_palone)))
  (q_script_palone:FK K "pair_alone" "pair_alone" sPairAlone f_script_palone)
  (a_script_R:PySem.W.nsIn K mainGlobals "RowScript"=some (some (.ref C_script_R)))
  (q_script_R:CK K C_script_R)
  (n0_script_R:PySem.W.findIn K (.ref C_script_R) "cost"=some none)
  (n1_script_R:PySem.W.findIn K (.ref C_script_R) "puts"=some none)
  (n2_script_R:PySem.W.findIn K (.ref C_script_R) "fates"=some none)
  (a_script_rinit:PySem.W.findIn K (.ref C_script_R) "__init__"=some (some (.ref f_script_rinit)))
  (i_script_rinit:PySem.W.isFn K (.ref f_script_rinit)=true)
  (q_script_rinit:FK K "__init__" "RowScript.__init__" sRsInit f_script_rinit)
  (a_script_put:PySem.W.findIn K (.ref C_script_R) "add_put"=some (some (.ref f_script_put)))
  (i_script_put:PySem.W.isFn K (.ref f_script_put)=true)
  (q_script_put:FK K "add_put" "RowScript.add_put" sRsPut f_script_put)
  (a_script_fate:PySem.W.findIn K (.ref C_script_R) "add_fate"=some (some (.ref f_script_fate)))
  (i_script_fate:PySem.W.isFn K (.ref f_script_fate)=true)
  (q_script_fate:FK K "add_fate" "RowScript.add_fate" sRsFate f_script_fate)
  (a_script_told:PySem.W.nsIn K mainGlobals "told_script"=some (some (.ref f_script_told)))
  (q_script_told:FK K "told_script" "told_script" sTold f_script_told)
  (a_script_gscript:PySem.W.nsIn K mainGlobals "grid_script"=some (some (.ref f_script_gscript)))
  (q_script_gscript:FK K "grid_script" "grid_script" sGScript f_script_gscript)
  (a_script_gpair:PySem.W.nsIn K mainGlobals "grid_pair"=some (some (.ref f_script_gpair)))
  (q_script_gpair:FK K "grid_pair" "grid_pair" sGPairS f_script_gpair)
  (a_deed_T:PySem.W.nsIn K mainGlobals "Tally"=some (some (.ref C_deed_T)))
  (q_deed_T:CK K C_deed_T)
  (n0_deed_T:PySem.W.findIn K (.ref C_deed_T) "trees_put"=some none)
  (n1_deed_T:PySem.W.findIn K (.ref C_deed_T) "trees_dropped"=some none)
  (n2_deed_T:PySem.W.findIn K (.ref C_deed_T) "words_renewed"=some none)
  (n3_deed_T:PySem.W.findIn K (.ref C_deed_T) "trees_paired"=some none)
  (n4_deed_T:PySem.W.findIn K (.ref C_deed_T) "trees_alone"=some none)
  (a_deed_init:PySem.W.findIn K (.ref C_deed_T) "__init__"=some (some (.ref f_deed_init)))
  (i_deed_init:PySem.W.isFn K (.ref f_deed_init)=true)
  (q_deed_init:FK K "__init__" "Tally.__init__" sTaInit f_deed_init)
  (a_deed_row:PySem.W.findIn K (.ref C_deed_T) "count_row"=some (some (.ref f_deed_row)))
  (i_deed_row:PySem.W.isFn K (.ref f_deed_row)=true)
  (q_deed_row:FK K "count_row" "Tally.count_row" sTaRow f_deed_row)
  (a_deed_pair:PySem.W.findIn K (.ref C_deed_T) "count_pair"=some (some (.ref f_deed_pair)))
  (i_deed_pair:PySem.W.isFn K (.ref f_deed_pair)=true)
  (q_deed_pair:FK K "count_pair" "Tally.count_pair" sTaPair f_deed_pair)
  (a_deed_told:PySem.W.nsIn K mainGlobals "told_fate"=some (some (.ref f_deed_told)))
  (q_deed_told:FK K "told_fate" "told_fate" sToldFate f_deed_told)
  (a_deed_fateAt:PySem.W.nsIn K mainGlobals "fate_at"=some (some (.ref f_deed_fateAt)))
  (q_deed_fateAt:FK K "fate_at" "fate_at" sFateAt f_deed_fateAt)
  (a_deed_within:PySem.W.nsIn K mainGlobals "row_within"=some (some (.ref f_deed_within)))
  (q_deed_within:FK K "row_within" "row_within" sWithin f_deed_within)
  (a_deed_kind:PySem.W.nsIn K mainGlobals "fate_kind"=some (some (.ref f_deed_kind)))
  (q_deed_kind:FK K "fate_kind" "fate_kind" sKind f_deed_kind)
  (e_deed_nn:PySem.W.nsIn K mainGlobals "NoNode"=some (some (.ref A_deed_NoNode)))
  (x_deed_nnX:XK1 K A_deed_NoNode)
  (g_deed_kDropped:PySem.W.nsIn K mainGlobals "DROPPED"=some (some (.int 0 t_deed_kDropped)))
  (g_deed_kAlone:PySem.W.nsIn K mainGlobals "LEFT_ALONE"=some (some (.int 1 t_deed_kAlone)))
  (g_deed_kChanged:PySem.W.nsIn K mainGlobals "CHANGED"=some (some (.int 2 t_deed_kChanged)))
  (z_deed_nlen:PySem.W.nsIn K mainGlobals "len"=some none)
  (a_out_O:PySem.W.nsIn K mainGlobals "Outcome"=some (some (.ref C_out_O)))
  (q_out_O:CK K C_out_O)
  (n0_out_O:PySem.W.findIn K (.ref C_out_O) "conflicts"=some none)
  (n1_out_O:PySem.W.findIn K (.ref C_out_O) "hedge"=some none)
  (a_out_init:PySem.W.findIn K (.ref C_out_O) "__init__"=some (some (.ref f_out_init)))
  (i_out_init:PySem.W.isFn K (.ref f_out_init)=true)
  (q_out_init:FK K "__init__" "Outcome.__init__" sOInit f_out_init)
  (a_out_add:PySem.W.findIn K (.ref C_out_O) "add_conflict"=some (some (.ref f_out_add)))
  (i_out_add:PySem.W.isFn K (.ref f_out_add)=true)
  (q_out_add:FK K "add_conflict" "Outcome.add_conflict" sOAdd f_out_add)
  (a_out_row:PySem.W.findIn K (.ref C_out_O) "merged_row"=some (some (.ref f_out_row)))
  (i_out_row:PySem.W.isFn K (.ref f_out_row)=true)
  (q_out_row:FK K "merged_row" "Outcome.merged_row" sORow f_out_row)
  (a_out_puts:PySem.W.findIn K (.ref C_out_O) "merged_puts"=some (some (.ref f_out_puts)))
  (i_out_puts:PySem.W.isFn K (.ref f_out_puts)=true)
  (q_out_puts:FK K "merged_puts" "Outcome.merged_puts" sOPuts f_out_puts)
  (a_out_fates:PySem.W.findIn K (.ref C_out_O) "merged_fates"=some (some (.ref f_out_fates)))
  (i_out_fates:PySem.W.isFn K (.ref f_out_fates)=true)
  (q_out_fates:FK K "merged_fates" "Outcome.merged_fates" sOFates f_out_fates)
  (a_out_pairs:PySem.W.findIn K (.ref C_out_O) "merged_pairs"=some (some (.ref f_out_pairs)))
  (i_out_pairs:PySem.W.isFn K (.ref f_out_pairs)=true)
  (q_out_pairs:FK K "merged_pairs" "Outcome.merged_pairs" sOPairs f_out_pairs)
  (g_out_k1:PySem.W.nsIn K mainGlobals "BOTH_PUT"=some (some (.int 1 t_out_k1)))
  (g_out_k2:PySem.W.nsIn K mainGlobals "DROPPED_AND_CHANGED"=some (some (.int 2 t_out_k2)))
  (g_out_k3:PySem.W.nsIn K mainGlobals "BOTH_RENEWED"=some (some (.int 3 t_out_k3)))
  (a_held_checkV:PySem.W.nsIn K mainGlobals "check_version"=some (some (.ref f_held_checkV)))
  (q_held_checkV:FK K "check_version" "check_version" sCheckV f_held_checkV)
  (a_held_checkS:PySem.W.nsIn K mainGlobals "check_size"=some (some (.ref f_held_checkS)))
  (q_held_checkS:FK K "check_size" "check_size" sCheckS f_held_checkS)
  (a_held_held:PySem.W.nsIn K mainGlobals "held_hedge"=some (some (.ref f_held_held)))
  (q_held_held:FK K "held_hedge" "held_hedge" sHeld f_held_held)
  (e_held_nv:PySem.W.nsIn K mainGlobals "NoVersion"=some (some (.ref A_held_NoVersion)))
  (x_held_nvX:XK1 K A_held_NoVersion)
  (e_held_tm:PySem.W.nsIn K mainGlobals "TooManyNodes"=some (some (.ref A_held_TooMany)))
  (x_held_tmX:XK1 K A_held_TooMany)
  (g_held_most:PySem.W.nsIn K mainGlobals "MOST_HELD_NODES"=some (some (.int 200 t_held_most)))
  (a_trio_T:PySem.W.nsIn K mainGlobals "Trio"=some (some (.ref C_trio_T)))
  (q_trio_T:CK K C_trio_T)
  (n0_trio_T:PySem.W.findIn K (.ref C_trio_T) "hedges"=some none)
  (n1_trio_T:PySem.W.findIn K (.ref C_trio_T) "scripts"=some none)
  (a_trio_init:PySem.W.findIn K (.ref C_trio_T) "__init__"=some (some (.ref f_trio_init)))
  (i_trio_init:PySem.W.isFn K (.ref f_trio_init)=true)
  (q_trio_init:FK K "__init__" "Trio.__init__" sTInit f_trio_init)
  (a_trio_all:PySem.W.findIn K (.ref C_trio_T) "set_all"=some (some (.ref f_trio_all)))
  (i_trio_all:PySem.W.isFn K (.ref f_trio_all)=true)
  (q_trio_all:FK K "set_all" "Trio.set_all" sTAll f_trio_all)
  (a_trio_ver:PySem.W.findIn K (.ref C_trio_T) "set_version"=some (some (.ref f_trio_ver)))
  (i_trio_ver:PySem.W.isFn K (.ref f_trio_ver)=true)
  (q_trio_ver:FK K "set_version" "Trio.set_version" sTVer f_trio_ver)
  (a_trio_forget:PySem.W.findIn K (.ref C_trio_T) "forget_scripts"=some (some (.ref f_trio_forget)))
  (i_trio_forget:PySem.W.isFn K (.ref f_trio_forget)=true)
  (q_trio_forget:FK K "forget_scripts" "Trio.forget_scripts" sTForget f_trio_forget)
  (a_trio_scr:PySem.W.findIn K (.ref C_trio_T) "script"=some (some (.ref f_trio_scr)))
  (i_trio_scr:PySem.W.isFn K (.ref f_trio_scr)=true)
  (q_trio_scr:FK K "script" "Trio.script" sTScr f_trio_scr)
  (a_trio_out:PySem.W.findIn K (.ref C_trio_T) "outcome"=some (some (.ref f_trio_out)))
  (i_trio_out:PySem.W.isFn K (.ref f_trio_out)=true)
  (q_trio_out:FK K "outcome" "Trio.outcome" sTOut f_trio_out)
  (a_trio_hout:PySem.W.findIn K (.ref C_trio_T) "held_outcome"=some (some (.ref f_trio_hout)))
  (i_trio_hout:PySem.W.isFn K (.ref f_trio_hout)=true)
  (q_trio_hout:FK K "held_outcome" "Trio.held_outcome" sTHOut f_trio_hout)
  (a_cur_C:PySem.W.nsIn K mainGlobals "Cursor"=some (some (.ref C_cur_C)))
  (q_cur_C:CK K C_cur_C)
  (n0_cur_C:PySem.W.findIn K (.ref C_cur_C) "calls"=some none)
  (n1_cur_C:PySem.W.findIn K (.ref C_cur_C) "place"=some none)
  (a_cur_init:PySem.W.findIn K (.ref C_cur_C) "__init__"=some (some (.ref f_cur_init)))
  (i_cur_init:PySem.W.isFn K (.ref f_cur_init)=true)
  (q_cur_init:FK K "__init__" "Cursor.__init__" sCuInit f_cur_init)
  (a_cur_fin:PySem.W.findIn K (.ref C_cur_C) "at_end"=some (some (.ref f_cur_fin)))
  (i_cur_fin:PySem.W.isFn K (.ref f_cur_fin)=true)
  (q_cur_fin:FK K "at_end" "Cursor.at_end" sCuEnd f_cur_fin)
  (a_cur_num:PySem.W.findIn K (.ref C_cur_C) "take_number"=some (some (.ref f_cur_num)))
  (i_cur_num:PySem.W.isFn K (.ref f_cur_num)=true)
  (q_cur_num:FK K "take_number" "Cursor.take_number" sCuNum f_cur_num)
  (a_cur_row:PySem.W.findIn K (.ref C_cur_C) "take_row"=some (some (.ref f_cur_row)))
  (i_cur_row:PySem.W.isFn K (.ref f_cur_row)=true)
  (q_cur_row:FK K "take_row" "Cursor.take_row" sCuRow f_cur_row)
  (a_cur_counted:PySem.W.nsIn K mainGlobals "counted"=some (some (.ref f_cur_counted)))
  (q_cur_counted:FK K "counted" "counted" sCounted f_cur_counted)
  (z_cur_nlen:PySem.W.nsIn K mainGlobals "len"=some none)
  (a_calls_base:PySem.W.nsIn K mainGlobals "call_base"=some (some (.ref f_calls_base)))
  (q_calls_base:FK K "call_base" "call_base" sCBase f_calls_base)
  (a_calls_ver:PySem.W.nsIn K mainGlobals "call_version"=some (some (.ref f_calls_ver)))
  (q_calls_ver:FK K "call_version" "call_version" sCVer f_calls_ver)
  (a_calls_form:PySem.W.nsIn K mainGlobals "call_form"=some (some (.ref f_calls_form)))
  (q_calls_form:FK K "call_form" "call_form" sCForm f_calls_form)
  (a_calls_merge:PySem.W.nsIn K mainGlobals "call_merge"=some (some (.ref f_calls_merge)))
  (q_calls_merge:FK K "call_merge" "call_merge" sCMerge f_calls_merge)
  (a_calls_conf:PySem.W.nsIn K mainGlobals "call_conflicts"=some (some (.ref f_calls_conf)))
  (q_calls_conf:FK K "call_conflicts" "call_conflicts" sCConf f_calls_conf)
  (a_calls_did:PySem.W.nsIn K mainGlobals "call_did"=some (some (.ref f_calls_did)))
  (q_calls_did:FK K "call_did" "call_did" sCDid f_calls_did)
  (a_calls_fate:PySem.W.nsIn K mainGlobals "call_fate"=some (some (.ref f_calls_fate)))
  (q_calls_fate:FK K "call_fate" "call_fate" sCFate f_calls_fate)
  (a_calls_dist:PySem.W.nsIn K mainGlobals "call_distances"=some (some (.ref f_calls_dist)))
  (q_calls_dist:FK K "call_distances" "call_distances" sCDist f_calls_dist)
  (a_calls_take:PySem.W.nsIn K mainGlobals "call_take"=some (some (.ref f_calls_take)))
  (q_calls_take:FK K "call_take" "call_take" sCTake f_calls_take)
  (a_calls_settle:PySem.W.nsIn K mainGlobals "call_settle"=some (some (.ref f_calls_settle)))
  (q_calls_settle:FK K "call_settle" "call_settle" sCSettle f_calls_settle)
  (a_ans_ans:PySem.W.nsIn K mainGlobals "answer_call"=some (some (.ref f_ans_ans)))
  (q_ans_ans:FK K "answer_call" "answer_call" sAnsCall f_ans_ans)
  (a_ans_all:PySem.W.nsIn K mainGlobals "answers"=some (some (.ref f_ans_all)))
  (q_ans_all:FK K "answers" "answers" sAnswers f_ans_all)
  (e_ans_tab:PySem.W.nsIn K mainGlobals "CALLS"=some (some (.ref A_ans_d)))
  (g_ans_cNH:PySem.W.nsIn K mainGlobals "NO_HEDGE"=some (some (.int (-1) t_ans_cNH)))
  (g_ans_cNV:PySem.W.nsIn K mainGlobals "NO_VERSION"=some (some (.int (-2) t_ans_cNV)))
  (g_ans_cNN:PySem.W.nsIn K mainGlobals "NO_NODE"=some (some (.int (-4) t_ans_cNN)))
  (g_ans_cTM:PySem.W.nsIn K mainGlobals "TOO_MANY_NODES"=some (some (.int (-5) t_ans_cTM)))
  (tabD:K.lookup A_ans_d=some ⟨.type "dict",none,.dict #[⟨0,.int 0 tk_0,.ref f_calls_base⟩,⟨1,.int 1 tk_1,.ref f_calls_ver⟩,⟨2,.int 2 tk_2,.ref f_calls_form⟩,⟨3,.int 3 tk_3,.ref f_calls_merge⟩,⟨4,.int 4 tk_4,.ref f_calls_conf⟩,⟨5,.int 5 tk_5,.ref f_calls_did⟩,⟨6,.int 6 tk_6,.ref f_calls_fate⟩,⟨7,.int 7 tk_7,.ref f_calls_dist⟩,⟨8,.int 8 tk_8,.ref f_calls_take⟩,⟨9,.int 9 tk_9,.ref f_calls_settle⟩] ep_tab,#[]⟩)
  (d12:A_held_NoVersion≠A_scan_NoHedge) (d15:A_held_TooMany≠A_scan_NoHedge) (d25:A_held_TooMany≠A_held_NoVersion) (d14:A_deed_NoNode≠A_scan_NoHedge) (d24:A_deed_NoNode≠A_held_NoVersion) (d45:A_held_TooMany≠A_deed_NoNode):∃fd:FuncData,(∀(s:Shared) (us:List Value),us.length=(["calls"]:List Str).length->BindsTo s fd ⟨us,[]⟩ ((["calls"]:List Str).zip us))/\∀base:Heap,K.In base->base.Ns mainGlobals mg->zj P w K mg base CX0 174 fa fd ["calls"] (spAll K):=by
 let Ttree:zw K mg:={
  T:=Cl.of X G a_tree_T q_tree_T (zW n0_tree_T (zW n1_tree_T (zW n2_tree_T (zW n3_tree_T jE)))),
  init:=Me.of a_tree_init i_tree_init q_tree_init fun _ _ _ _ _ _ us hl=>match us,hl with | [_,_,_,_],_=>rfl,
  mk1:=Mk.of q_tree_T a_tree_init i_tree_init,
  size:=Df.of X G a_tree_size q_tree_size fun _ _ _ _ _ _ us hl=>match us,hl with | [_],_=>rfl,
  sTree:=Df.of X G a_tree_sTree q_tree_sTree fun _ _ _ _ _ _ us hl=>match us,hl with | [_,_],_=>rfl,
  sHedge:=Df.of X G a_tree_sHedge q_tree_sHedge fun _ _ _ _ _ _ us hl=>match us,hl with | [_,_],_=>rfl,
  sLead:=Df.of X G a_tree_sLead q_tree_sLead fun _ _ _ _ _ _ us hl=>match us,hl with | [_,_],_=>rfl,
  nsum:=PySem.W.mg_none_of X G z_tree_nsum,
  nlen:=PySem.W.mg_none_of X G z_tree_nlen}
 let Twrite:y9 K mg:={
  form:=Df.of X G a_write_form q_write_form fun _ _ _ _ _ _ us hl=>match us,hl with | [_],_=>rfl,
  wHedge:=Df.of X G a_write_wHedge q_write_wHedge fun _ _ _ _ _ _ us hl=>match us,hl with | [_,_],_=>rfl,
  wTree:=Df.of X G a_write_wTree q_write_wTree fun _ _ _ _ _ _ us hl=>match us,hl with | [_,_],_=>rfl,
  wLeaf:=Df.of X G a_write_wLeaf q_write_wLeaf fun _ _ _ _ _ _ us hl=>match us,hl with | [_,_],_=>rfl,
  blank:=GlI.of X G g_write_blank,
  quote:=GlI.of X G g_write_quote,
  lpar:=GlI.of X G g_write_lpar,
  rpar:=GlI.of X G g_write_rpar,
  back:=GlI.of X G g_write_back,
  nenum:=PySem.W.mg_none_of X G z_write_nenum}
 let Tscan:yf K mg:={
  letter:=Df.of X G a_scan_letter q_scan_letter fun _ _ _ _ _ _ us hl=>match us,hl with | [_],_=>rfl,
  dig:=Df.of X G a_scan_dig q_scan_dig fun _ _ _ _ _ _ us hl=>match us,hl with | [_],_=>rfl,
  S:=Cl.of X G a_scan_S q_scan_S (zW n0_scan_S (zW n1_scan_S jE)),
  init:=Me.of a_scan_init i_scan_init q_scan_init fun _ _ _ _ _ _ us hl=>match us,hl with | [_,_],_=>rfl,
  mk1:=Mk.of q_scan_S a_scan_init i_scan_init,
  byte:=Me.of a_scan_byte i_scan_byte q_scan_byte fun _ _ _ _ _ _ us hl=>match us,hl with | [_],_=>rfl,
  skip:=Me.of a_scan_skip i_scan_skip q_scan_skip fun _ _ _ _ _ _ us hl=>match us,hl with | [_],_=>rfl,
  token:=Me.of a_scan_token i_scan_token q_scan_token fun _ _ _ _ _ _ us hl=>match us,hl with | [_],_=>rfl,
  name:=Me.of a_scan_name i_scan_name q_scan_name fun _ _ _ _ _ _ us hl=>match us,hl with | [_],_=>rfl,
  leaf:=Me.of a_scan_leaf i_scan_leaf q_scan_leaf fun _ _ _ _ _ _ us hl=>match us,hl with | [_],_=>rfl,
  lbyte:=Me.of a_scan_lbyte i_scan_lbyte q_scan_lbyte fun _ _ _ _ _ _ us hl=>match us,hl with | [_],_=>rfl,
  cut:=Df.of X G a_scan_cut q_scan_cut fun _ _ _ _ _ _ us hl=>match us,hl with | [_],_=>rfl,
  NoHedge:=A_scan_NoHedge,
  nh:=PySem.W.mg_of X G e_scan_nh,
  nhX:=x_scan_nhX,
  lf:=GlI.of X G g_scan_lf,
  last:=GlI.of X G g_scan_last,
  d0:=GlI.of X G g_scan_d0,
  d9:=GlI.of X G g_scan_d9,
  la:=GlI.of X G g_scan_la,
  lz:=GlI.of X G g_scan_lz,
  kName:=GlI.of X G g_scan_kName,
  kLeaf:=GlI.of X G g_scan_kLeaf,
  kDown:=GlI.of X G g_scan_kDown,
  kUp:=GlI.of X G g_scan_kUp,
  mName:=GlI.of X G g_scan_mName,
  mLeaf:=GlI.of X G g_scan_mLeaf,
  past:=GlI.of X G g_scan_past,
  nlen:=PySem.W.mg_none_of X G z_scan_nlen}
 let Tread:jD K mg:={
  B:=Cl.of X G a_read_B q_read_B (zW n0_read_B (zW n1_read_B (zW n2_read_B jE))),
  init:=Me.of a_read_init i_read_init q_read_init fun _ _ _ _ _ _ us hl=>match us,hl with | [_],_=>rfl,
  mk1:=Mk.of q_read_B a_read_init i_read_init,
  add:=Me.of a_read_add i_read_add q_read_add fun _ _ _ _ _ _ us hl=>match us,hl with | [_,_,_],_=>rfl,
  down:=Me.of a_read_down i_read_down q_read_down fun _ _ _ _ _ _ us hl=>match us,hl with | [_],_=>rfl,
  up:=Me.of a_read_up i_read_up q_read_up fun _ _ _ _ _ _ us hl=>match us,hl with | [_],_=>rfl,
  whole:=Me.of a_read_whole i_read_whole q_read_whole fun _ _ _ _ _ _ us hl=>match us,hl with | [_],_=>rfl,
  read:=Df.of X G a_read_read q_read_read fun _ _ _ _ _ _ us hl=>match us,hl with | [_],_=>rfl,
  mDepth:=GlI.of X G g_read_mDepth,
  mNodes:=GlI.of X G g_read_mNodes}
 let Tgrid:ym K mg:={
  G:=Cl.of X G a_grid_G q_grid_G (zW n0_grid_G (zW n1_grid_G (zW n2_grid_G (zW n3_grid_G (zW n4_grid_G jE))))),
  init:=Me.of a_grid_init i_grid_init q_grid_init fun _ _ _ _ _ _ us hl=>match us,hl with | [_,_,_],_=>rfl,
  mk1:=Mk.of q_grid_G a_grid_init i_grid_init,
  last:=Me.of a_grid_last i_grid_last q_grid_last fun _ _ _ _ _ _ us hl=>match us,hl with | [_],_=>rfl,
  before:=Me.of a_grid_before i_grid_before q_grid_before fun _ _ _ _ _ _ us hl=>match us,hl with | [_,_],_=>rfl,
  pair:=Me.of a_grid_pair i_grid_pair q_grid_pair fun _ _ _ _ _ _ us hl=>match us,hl with | [_,_,_],_=>rfl,
  first:=Me.of a_grid_first i_grid_first q_grid_first fun _ _ _ _ _ _ us hl=>match us,hl with | [_,_,_],_=>rfl,
  inner:=Df.of X G a_grid_inner q_grid_inner fun _ _ _ _ _ _ us hl=>match us,hl with | [_,_],_=>rfl,
  kPair:=GlI.of X G g_grid_kPair,
  kDrop:=GlI.of X G g_grid_kDrop,
  kPut:=GlI.of X G g_grid_kPut,
  nlen:=PySem.W.mg_none_of X G z_grid_nlen,
  nmin:=PySem.W.mg_none_of X G z_grid_nmin,
  nrange:=PySem.W.mg_none_of X G z_grid_nrange}
 let Tscript:zB K mg:={
  P:=Cl.of X G a_script_P q_script_P (zW n0_script_P (zW n1_script_P (zW n2_script_P (zW n3_script_P jE)))),
  pinit:=Me.of a_script_pinit i_script_pinit q_script_pinit fun _ _ _ _ _ _ us hl=>match us,hl with | [_,_,_,_,_],_=>rfl,
  pmk:=Mk.of q_script_P a_script_pinit i_script_pinit,
  palone:=Df.of X G a_script_palone q_script_palone fun _ _ _ _ _ _ us hl=>match us,hl with | [_],_=>rfl,
  R:=Cl.of X G a_script_R q_script_R (zW n0_script_R (zW n1_script_R (zW n2_script_R jE))),
  rinit:=Me.of a_script_rinit i_script_rinit q_script_rinit fun _ _ _ _ _ _ us hl=>match us,hl with | [_,_,_],_=>rfl,
  rmk:=Mk.of q_script_R a_script_rinit i_script_rinit,
  put:=Me.of a_script_put i_script_put q_script_put fun _ _ _ _ _ _ us hl=>match us,hl with | [_,_],_=>rfl,
  fate:=Me.of a_script_fate i_script_fate q_script_fate fun _ _ _ _ _ _ us hl=>match us,hl with | [_,_],_=>rfl,
  told:=Df.of X G a_script_told q_script_told fun _ _ _ _ _ _ us hl=>match us,hl with | [_,_],_=>rfl,
  gscript:=Df.of X G a_script_gscript q_script_gscript fun _ _ _ _ _ _ us hl=>match us,hl with | [_],_=>rfl,
  gpair:=Df.of X G a_script_gpair q_script_gpair fun _ _ _ _ _ _ us hl=>match us,hl with | [_,_,_],_=>rfl}
 let Tdeed:yy K mg:={
  T:=Cl.of X G a_deed_T q_deed_T (zW n0_deed_T (zW n1_deed_T (zW n2_deed_T (zW n3_deed_T (zW n4_deed_T jE))))),
  init:=Me.of a_deed_init i_deed_init q_deed_init fun _ _ _ _ _ _ us hl=>match us,hl with | [_,_],_=>rfl,
  mk1:=Mk.of q_deed_T a_deed_init i_deed_init,
  row:=Me.of a_deed_row i_deed_row q_deed_row fun _ _ _ _ _ _ us hl=>match us,hl with | [_,_],_=>rfl,
  pair:=Me.of a_deed_pair i_deed_pair q_deed_pair fun _ _ _ _ _ _ us hl=>match us,hl with | [_,_],_=>rfl,
  told:=Df.of X G a_deed_told q_deed_told fun _ _ _ _ _ _ us hl=>match us,hl with | [_,_],_=>rfl,
  fateAt:=Df.of X G a_deed_fateAt q_deed_fateAt fun _ _ _ _ _ _ us hl=>match us,hl with | [_,_],_=>rfl,
  within:=Df.of X G a_deed_within q_deed_within fun _ _ _ _ _ _ us hl=>match us,hl with | [_],_=>rfl,
  kind:=Df.of X G a_deed_kind q_deed_kind fun _ _ _ _ _ _ us hl=>match us,hl with | [_],_=>rfl,
  NoNode:=A_deed_NoNode,
  nn:=PySem.W.mg_of X G e_deed_nn,
  nnX:=x_deed_nnX,
  kDropped:=GlI.of X G g_deed_kDropped,
  kAlone:=GlI.of X G g_deed_kAlone,
  kChanged:=GlI.of X G g_deed_kChanged,
  nlen:=PySem.W.mg_none_of X G z_deed_nlen}
 let Tout:jd K mg:={
  O:=Cl.of X G a_out_O q_out_O (zW n0_out_O (zW n1_out_O jE)),
  init:=Me.of a_out_init i_out_init q_out_init fun _ _ _ _ _ _ us hl=>match us,hl with | [_,_,_],_=>rfl,
  mk1:=Mk.of q_out_O a_out_init i_out_init,
  add:=Me.of a_out_add i_out_add q_out_add fun _ _ _ _ _ _ us hl=>match us,hl with | [_,_,_],_=>rfl,
  row:=Me.of a_out_row i_out_row q_out_row fun _ _ _ _ _ _ us hl=>match us,hl with | [_,_,_,_],_=>rfl,
  puts:=Me.of a_out_puts i_out_puts q_out_puts fun _ _ _ _ _ _ us hl=>match us,hl with | [_,_,_,_],_=>rfl,
  fates:=Me.of a_out_fates i_out_fates q_out_fates fun _ _ _ _ _ _ us hl=>match us,hl with | [_,_,_,_],_=>rfl,
  pairs:=Me.of a_out_pairs i_out_pairs q_out_pairs fun _ _ _ _ _ _ us hl=>match us,hl with | [_,_,_,_],_=>rfl,
  k1:=GlI.of X G g_out_k1,
  k2:=GlI.of X G g_out_k2,
  k3:=GlI.of X G g_out_k3}
 let Theld:yY K mg:={
  checkV:=Df.of X G a_held_checkV q_held_checkV fun _ _ _ _ _ _ us hl=>match us,hl with | [_],_=>rfl,
  checkS:=Df.of X G a_held_checkS q_held_checkS fun _ _ _ _ _ _ us hl=>match us,hl with | [_],_=>rfl,
  held:=Df.of X G a_held_held q_held_held fun _ _ _ _ _ _ us hl=>match us,hl with | [_],_=>rfl,
  NoVersion:=A_held_NoVersion,
  nv:=PySem.W.mg_of X G e_held_nv,
  nvX:=x_held_nvX,
  TooMany:=A_held_TooMany,
  tm:=PySem.W.mg_of X G e_held_tm,
  tmX:=x_held_tmX,
  most:=GlI.of X G g_held_most}
 let Ttrio:yH K mg:={
  T:=Cl.of X G a_trio_T q_trio_T (zW n0_trio_T (zW n1_trio_T jE)),
  init:=Me.of a_trio_init i_trio_init q_trio_init fun _ _ _ _ _ _ us hl=>match us,hl with | [_],_=>rfl,
  mk1:=Mk.of q_trio_T a_trio_init i_trio_init,
  all:=Me.of a_trio_all i_trio_all q_trio_all fun _ _ _ _ _ _ us hl=>match us,hl with | [_,_],_=>rfl,
  ver:=Me.of a_trio_ver i_trio_ver q_trio_ver fun _ _ _ _ _ _ us hl=>match us,hl with | [_,_,_],_=>rfl,
  forget:=Me.of a_trio_forget i_trio_forget q_trio_forget fun _ _ _ _ _ _ us hl=>match us,hl with | [_,_],_=>rfl,
  scr:=Me.of a_trio_scr i_trio_scr q_trio_scr fun _ _ _ _ _ _ us hl=>match us,hl with | [_,_,_],_=>rfl,
  out:=Me.of a_trio_out i_trio_out q_trio_out fun _ _ _ _ _ _ us hl=>match us,hl with | [_,_],_=>rfl,
  hout:=Me.of a_trio_hout i_trio_hout q_trio_hout fun _ _ _ _ _ _ us hl=>match us,hl with | [_,_],_=>rfl}
 let Tcur:xk K mg:={
  C:=Cl.of X G a_cur_C q_cur_C (zW n0_cur_C (zW n1_cur_C jE)),
  init:=Me.of a_cur_init i_cur_init q_cur_init fun _ _ _ _ _ _ us hl=>match us,hl with | [_,_],_=>rfl,
  mk1:=Mk.of q_cur_C a_cur_init i_cur_init,
  fin:=Me.of a_cur_fin i_cur_fin q_cur_fin fun _ _ _ _ _ _ us hl=>match us,hl with | [_],_=>rfl,
  num:=Me.of a_cur_num i_cur_num q_cur_num fun _ _ _ _ _ _ us hl=>match us,hl with | [_],_=>rfl,
  row:=Me.of a_cur_row i_cur_row q_cur_row fun _ _ _ _ _ _ us hl=>match us,hl with | [_],_=>rfl,
  counted:=Df.of X G a_cur_counted q_cur_counted fun _ _ _ _ _ _ us hl=>match us,hl with | [_],_=>rfl,
  nlen:=PySem.W.mg_none_of X G z_cur_nlen}
 let Tcalls:j0 K mg:={
  base:=Df.of X G a_calls_base q_calls_base fun _ _ _ _ _ _ us hl=>match us,hl with | [_,_],_=>rfl,
  ver:=Df.of X G a_calls_ver q_calls_ver fun _ _ _ _ _ _ us hl=>match us,hl with | [_,_],_=>rfl,
  form:=Df.of X G a_calls_form q_calls_form fun _ _ _ _ _ _ us hl=>match us,hl with | [_,_],_=>rfl,
  merge:=Df.of X G a_calls_merge q_calls_merge fun _ _ _ _ _ _ us hl=>match us,hl with | [_,_],_=>rfl,
  conf:=Df.of X G a_calls_conf q_calls_conf fun _ _ _ _ _ _ us hl=>match us,hl with | [_,_],_=>rfl,
  did:=Df.of X G a_calls_did q_calls_did fun _ _ _ _ _ _ us hl=>match us,hl with | [_,_],_=>rfl,
  fate:=Df.of X G a_calls_fate q_calls_fate fun _ _ _ _ _ _ us hl=>match us,hl with | [_,_],_=>rfl,
  dist:=Df.of X G a_calls_dist q_calls_dist fun _ _ _ _ _ _ us hl=>match us,hl with | [_,_],_=>rfl,
  take:=Df.of X G a_calls_take q_calls_take fun _ _ _ _ _ _ us hl=>match us,hl with | [_,_],_=>rfl,
  settle:=Df.of X G a_calls_settle q_calls_settle fun _ _ _ _ _ _ us hl=>match us,hl with | [_,_],_=>rfl}
 let Tans:TxAns K mg:={
  ans:=Df.of X G a_ans_ans q_ans_ans fun _ _ _ _ _ _ us hl=>match us,hl with | [_,_],_=>rfl,
  all:=Df.of X G a_ans_all q_ans_all fun _ _ _ _ _ _ us hl=>match us,hl with | [_],_=>rfl,
  d:=A_ans_d,
  tab:=PySem.W.mg_of X G e_ans_tab,
  cNH:=GlI.of X G g_ans_cNH,
  cNV:=GlI.of X G g_ans_cNV,
  cNN:=GlI.of X G g_ans_cNN,
  cTM:=GlI.of X G g_ans_cTM}
 have TB:TabK K Tans.d [(0,f_calls_base),(1,f_calls_ver),(2,f_calls_form),(3,f_calls_merge),(4,f_calls_conf),(5,f_calls_did),(6,f_calls_fate),(7,f_calls_dist),(8,f_calls_take),(9,f_calls_settle)]:=⟨[⟨0,.int 0 tk_0,.ref f_calls_base⟩,⟨1,.int 1 tk_1,.ref f_calls_ver⟩,⟨2,.int 2 tk_2,.ref f_calls_form⟩,⟨3,.int 3 tk_3,.ref f_calls_merge⟩,⟨4,.int 4 tk_4,.ref f_calls_conf⟩,⟨5,.int 5 tk_5,.ref f_calls_did⟩,⟨6,.int 6 tk_6,.ref f_calls_fate⟩,⟨7,.int 7 tk_7,.ref f_calls_dist⟩,⟨8,.int 8 tk_8,.ref f_calls_take⟩,⟨9,.int 9 tk_9,.ref f_calls_settle⟩],ep_tab,tabD,.cons (by decide +kernel) (.cons (by decide +kernel) (.cons (by decide +kernel) (.cons (by decide +kernel) (.cons (by decide +kernel) (.cons (by decide +kernel) (.cons (by decide +kernel) (.cons (by decide +kernel) (.cons (by decide +kernel) (.cons (by decide +kernel) .nil)))))))))⟩
 have e:=hfa.symm.trans (PySem.W.mg_of X G a_ans_all)
 cases e
 refine⟨Tans.all.fd,NX Tans.all.F fun _ _ _ _ _ _ us hl=>match us,hl with | [_],_=>rfl,fun base _ _=>?_⟩
 exact zcp (A:=J1 Tscan Theld Ttree Tscript Ttrio Tcur Tdeed) (good:=isNum) Tans Tcur Ttrio Tscript Ttree rfl rfl rfl rfl rfl (by decide) zab (zck Tans Tcur Theld Tscan Tdeed rfl rfl rfl rfl rfl d12 d15 d25 d14 d24 d45 (by decide) TB (fun p hp=>by rcases hp with rfl | rfl | rfl | rfl | rfl | rfl | rfl | rfl | rfl | rfl <;> exact⟨_,rfl⟩) (za4 (jg (xH.of Tcalls.base (IJ Tcalls Tdeed Tcur Ttrio Theld Tscript Tread Tscan Twrite Ttree) (by decide) zc7) (jg (xH.of Tcalls.ver (zb8 Tcalls Tdeed Tcur Ttrio Theld Tscript Tread Tscan Twrite Ttree) (by decide) zcz) (jg (xH.of Tcalls.form (Iz Tcalls Tdeed Tcur Ttrio Theld Tscript Tscan Twrite Ttree) (by decide) zct) (jg (xH.of Tcalls.merge (Ic Tcalls Tdeed Tcur Ttrio Theld Tout Tgrid Tscript Tscan Twrite Ttree) (by decide) zca) (jg (xH.of Tcalls.conf (zaf Tcalls Tdeed Tcur Ttrio Theld Tout Tgrid Tscript Tscan Twrite Ttree).calm (by decide) zce) (jg (xH.of Tcalls.did (zbd Tcalls Tdeed Tcur Ttrio Theld Tgrid Tscript Tscan Ttree) (by decide) zcl) (jg (xH.of Tcalls.fate (zaj Tcalls Tdeed Tcur Ttrio Theld Tgrid Tscript Tscan Ttree) (by decide) zc6) (jg (xH.of Tcalls.dist (zae Tcalls Tdeed Tcur Ttrio Theld Tgrid Tscript Tscan Ttree).calm (by decide) zc3) (jg (xH.of Tcalls.take (Iw Tcalls Tdeed Tcur Ttrio Theld Tout Tgrid Tscript Tscan Twrite Ttree) (by decide) zc5) (jg (xH.of Tcalls.settle (Nz Tcalls Tdeed Tcur Ttrio Theld Tout Tgrid Tscript Tscan Twrite Ttree) (by decide) zch) (zcd)))))))))))))
end Hm
end
section
open PySem PySem.W PyProof.Rows
set_option maxRecDepth 100000 in
set_option maxHeartbeats 0 in
theorem PySem.Challenge.cw_hedgemerge_s01_answers_holds : PySem.Challenge.rw_hedgemerge_s01_answers.Holds := by
  w_on; k_headS; (case hw => exact ⟨[.list [.int 4]], by decide +kernel, by decide +kernel⟩)
  k_fillS
  refine L2.walk_specK (r := PySem.Challenge.rw_hedgemerge_s01_answers) (k := 174) (CX := L2.CX0) (ps := ["calls"]) (sp := Hm.spAll) (by decide +kernel) rfl rfl ⟨rfl, by decide, by decide⟩ (fun w h Y => PySem.W.kIn_of Y) ?F ?S (fun _ _ _ _ z => z)
  case F =>
    intro w mg fa h Y KX G hmg
    refine' Hm.all_mk KX G hmg ..
    all_goals first | k_is | (refine' Hm.FK.of ?l ?c ?k; (case l => k_is); (case c => k_is); (case k => k_is)) | (refine' Hm.CK.of ?_ ?_ ?_ ?_ ?_ ?_ <;> k_is) | (refine' Hm.Exc.of ?l ?e; (case l => k_is); (case e => k_exc)) | (show _ ≠ _; decide) | skip
  case S =>
    intro K H xs a hO hwi hask hx
    cases hx with
    | cons h1 h2 =>
      cases h2
      cases h1 with
      | lst hs ha =>
        have e := L2.ints_dw a.1 _ ha
        subst e
        have q : ((Codec.inLen 0 16000 a.1 && a.1.all (Codec.inInt (-1000000000000000000) 1000000000000000000)) && true) = true := hwi
        rw [Bool.and_eq_true, Bool.and_eq_true] at q
        exact Hm.spec_all hO hs (Codec.inNat_iff.mp q.1.1).2 hask

end
