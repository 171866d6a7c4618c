import PyProof.Rows.All
import Wide.All
import OpenK.AllK
import Wide.FinOn
import Lean
import PyProof.EqAt
import PyProof.EqKinds
import PyProof.TupleCall
import PyProof.NeKinds
import KE.KSortKey
import PyProof.StrWalks
import PyProof.Rows.StrJoin2
import KE.KDictList
import PyProof.ExcArgsOwn
import KE.KTryMore
import KE.KTryDeep
import PyProof.StrLawsRepr
import PyProof.ReprStr
import PyProof.FString
import PyProof.NsDelKeeps
import PyProof.StrBlock2
import PySem.Challenge.RW_leanmodes_k22_ends_at
-- CHANGE: your row's module here, as the last of these rows
set_option Elab.async false
set_option linter.all false
set_option maxRecDepth 100000
namespace L2
open PySem PySem.Spec PyProof.Rows
abbrev Key:=Sum Int Str
def ZhV:Key->Value->Bool
 | .inl k,v=>Value.isInt k v
 | .inr x,v=>Value.isStrOf x v
def keyH(w:World):Key->Int
 | .inl k=>hashInt k
 | .inr x=>hashStr w x
theorem Zbf:∀{k:Key}{v:Value},ZhV k v=true->(∃i t,k=Sum.inl i/\v=Value.int i t)\/(∃x t,k=Sum.inr x/\v=Value.str x t)
 | .inl i,v,h=>by
  obtain⟨t,e⟩:=Value.isInt_shape (k:=i) (v:=v) h
  exact .inl ⟨i,t,rfl,e⟩
 | .inr x,v,h=>by
  obtain⟨t,e⟩:=Value.isStrOf_shape (x:=x) (v:=v) h
  exact .inr ⟨x,t,rfl,e⟩
theorem Zjt(i:Int)(t:Tok):ZhV (.inl i) (.int i t)=true:=by simp[ZhV,Value.isInt]
theorem Zju(x:Str)(t:Tok):ZhV (.inr x) (.str x t)=true:=by simp[ZhV,Value.isStrOf]
theorem ZoY(a b:Int):decide ((Sum.inl a:Key)=Sum.inl b)=(a == b):=by
 by_cases e:a=b
 · subst e;simp
 · have h:¬(Sum.inl a:Key)=Sum.inl b:=fun q=>e (Sum.inl.inj q)
   rw[decide_eq_false h]
   exact(beq_eq_false_iff_ne.mpr e).symm
theorem ZoZ(a b:Str):decide ((Sum.inr a:Key)=Sum.inr b)=decide (a=b):=by
 by_cases e:a=b
 · subst e;simp
 · have h:¬(Sum.inr a:Key)=Sum.inr b:=fun q=>e (Sum.inr.inj q)
   rw[decide_eq_false h,decide_eq_false e]
theorem Zo0(a:Int)(b:Str):decide ((Sum.inl a:Key)=Sum.inr b)=false:=decide_eq_false (fun q=>nomatch q)
theorem Zo1(a:Str)(b:Int):decide ((Sum.inr a:Key)=Sum.inl b)=false:=decide_eq_false (fun q=>nomatch q)
def Zbg(prog:Program)(w:World):PySem.KeyKind prog w Key where
 is:=ZhV
 hash:=keyH w
 inj:=fun v a b ha hb=>by
  rcases Zbf ha with⟨i,t,rfl,rfl⟩ | ⟨x,t,rfl,rfl⟩
  · rcases Zbf hb with⟨j,u,rfl,e⟩ | ⟨y,u,rfl,e⟩
    · injection e with e1 _;rw[e1]
    · exact nomatch e
  · rcases Zbf hb with⟨j,u,rfl,e⟩ | ⟨y,u,rfl,e⟩
    · exact nomatch e
    · injection e with e1 _;rw[e1]
 byValue:=fun k v h=>by
  rcases Zbf h with⟨i,t,rfl,rfl⟩ | ⟨x,t,rfl,rfl⟩<;>rfl
 pyHash:=fun hv h=>by
  rcases Zbf hv with⟨i,t,rfl,rfl⟩ | ⟨x,t,rfl,rfl⟩
  · exact wpAny_pyHash_int h
  · exact wpAny_pyHash_str h
 eqBool:=fun hu hv h=>by
  rcases Zbf hu with⟨i,t,rfl,rfl⟩ | ⟨x,t,rfl,rfl⟩
  · rcases Zbf hv with⟨j,u,rfl,rfl⟩ | ⟨y,u,rfl,rfl⟩
    · rw[ZoY] at h;exact wpAny_eqBool_int h
    · rw[Zo0] at h;exact SeqAt.EqAt.int_str i t y u _ _ _ _ h
  · rcases Zbf hv with⟨j,u,rfl,rfl⟩ | ⟨y,u,rfl,rfl⟩
    · rw[Zo1] at h;exact SeqAt.EqAt.str_int x t j u _ _ _ _ h
    · rw[ZoZ] at h;exact wpAny_eqBool_str h
 «strs»:=fun k x t v h=>by
  rcases Zbf h with⟨i,u,rfl,e⟩ | ⟨y,u,rfl,e⟩
  · exact nomatch e
  · injection e with e1 _
    subst e1
    cases v<;>rfl
theorem ZhW(prog:Program)(w:World)(i:Int)(t:Tok):(Zbg prog w).is (.inl i) (.int i t)=true:=Zjt i t
theorem ZhX(prog:Program)(w:World)(x:Str)(t:Tok):(Zbg prog w).is (.inr x) (.str x t)=true:=Zju x t
end L2
namespace L2
open PySem PySem.Spec PyProof.Rows
inductive V where
 | non | bl (b:Bool) | int (i:Int) | str (x:Str) | byt (b:Array UInt8) | flt (b:UInt64) | ref (a:Addr) | ty (n:String)
 deriving DecidableEq
def RelV:V->Value->Prop
 | .non,u=>u=Value.none
 | .bl b,u=>u=Value.bool b
 | .int i,u=>∃t,u=Value.int i t
 | .str x,u=>∃t,u=Value.str x t
 | .byt b,u=>∃t,u=Value.bytes b t
 | .flt b,u=>∃t,u=Value.float b t
 | .ref a,u=>u=Value.ref a
 | .ty n,u=>u=Value.type n
abbrev Vals:List V->List Value->Prop:=Paired RelV
theorem Vals.length{xs:List V}{us:List Value}(r:Vals xs us):xs.length=us.length:=Paired.length r
theorem Vals.get:∀{xs:List V}{us:List Value}{i:Nat}{x:V},Vals xs us->xs[i]? = some x -> ∃u,us[i]? = some u/\RelV x u
 | _,_,_,_,.nil,e=>by simp at e
 | _,_,0,_,.cons r _,e=>by simp at e;subst e;exact⟨_,rfl,r⟩
 | _,_,i+1,x,.cons _ t,e=>by
  obtain⟨u,h1,h2⟩:=Vals.get (i:=i) (x:=x) t (by simpa using e)
  exact⟨u,by simpa using h1,h2⟩
theorem Vals.set{x:V}{u:Value}(r:RelV x u):∀{xs:List V}{us:List Value} (i:Nat),Vals xs us->Vals (xs.set i x) (us.set i u)
 | _,_,_,.nil=>.nil
 | _,_,0,.cons _ t=>.cons r t
 | _,_,i+1,.cons q t=>.cons q (Vals.set r i t)
theorem Vals.append:∀{xs ys:List V}{us ws:List Value},Vals xs us->Vals ys ws->Vals (xs++ys) (us++ws)
 | _,_,_,_,.nil,s=>s
 | _,_,_,_,.cons r t,s=>.cons r (Vals.append t s)
theorem Vals.take:∀{xs:List V}{us:List Value} (n:Nat),Vals xs us->Vals (xs.take n) (us.take n)
 | _,_,0,_=>.nil
 | _,_,_+1,.nil=>.nil
 | _,_,n+1,.cons r t=>.cons r (Vals.take n t)
theorem Vals.drop:∀{xs:List V}{us:List Value} (n:Nat),Vals xs us->Vals (xs.drop n) (us.drop n)
 | _,_,0,r=>r
 | _,_,_+1,.nil=>.nil
 | _,_,n+1,.cons _ t=>Vals.drop n t
def RelO:Option V->Option Value->Prop
 | some v,some u=>RelV v u
 | none,none=>True
 | _,_=>False
def KV{κ:Type}:List (κ×V)->List (κ×Value)->Prop:=Paired fun (p:κ×V) (q:κ×Value)=>p.1=q.1/\RelV p.2 q.2
def kV:Key->V
 | .inl i=>.int i
 | .inr x=>.str x
inductive HO where
 /-- a list -/
 | lst (xs:List V)
 /-- a tuple (never changes) -/
 | tup (xs:List V)
 /-- a dict whose keys are ints and texts; one whose keys are tuples of ints and texts (the empty one is both) -/
 | dK (kvs:List (Key×V)) | dT (kvs:List (List Key×V))
 /-- a set of ints: its members, its size -/
 | set (S:Int->Bool) (n:Nat)
 /-- an instance of the class at C, its dict at dx, its attributes -/
 | ins (C dx:Addr) (fs:List (Str×V))
 /-- the dict of the instance at x -/
 | own (x:Addr)
 /-- the dict of an exception -/
 | xd (fs:List (Str×V))
 /-- a bound method, f of x -/
 | met (f x:Addr)
 /-- a range object lo, lo + 1, .. below hi -/
 | rng (lo hi:Int)
 /-- a thing that is known to the object (the script; a dict while a loop walks it): read, never written while it is so -/
 | frz (o:Obj) (u:HO)
 /-- a code object's table -/
 | tbl (ps:Array Value)
 /-- any other thing, by what is true of its one object (a def of one's own: SetO a S n := HO.ext fun h => ..) -/
 | ext (φ:Heap->Prop)
abbrev Hp:=Addr->Option HO
def upd(H:Hp)(a:Addr)(o:HO):Hp:=fun b=>if b=a then some o else H b
theorem ZaA{H:Hp}{a:Addr}{o:HO}:upd H a o a=some o:=by unfold upd;rw[if_pos rfl]
theorem Zan{H:Hp}{a b:Addr}{o:HO}(h:b≠a):upd H a o b=H b:=by unfold upd;rw[if_neg h]
theorem ZqD{H:Hp}{a b:Addr}{o u:HO}(h:H a=some o)(h':H b=some u)(d:o≠u):a≠b:=by
 intro e;subst e;rw[h] at h';exact d (Option.some.inj h')
theorem Zak{H:Hp}{a b:Addr}{o:HO}(h:H a=some o)(h':H b=none):a≠b:=by
 intro e;subst e;rw[h] at h';cases h'
section
variable(P:Program)(w:World)
def ObjOk(H:Hp)(h:Heap)(a:Addr):HO->Prop
 | .lst xs=>xs.length<=sizeLine /\ ∃(its:List Value) (n:Nat),Vals xs its/\h.get? a=some { cls:=.type "list",data:=.seq its.toArray n }
 | .tup xs=>xs.length<=sizeLine /\ ∃its:List Value,Vals xs its/\IsTup h a its.toArray
 | .dK kvs=>kvs.length<=sizeLine/\(a == sysModules)=false /\ ∃vs,KV kvs vs/\h.DictOf (Zbg P w) a vs
 | .dT kvs=>kvs.length<=sizeLine/\(a == sysModules)=false /\ ∃xs:List (List Key×Addr×Value),
  Paired (fun (p:List Key×V) (q:List Key×Addr×Value)=>p.1=q.1/\H q.2.1=some (.tup (p.1.map kV))/\RelV p.2 q.2.2) kvs xs /\
  ∃o es ep,h.get? a=some o/\o.ExactDict/\o.data=.dict es ep/\es.toList=xs.map (entryOfKey (tupleKind (Zbg P w)))/\(xs.map (·.1)).Nodup
 | .set S n=>h.SetOf (intKind P w) a S n
 | .ins C dx fs=>H dx=some (.own a)/\fs.length<=1000/\dx≠a/\h.get? a=some (PySem.W.instObj C dx) /\
  ∃mA,h.Ns1 dx mA/\(∀f,RelO (fs.lookup f) (mA f))/\PySem.Within mA (fs.map (·.1))
 | .own _=>∃o,h.get? a=some o
 | .xd fs=>∃mA,h.Ns1 a mA /\ ∀f,RelO (fs.lookup f) (mA f)
 | .rng lo hi=>∃t u v,h.get? a=some { cls:=.type "range",data:=.fields #[.int lo t,.int hi u,.int 1 v] }
 | .frz o u=>h.get? a=some o/\ObjOk H h a u
 | .tbl ps=>h.get? a=some { cls:=.none,data:=.fields ps }
 | .met f x=>h.get? a=some (PySem.W.methodObj (.ref f) (.ref x))
 | .ext φ=>φ h/\(∃o,h.get? a=some o) /\ ∀h1 h2:Heap,φ h1->(∀o,h1.get? a=some o->h2.get? a=some o)->φ h2
def HOk(H:Hp)(h:Heap):Prop:=∀a o,H a=some o->ObjOk P w H h a o
end
section
variable{P:Program}{w:World}{H H':Hp}{h h':Heap}{a:Addr}{o:HO}
theorem ObjOk.lt(x:ObjOk P w H h a o):a<h.objs.size:=by
 cases o with
 | lst xs=>obtain⟨_,_,_,_,e⟩:=x;exact Heap.lt_size e
 | tup xs=>obtain⟨_,_,_,p⟩:=x;exact p.lt
 | dK kvs=>obtain⟨_,_,_,_,o,_,_,e,_⟩:=x;exact Heap.lt_size e
 | dT kvs=>obtain⟨_,_,_,_,o,_,_,e,_⟩:=x;exact Heap.lt_size e
 | set S n=>obtain⟨o,_,_,_,e,_⟩:=x;exact Heap.lt_size e
 | ins C dx fs=>obtain⟨_,_,_,e,_⟩:=x;exact Heap.lt_size e
 | own y=>obtain⟨_,e⟩:=x;exact Heap.lt_size e
 | xd fs=>obtain⟨_,⟨_,_,_,e,_⟩,_⟩:=x;exact Heap.lt_size e
 | rng lo hi=>obtain⟨_,_,_,e⟩:=x;exact Heap.lt_size e
 | frz ob u=>obtain⟨e,_⟩:=x;exact Heap.lt_size e
 | tbl ps=>exact Heap.lt_size (show h.get? a=some _ from x)
 | met f y=>exact Heap.lt_size (show h.get? a=some _ from x)
 | ext φ=>obtain⟨_,⟨_,e⟩,_⟩:=x;exact Heap.lt_size e
theorem Paired.mapP{α β:Type}{F G:α->β->Prop}:∀{l₁:List α}{l₂:List β},Paired F l₁ l₂->(∀a b,F a b->G a b)->Paired G l₁ l₂
 | _,_,.nil,_=>.nil
 | _,_,.cons r t,f=>.cons (f _ _ r) (Paired.mapP t f)
theorem ObjOk.stay(x:ObjOk P w H h a o)(k:∀b u,(b=a\/H b=some (.own a))->h.get? b=some u->h'.get? b=some u)
 (ho:∀b,H b=some (.own a)->H' b=some (.own a)) (ht:∀b xs,H b=some (.tup xs)->H' b=some (.tup xs)):ObjOk P w H' h' a o:=by
 induction o with
 | lst xs=>obtain⟨z,its,n,r,e⟩:=x;exact⟨z,its,n,r,k _ _ (.inl rfl) e⟩
 | tup xs=>obtain⟨z,its,r,ob,e,c⟩:=x;exact⟨z,its,r,ob,k _ _ (.inl rfl) e,c⟩
 | dK kvs=>obtain⟨z,y,vs,r,ob,es,ep,e,c⟩:=x;exact⟨z,y,vs,r,ob,es,ep,k _ _ (.inl rfl) e,c⟩
 | dT kvs=>
  obtain⟨z,y,xs,r,ob,es,ep,e,c⟩:=x
  exact⟨z,y,xs,Paired.mapP r fun p q z=>⟨z.1,ht _ _ z.2.1,z.2.2⟩,ob,es,ep,k _ _ (.inl rfl) e,c⟩
 | set S n=>obtain⟨ob,es,ep,t,e,c⟩:=x;exact⟨ob,es,ep,t,k _ _ (.inl rfl) e,c⟩
 | ins C dx fs=>
  obtain⟨d,z,ne,e,mA,⟨od,es,ep,e2,c⟩,r⟩:=x
  exact⟨ho _ d,z,ne,k _ _ (.inl rfl) e,mA,⟨od,es,ep,k _ _ (.inr d) e2,c⟩,r⟩
 | own y=>obtain⟨ob,e⟩:=x;exact⟨ob,k _ _ (.inl rfl) e⟩
 | xd fs=>obtain⟨mA,⟨od,es,ep,e,c⟩,r⟩:=x;exact⟨mA,⟨od,es,ep,k _ _ (.inl rfl) e,c⟩,r⟩
 | rng lo hi=>obtain⟨t,u,v,e⟩:=x;exact⟨t,u,v,k _ _ (.inl rfl) e⟩
 | frz ob u ih=>obtain⟨e,q⟩:=x;exact⟨k _ _ (.inl rfl) e,ih q⟩
 | tbl ps=>
  have e:h.get? a=some { cls:=.none,data:=.fields ps }:=x
  show h'.get? a=some { cls:=.none,data:=.fields ps }
  exact k a _ (.inl rfl) e
 | met f y=>
  have e:h.get? a=some (PySem.W.methodObj (.ref f) (.ref y)):=x
  show h'.get? a=some (PySem.W.methodObj (.ref f) (.ref y))
  exact k a _ (.inl rfl) e
 | ext φ=>obtain⟨p,⟨o,e⟩,st⟩:=x;exact⟨st _ _ p fun o q=>k _ _ (.inl rfl) q,⟨o,k _ _ (.inl rfl) e⟩,st⟩
theorem HOk.lt(x:HOk P w H h)(e:H a=some o):a<h.objs.size:=(x a o e).lt
theorem HOk.fresh(x:HOk P w H h)(e:h.objs.size<=a):H a=none:=by
 cases q:H a with
 | none=>rfl
 | some u=>exact absurd (Nat.lt_of_lt_of_le (x.lt q) e) (Nat.lt_irrefl _)
theorem HOk.kept(x:HOk P w H h)(k:∀b u,h.get? b=some u->h'.get? b=some u):HOk P w H h':=fun a o e=>
 (x a o e).stay (fun b u _ q=>k b u q) (fun _ q=>q) fun _ _ q=>q
theorem HOk.laid(x:HOk P w H h)(k:∀b u,h.get? b=some u->h'.get? b=some u)(hp:h.objs.size<=a)(new:ObjOk P w (upd H a o) h' a o):HOk P w (upd H a o) h':=fun b u e=>by
 have hn:=x.fresh hp
 by_cases hb:b=a
 · subst hb;rw[ZaA] at e;cases e;exact new
 · rw[Zan hb] at e
   exact(x b u e).stay (fun c v _ q=>k c v q) (fun c q=>by rw[Zan (Zak q hn)];exact q) fun c xs q=>by rw[Zan (Zak q hn)];exact q
end
def Rd(H:Hp)(a:Addr)(u:HO):Prop:=H a=some u \/ ∃o,H a=some (.frz o u)
theorem Rd.of{H:Hp}{a:Addr}{u:HO}(h:H a=some u):Rd H a u:=.inl h
theorem Rd.ok{P:Program}{w:World}{H:Hp}{h:Heap}{a:Addr}{u:HO}(r:Rd H a u)(x:HOk P w H h):ObjOk P w H h a u:=by
 rcases r with r | ⟨o,r⟩
 · exact x a u r
 · obtain⟨_,q⟩:=x a _ r
   exact q
def Mut:Option HO->Prop
 | some (.lst _)=>True
 | some (.dK _)=>True
 | some (.dT _)=>True
 | some (.set _ _)=>True
 | some (.ins _ _ _)=>True
 | some (.ext _)=>True
 | _=>False
section
variable{P:Program}{w:World}{H:Hp}{h h':Heap}{x e:Addr}{o':HO}
theorem HOk.write(ok:HOk P w H h)(mu:Mut (H x))(he:e=x\/H e=some (.own x))(k:∀b u,b≠e->h.get? b=some u->h'.get? b=some u)(heo:∃u,h'.get? e=some u)
 (new:ObjOk P w (upd H x o') h' x o'):HOk P w (upd H x o') h':=fun b u q=>by
 have nown:∀c y,H c=some (.own y)->c≠x:=fun c y r z=>by subst z;rw[r] at mu;exact mu
 have ntup:∀c xs,H c=some (.tup xs)->c≠x:=fun c xs r z=>by subst z;rw[r] at mu;exact mu
 by_cases hb:b=x
 · subst hb;rw[ZaA] at q;cases q;exact new
 · rw[Zan hb] at q
   by_cases hbe:b=e
   · have q':H b=some (.own x):=by
      rcases he with z | z
      · exact absurd (hbe.trans z) hb
      · rw[hbe];exact z
     rw[q] at q';cases q'
     obtain⟨v,hv⟩:=heo
     exact⟨v,by rw[hbe];exact hv⟩
   · refine(ok b u q).stay (fun c v hc r=>k c v ?_ r) (fun c r=>by rw[Zan (nown c b r)];exact r) fun c xs r=>by rw[Zan (ntup c xs r)];exact r
     rcases hc with rfl | hc
     · exact hbe
     · rintro rfl
       rcases he with z | z
       · exact nown c b hc z
       · rw[hc] at z;cases z;exact hb rfl
end
structure Un(fs ex:List Addr)(H H':Hp)(h h':Heap):Prop where
 keep:∀b o,h.get? b=some o->H b=none->b∉fs->b∉ex->h'.get? b=some o
 slot:∀b o,h.get? b=some o->H b=none->b∈fs->b∉ex -> ∃sl,h'.get? b=some { o with slots:=sl }
 free:∀b o,h.get? b=some o->H b=none->b∉ex->H' b=none
 there:∀b o,h.get? b=some o->b∉ex -> ∃o',h'.get? b=some o'
 tups:∀b xs,H b=some (.tup xs)->H' b=some (.tup xs)
 frzs:∀b o u,H b=some (.frz o u)->H' b=some (.frz o u)
 tbls:∀b ps,H b=some (.tbl ps) -> ∃more,H' b=some (.tbl (ps++more))
section
variable{fs fs' ex ex':List Addr}{H H1 H2:Hp}{h h1 h2 h':Heap}{a x e:Addr}{o:HO}
theorem Un.any(u:Un fs ex H H1 h h1){b:Addr}{ob:Obj}(q:h.get? b=some ob)(n:H b=none)(hx:b∉ex):∃sl,h1.get? b=some { ob with slots:=sl }:=by
 by_cases hb:b∈fs
 · exact u.slot b ob q n hb hx
 · exact⟨ob.slots,u.keep b ob q n hb hx⟩
theorem Un.trans(a:Un fs ex H H1 h h1)(b:Un fs ex H1 H2 h1 h2):Un fs ex H H2 h h2 where
 keep:=fun c ob q n hc hx=>b.keep c ob (a.keep c ob q n hc hx) (a.free c ob q n hx) hc hx
 slot:=fun c ob q n hc hx=>by
  obtain⟨sl,e1⟩:=a.slot c ob q n hc hx
  obtain⟨sl',e2⟩:=b.slot c _ e1 (a.free c ob q n hx) hc hx
  exact⟨sl',e2⟩
 free:=fun c ob q n hx=>by
  obtain⟨o',e1⟩:=a.there c ob q hx
  exact b.free c o' e1 (a.free c ob q n hx) hx
 there:=fun c ob q hx=>by
  obtain⟨o',e1⟩:=a.there c ob q hx
  exact b.there c o' e1 hx
 tups:=fun c xs q=>b.tups c xs (a.tups c xs q)
 frzs:=fun c ob xs q=>b.frzs c ob xs (a.frzs c ob xs q)
 tbls:=fun c ps q=>by
  obtain⟨m1,e1⟩:=a.tbls c ps q
  obtain⟨m2,e2⟩:=b.tbls c _ e1
  exact⟨m1++m2,by rw[e2,Array.append_assoc]⟩
theorem Un.kept(k:∀b u,h.get? b=some u->h'.get? b=some u):Un fs ex H H h h':=
 ⟨fun b ob q _ _ _=>k b ob q,fun b ob q _ _ _=>⟨ob.slots,k b ob q⟩,fun _ _ _ n _=>n,fun b ob q _=>⟨ob,k b ob q⟩,fun _ _ q=>q,fun _ _ _ q=>q,fun _ ps q=>⟨#[],by rw[q];simp⟩⟩
theorem Un.refl:Un fs ex H H h h:=Un.kept fun _ _ q=>q
theorem Un.laid(k:∀b u,h.get? b=some u->h'.get? b=some u)(hp:h.objs.size<=a)(hn:H a=none):Un fs ex H (upd H a o) h h' where
 keep:=fun b u q _ _ _=>k b u q
 slot:=fun b u q _ _ _=>⟨u.slots,k b u q⟩
 free:=fun b u q n _=>by rw[Zan (Nat.ne_of_lt (Nat.lt_of_lt_of_le (Heap.lt_size q) hp))];exact n
 there:=fun b u q _=>⟨u,k b u q⟩
 tups:=fun b xs q=>by rw[Zan (Zak q hn)];exact q
 frzs:=fun b u xs q=>by rw[Zan (Zak q hn)];exact q
 tbls:=fun b ps q=>⟨#[],by rw[Zan (Zak q hn),q];simp⟩
theorem Un.write(mu:Mut (H x))(he:e=x\/H e=some (.own x))(k:∀b u,b≠e->h.get? b=some u->h'.get? b=some u)(heo:∃u,h'.get? e=some u):Un fs ex H (upd H x o) h h':=by
 have hx:∀b,H b=none->b≠x:=fun b n z=>by subst z;rw[n] at mu;exact mu
 have hb:∀b,H b=none->b≠e:=fun b n z=>by
  subst z
  rcases he with r | r
  · exact hx b n r
  · rw[n] at r;cases r
 have hm:∀b u,H b=some u -> ¬Mut (some u)->b≠x:=fun b u q nm z=>by subst z;rw[q] at mu;exact nm mu
 refine⟨fun b u q n _ _=>k b u (hb b n) q,fun b u q n _ _=>⟨u.slots,k b u (hb b n) q⟩,fun b u q n _=>by rw[Zan (hx b n)];exact n,fun b u q _=>?_,
  fun b xs q=>by rw[Zan (hm b _ q fun z=>z)];exact q,fun b u xs q=>by rw[Zan (hm b _ q fun z=>z)];exact q,fun b ps q=>⟨#[],by rw[Zan (hm b _ q fun z=>z),q];simp⟩⟩
 by_cases hbe:b=e
 · subst hbe;exact heo
 · exact⟨u,k b u hbe q⟩
theorem Un.mono(u:Un fs ex H H1 h h1)(hs:∀b∈fs,b∈fs')(hx:∀b∈ex,b∈ex'):Un fs' ex' H H1 h h1:=
 ⟨fun b ob q n hb he=>u.keep b ob q n (fun z=>hb (hs b z)) fun z=>he (hx b z),fun _ _ q n _ he=>u.any q n fun z=>he (hx _ z),fun b ob q n he=>u.free b ob q n fun z=>he (hx b z),fun b ob q he=>u.there b ob q fun z=>he (hx b z),u.tups,u.frzs,u.tbls⟩
end
def trk(h:Heap)(H:Hp):List Addr:=(List.range h.objs.size).filter fun a=>(H a).isSome
def hidT(h:Heap)(H:Hp):Heap:=PySem.W.hideAll h (trk h H)
theorem Zjv(h:Heap)(H:Hp):(hidT h H).objs.size=h.objs.size:=PySem.W.hideAll_size _ _
theorem Zlu{h:Heap}{H:Hp}{b:Addr}{o:Obj}(e:h.get? b=some o)(n:H b=none):(hidT h H).get? b=some o:=
 PySem.W.hideAll_get _ e fun hm=>by
  have q:(H b).isSome=true:=(List.mem_filter.mp hm).2
  rw[n] at q;simp at q
theorem Znl{h:Heap}{H:Hp}{b:Addr}{o:Obj}(e:(hidT h H).get? b=some o):h.get? b=some o/\H b=none:=by
 have e':h.get? b=some o:=PySem.W.of_hideAll (trk h H) e
 refine⟨e',?_⟩
 cases q:H b with
 | none=>rfl
 | some x=>
  have hm:b∈trk h H:=List.mem_filter.mpr ⟨List.mem_range.mpr (Heap.lt_size e'),by simp[q]⟩
  have z:(hidT h H).get? b=none:=PySem.W.hideAll_none (trk h H) hm
  rw[z] at e;cases e
def Znm(g h:Heap)(L:Addr):List (Addr×Obj):=(List.range h.objs.size).filterMap fun a=>if a=L\/(g.get? a).isSome=true then none else(h.get? a).map fun o=>(a,o)
def rest(g h:Heap)(L d:Addr):List (Addr×Obj):=(Znm g h L).filter fun p=>decide (p.1≠d)
end L2
namespace L2
open PySem PySem.Spec PyProof.Rows
structure Mod(K:PySem.W.Frag)(mg:Str->Option Value)(base:Heap):Prop where
 kin:K.In base
 glob:base.Ns mainGlobals mg
 blt:∃mb,base.Ns builtinsNs mb /\ ∀x:Str,x≠"__name__"->mb x=bootBuiltins x
 nolimit:base.NoLimit
structure Cx where
 prog:Program
 w:World
 K:PySem.W.Frag
 mg:Str->Option Value
 base:Heap
 A:Around
 N:List Str
 s₀:Shared
 H₀:Hp
 env:Env
 outer:List Env
 stack:List Env
 ex:List Addr
 fn:Str->Bool
 calm:Bool
 pn:List (Addr×Obj)
 xe:Value->Shared->Prop
def frs(l:List Env):List Addr:=l.filterMap (·.frame)
abbrev Cx.fs(X:Cx):List Addr:=frs X.outer
def Vis(sc:Scope)(x:Str):Prop:=sc.names.lookup x=some .local\/sc.names.lookup x=some .cell\/sc.names.lookup x=some .free
def Loc(sc:Scope)(x:Str):Prop:=sc.names.lookup x=some .local\/sc.names.lookup x=some .cell
def Look(env:Env)(h:Heap)(m:Str->Option Value)(x:Str)(u:Value):Prop:=
 (env.kindOf x=some .local/\m x=some u)\/((env.kindOf x=some .cell\/env.kindOf x=some .free) /\ ∃c,env.cells.lookup x=some c/\h.IsCell c (some u))
structure Cx.Ok(X:Cx):Prop where
 mod:Mod X.K X.mg X.base
 kind:X.env.scope.kind=.function
 glob:X.env.globals=mainGlobals
 blt:X.env.builtins=builtinsNs
 above:X.s₀.heap.objs.size<=X.env.locals
 inj:∀x y c,X.env.cells.lookup x=some c->X.env.cells.lookup y=some c->x=y
 has:∀x,(X.env.kindOf x=some .cell\/X.env.kindOf x=some .free) -> ∃c,X.env.cells.lookup x=some c
 cab:∀x c,X.fn x=true->X.env.cells.lookup x=some c->X.s₀.heap.objs.size<=c
 hd:X.calm=true->X.A.handled=none
 frames:X.A.frames=some X.stack
 stk:X.stack=X.outer\/(X.stack=X.env :: X.outer/\X.env.frame=some X.env.locals)
 exf:∀b∈X.ex,b≠X.env.locals /\ ∀x c,X.env.cells.lookup x=some c->c≠b
 bs:∀b o,X.base.get? b=some o->X.s₀.heap.get? b=some o/\X.H₀ b=none
 bsz:X.base.objs.size<=X.s₀.heap.objs.size
 noex:∀b o,X.base.get? b=some o->b∉X.ex
 exfs:∀b∈X.ex,b∉X.fs
 funs:X.s₀.heap.FunFrames X.base X.outer
 frf:∀b∈X.fs,X.H₀ b=none
structure Inv(X:Cx)(pins:List (Addr×Obj))(σ:List (Option V))(H:Hp)(s:Shared):Prop where
 ok:X.Ok
 os:s.os=X.s₀.os
 bare:AllBare s.gens
 base:Un X.fs X.ex X.H₀ H X.s₀.heap s.heap
 loc:∃m,s.heap.Ns X.env.locals m /\ ∀(i:Nat) (x:Str) (v:V),X.N[i]? = some x->σ[i]? = some (some v)->Vis X.env.scope x -> ∃u,RelV v u/\Look X.env s.heap m x u
 cell:∀x c,X.env.cells.lookup x=some c -> ∃v,s.heap.IsCell c v
 free:H X.env.locals=none
 freeC:∀x c,X.env.cells.lookup x=some c->H c=none
 pin:∀p∈X.pn++pins,s.heap.get? p.1=some p.2/\H p.1=none/\p.1≠X.env.locals/\p.1∉X.fs /\ ∀v,p.2.data≠.cell v
 hok:HOk X.prog X.w H s.heap
 len:σ.length=X.N.length
section
variable{X:Cx}{pins:List (Addr×Obj)}{σ:List (Option V)}{H H':Hp}{s:Shared}{h':Heap}
theorem Cx.Ok.nofr(ok:X.Ok){b:Addr}{o:Obj}(e:X.base.get? b=some o):b∉X.fs:=fun hb=>by
 have:=(ok.funs.mem hb).1
 rw[e] at this;cases this
theorem Inv.bs(I:Inv X pins σ H s):∀b o,X.base.get? b=some o->s.heap.get? b=some o/\H b=none:=fun b o e=>
 ⟨I.base.keep b o (I.ok.bs b o e).1 (I.ok.bs b o e).2 (I.ok.nofr e) (I.ok.noex b o e),I.base.free b o (I.ok.bs b o e).1 (I.ok.bs b o e).2 (I.ok.noex b o e)⟩
theorem Inv.bk(I:Inv X pins σ H s):∀b o,X.base.get? b=some o->s.heap.get? b=some o:=fun b o e=>(I.bs b o e).1
theorem Inv.mod(I:Inv X pins σ H s):Mod X.K X.mg X.base:=I.ok.mod
theorem Inv.kIn(I:Inv X pins σ H s):X.K.In s.heap:=I.ok.mod.kin.keeps I.bk
theorem Inv.lt(I:Inv X pins σ H s):X.env.locals<s.heap.objs.size:=let ⟨_,hn,_⟩:=I.loc;hn.lt
theorem Inv.sz(I:Inv X pins σ H s):X.s₀.heap.objs.size<=s.heap.objs.size:=Nat.le_trans I.ok.above (Nat.le_of_lt I.lt)
theorem Inv.nofs(I:Inv X pins σ H s){a:Addr}(h:s.heap.objs.size<=a):a∉X.fs:=fun hb=>by
 obtain⟨_,o,ho,_⟩:=I.ok.funs.mem hb
 exact absurd (Nat.lt_of_lt_of_le (Heap.lt_size ho) (Nat.le_trans I.sz h)) (Nat.lt_irrefl _)
theorem Inv.cne(I:Inv X pins σ H s):∀x c,X.env.cells.lookup x=some c->c≠X.env.locals:=fun x c e z=>by
 obtain⟨v,o,ho,hd⟩:=I.cell x c e
 obtain⟨m,⟨o',es,ep,ho',hd',_⟩,_⟩:=I.loc
 rw[z,ho'] at ho;cases ho;rw[hd'] at hd;cases hd
theorem Inv.funs(I:Inv X pins σ H s):s.heap.FunFrames X.base X.outer:=by
 have all:∀(l:List Env),(∀b∈frs l,b∈X.fs)->X.s₀.heap.FunFrames X.base l->s.heap.FunFrames X.base l:=by
  intro l
  induction l with
  | nil=>intro _ _;trivial
  | cons env r ih=>
   intro hs hl
   obtain⟨hk,⟨L,o,hf,hn,ho,hd⟩,hr⟩:=hl
   have hL:L∈X.fs:=hs L (by unfold frs;rw[List.filterMap_cons,hf];exact List.mem_cons_self)
   obtain⟨sl,e⟩:=I.base.slot L o ho (I.ok.frf L hL) hL fun z=>I.ok.exfs L z hL
   exact⟨hk,⟨L,_,hf,hn,e,hd⟩,ih (fun b hb=>hs b (by unfold frs;rw[List.filterMap_cons,hf];exact List.mem_cons_of_mem _ hb)) hr⟩
 exact all X.outer (fun _ hb=>hb) I.ok.funs
theorem Inv.stack(I:Inv X pins σ H s):s.heap.FunFrames X.base X.stack:=by
 rcases I.ok.stk with e | ⟨e,hf⟩
 · rw[e];exact I.funs
 · rw[e]
   obtain⟨m,hn,_⟩:=I.loc
   refine .cons (by rw[I.ok.kind];decide) hf hn ?_ I.funs
   exact Heap.get?_none_of_le (Nat.le_trans I.ok.bsz I.ok.above)
theorem Inv.stkSub(I:Inv X pins σ H s):∀b∈frs X.stack,b∈X.env.locals :: X.fs:=fun b hb=>by
 rcases I.ok.stk with e | ⟨e,hf⟩
 · rw[e] at hb;exact List.mem_cons_of_mem _ hb
 · rw[e] at hb
   unfold frs at hb
   rw[List.filterMap_cons,hf] at hb
   exact hb
theorem Inv.stkFree(I:Inv X pins σ H s):∀b∈frs X.stack,H b=none:=fun b hb=>by
 rcases List.mem_cons.mp (I.stkSub b hb) with e | hb
 · rw[e];exact I.free
 · obtain⟨_,o,ho,_⟩:=I.ok.funs.mem hb
   exact I.base.free b o ho (I.ok.frf b hb) fun z=>I.ok.exfs b z hb
theorem Inv.step{g':Array GenState}{t':Nat}{d':Drawn}{ch:List Addr}(I:Inv X pins σ H s)
 (hch:∀b∈ch,(b∈X.ex\/X.s₀.heap.objs.size<=b)/\b≠X.env.locals/\(∀x c,X.env.cells.lookup x=some c->c≠b) /\ ∀p∈X.pn++pins,p.1≠b)
 (keep:∀b o,b≠X.env.locals->b∉X.fs->b∉ch->s.heap.get? b=some o->H b=none->h'.get? b=some o)
 (slot:∀b o,b≠X.env.locals->b∈X.fs->b∉ch->s.heap.get? b=some o->H b=none -> ∃sl,h'.get? b=some { o with slots:=sl }) (free:∀b o,b∉ch->s.heap.get? b=some o->H b=none->H' b=none)
 (there:∀b o,b∉ch->s.heap.get? b=some o -> ∃o',h'.get? b=some o')
 (tups:∀b xs,H b=some (.tup xs)->H' b=some (.tup xs)) (frzs:∀b o u,H b=some (.frz o u)->H' b=some (.frz o u)) (tbls:∀b ps,H b=some (.tbl ps) -> ∃more,H' b=some (.tbl (ps++more)))
 (ns:∀m,s.heap.Ns X.env.locals m->h'.Ns X.env.locals m) (hok:HOk X.prog X.w H' h') (hg:AllBare g') :
 Inv X pins σ H' { s with heap:=h',gens:=g',drawn:=d',toks:=t' }:=by
 have neL:∀b o,X.s₀.heap.get? b=some o->b≠X.env.locals:=fun b o e=>Nat.ne_of_lt (Nat.lt_of_lt_of_le (Heap.lt_size e) I.ok.above)
 have neC:∀b o,X.s₀.heap.get? b=some o->b∉X.ex->b∉ch:=fun b o e hx hb=>by
  rcases(hch b hb).1 with z | z
  · exact hx z
  · exact absurd (Nat.lt_of_lt_of_le (Heap.lt_size e) z) (Nat.lt_irrefl _)
 have cellK:∀x c,X.env.cells.lookup x=some c -> ∀v,s.heap.IsCell c v->h'.IsCell c v:=fun x c e v ⟨o,ho,hd⟩=>by
  have nch:c∉ch:=fun z=>(hch c z).2.2.1 x c e rfl
  by_cases hc:c∈X.fs
  · obtain⟨sl,q⟩:=slot c o (I.cne x c e) hc nch ho (I.freeC x c e)
    exact⟨_,q,hd⟩
  · exact⟨o,keep c o (I.cne x c e) hc nch ho (I.freeC x c e),hd⟩
 refine⟨I.ok,I.os,hg,⟨fun b o e n hb hx=>?_,fun b o e n hb hx=>?_,fun b o e n hx=>?_,fun b o e hx=>?_,fun b xs e=>tups b xs (I.base.tups b xs e),fun b o xs e=>frzs b o xs (I.base.frzs b o xs e),fun b ps e=>?_⟩,?_,fun x c e=>?_,?_,fun x c e=>?_,fun p hp=>?_,hok,I.len⟩
 · exact keep b o (neL b o e) hb (neC b o e hx) (I.base.keep b o e n hb hx) (I.base.free b o e n hx)
 · obtain⟨sl,e1⟩:=I.base.slot b o e n hb hx
   obtain⟨sl',e2⟩:=slot b _ (neL b o e) hb (neC b o e hx) e1 (I.base.free b o e n hx)
   exact⟨sl',e2⟩
 · obtain⟨o',e1⟩:=I.base.there b o e hx
   exact free b o' (neC b o e hx) e1 (I.base.free b o e n hx)
 · obtain⟨o',e1⟩:=I.base.there b o e hx
   exact there b o' (neC b o e hx) e1
 · obtain⟨m1,e1⟩:=I.base.tbls b ps e
   obtain⟨m2,e2⟩:=tbls b _ e1
   exact⟨m1++m2,by rw[e2,Array.append_assoc]⟩
 · obtain⟨m,hn,hl⟩:=I.loc
   refine⟨m,ns m hn,fun i x v e1 e2 e3=>?_⟩
   obtain⟨u,r,l⟩:=hl i x v e1 e2 e3
   refine⟨u,r,?_⟩
   rcases l with l | ⟨k,c,e,z⟩
   · exact .inl l
   · exact .inr ⟨k,c,e,cellK x c e _ z⟩
 · obtain⟨v,z⟩:=I.cell x c e
   exact⟨v,cellK x c e v z⟩
 · obtain⟨m,⟨o,_,_,ho,_⟩,_⟩:=I.loc
   exact free _ o (fun z=>(hch _ z).2.1 rfl) ho I.free
 · obtain⟨v,o,ho,hd⟩:=I.cell x c e
   exact free c o (fun z=>(hch c z).2.2.1 x c e rfl) ho (I.freeC x c e)
 · obtain⟨e,n,ne,nf,d⟩:=I.pin p hp
   have nch:p.1∉ch:=fun z=>(hch p.1 z).2.2.2 p hp rfl
   exact⟨keep p.1 p.2 ne nf nch e n,free p.1 p.2 nch e n,ne,nf,d⟩
theorem Inv.un{t':Nat}(I:Inv X pins σ H s)(u:Un X.fs [] H H' s.heap h')(hok:HOk X.prog X.w H' h'):Inv X pins σ H' { s with heap:=h',toks:=t' }:=by
 obtain⟨m,⟨o,es,ep,ho,r⟩,_⟩:=id I.loc
 obtain⟨sl,hL⟩:=u.any ho I.free (by simp)
 exact I.step (g':=s.gens) (d':=s.drawn) (ch:=[]) (fun _ z=>nomatch z) (fun b o _ hb _ e n=>u.keep b o e n hb (by simp)) (fun b o _ hb _ e n=>u.slot b o e n hb (by simp)) (fun b o _ e n=>u.free b o e n (by simp)) (fun b o _ e=>u.there b o e (by simp)) u.tups u.frzs u.tbls (fun m' hm=>by
  obtain⟨o',es',ep',ho',r'⟩:=hm
  rw[ho] at ho';cases ho'
  exact⟨_,es',ep',hL,r'⟩) hok I.bare
theorem Inv.call{g':Array GenState}{t':Nat}{d':Drawn}{ch:List Addr}(I:Inv X pins σ H s)(u:Un (frs X.stack) ch H H' s.heap h')(hok:HOk X.prog X.w H' h')(hg:AllBare g')
 (hch:∀b∈ch,(b∈X.ex\/X.s₀.heap.objs.size<=b)/\b≠X.env.locals/\(∀x c,X.env.cells.lookup x=some c->c≠b) /\ ∀p∈X.pn++pins,p.1≠b) :
 Inv X pins σ H' { s with heap:=h',gens:=g',drawn:=d',toks:=t' }:=by
 obtain⟨m,⟨o,es,ep,ho,r⟩,_⟩:=id I.loc
 obtain⟨sl,hL⟩:=u.any ho I.free fun z=>(hch _ z).2.1 rfl
 exact I.step (ch:=ch) hch (fun b o hL hb hc e n=>u.keep b o e n (fun z=>(List.mem_cons.mp (I.stkSub b z)).elim hL hb) hc) (fun b o _ _ hc e n=>u.any e n hc) (fun b o hc e n=>u.free b o e n hc) (fun b o hc e=>u.there b o e hc) u.tups u.frzs u.tbls (fun m' hm=>by
  obtain⟨o',es',ep',ho',r'⟩:=hm
  rw[ho] at ho';cases ho'
  exact⟨_,es',ep',hL,r'⟩) hok hg
theorem Inv.turned{t':Nat}{it:Addr}(I:Inv X pins σ H s)(k:∀b o,b≠it->s.heap.get? b=some o->h'.get? b=some o)(hn:H it=none)(hL:it≠X.env.locals)
 (h1:it∈X.ex\/X.s₀.heap.objs.size<=it) (h2:∀x c,X.env.cells.lookup x=some c->c≠it) (h3:∀p∈X.pn++pins,p.1≠it):Inv X pins σ H { s with heap:=h',toks:=t' }:=by
 have nit:∀b u,H b=some u->b≠it:=fun b u e z=>by rw[z,hn] at e;cases e
 refine I.step (g':=s.gens) (d':=s.drawn) (ch:=[it]) (fun b hb=>?_) (fun b o _ _ hc e _=>k b o (fun z=>hc (by simp[z])) e) (fun b o _ _ hc e _=>⟨o.slots,k b o (fun z=>hc (by simp[z])) e⟩) (fun _ _ _ _ n=>n)
  (fun b o hc e=>⟨o,k b o (fun z=>hc (by simp[z])) e⟩) (fun _ _ e=>e) (fun _ _ _ e=>e) (fun b ps e=>⟨#[],by rw[e];simp⟩) (fun m hm=>?_) (fun b u e=>?_) I.bare
 · have e:b=it:=by simpa using hb
   subst e
   exact⟨h1,hL,h2,h3⟩
 · obtain⟨o,es,ep,ho,r⟩:=hm
   exact⟨o,es,ep,k _ o (Ne.symm hL) ho,r⟩
 · refine(I.hok b u e).stay (fun c v hc q=>k c v ?_ q) (fun _ q=>q) fun _ _ q=>q
   rcases hc with z | z
   · rw[z];exact nit b u e
   · exact nit c _ z
theorem Inv.tok(I:Inv X pins σ H s)(t:Nat):Inv X pins σ H { s with toks:=t }:=I.un (h':=s.heap) (t':=t) Un.refl I.hok
theorem Inv.kept{t':Nat}(I:Inv X pins σ H s)(k:∀b u,s.heap.get? b=some u->h'.get? b=some u):Inv X pins σ H { s with heap:=h',toks:=t' }:=I.un (Un.kept k) (I.hok.kept k)
theorem Inv.laid{a:Addr}{o:HO}{t':Nat}(I:Inv X pins σ H s)(k:∀b u,s.heap.get? b=some u->h'.get? b=some u)(hp:s.heap.objs.size<=a)(new:ObjOk X.prog X.w (upd H a o) h' a o) :
 Inv X pins σ (upd H a o) { s with heap:=h',toks:=t' }:=I.un (Un.laid k hp (I.hok.fresh hp)) (I.hok.laid k hp new)
theorem Inv.write{x e:Addr}{o:HO}{t':Nat}(I:Inv X pins σ H s)(mu:Mut (H x))(he:e=x\/H e=some (.own x))(k:∀b u,b≠e->s.heap.get? b=some u->h'.get? b=some u)(heo:∃u,h'.get? e=some u)
 (new:ObjOk X.prog X.w (upd H x o) h' x o):Inv X pins σ (upd H x o) { s with heap:=h',toks:=t' }:=I.un (Un.write mu he k heo) (I.hok.write mu he k heo new)
theorem Inv.pins_of{pins':List (Addr×Obj)}(I:Inv X pins σ H s)(h:∀p∈pins',s.heap.get? p.1=some p.2/\H p.1=none/\p.1≠X.env.locals/\p.1∉X.fs /\ ∀v,p.2.data≠.cell v):Inv X pins' σ H s:=
 ⟨I.ok,I.os,I.bare,I.base,I.loc,I.cell,I.free,I.freeC,fun p hp=>(List.mem_append.mp hp).elim (fun z=>I.pin p (List.mem_append_left _ z)) (h p),I.hok,I.len⟩
theorem Zip{N:List Str}(hN:N.Nodup){i j:Nat}{x:Str}(a:N[i]? = some x)(b:N[j]? = some x):i=j:=by
 obtain⟨h1,e1⟩:=List.getElem?_eq_some_iff.mp a
 obtain⟨h2,e2⟩:=List.getElem?_eq_some_iff.mp b
 exact(List.getElem_inj hN).mp (e1.trans e2.symm)
theorem Zg8{M:Model}{A:Around}{E:Value->Shared->Prop}{i:Nat}{x:Str}{v:V}{u:Value}{Q:Unit->Shared->Prop}(I:Inv X pins σ H s)(hN:X.N.Nodup)(hi:X.N[i]? = some x)(hx:Loc X.env.scope x)(r:RelV v u)
 (h:∀s',Inv X pins (σ.set i (some v)) H s'->(∃a,Heap.SameBut a s.heap s'.heap/\(a=X.env.locals\/X.env.cells.lookup x=some a))->Q () s') (hf:X.fn x=true\/X.env.scope.names.lookup x=some .local:=by first | exact .inl rfl | exact .inr rfl | assumption):wpAny M A (storeName X.env x u) Q E s:=by
 obtain⟨m,hn,hl⟩:=id I.loc
 have hcls:(X.env.scope.kind == .class || (X.env.scope.kind == .module&&X.env.locals != X.env.globals))=false:=by rw[I.ok.kind];rfl
 have hiσ:i<σ.length:=by rw[I.len];exact(List.getElem?_eq_some_iff.mp hi).1
 have cne:=I.cne
 have tracked:∀{a:Addr}{h':Heap},(∃o,s.heap.get? a=some o/\H a=none)->Heap.SameBut a s.heap h'->HOk X.prog X.w H h':=fun {a h'} ha hs b ob e=>by
  obtain⟨_,_,hfree⟩:=ha
  refine(I.hok b ob e).stay (fun c w' hc q=>(hs.2 c ?_).trans q) (fun _ q=>q) fun _ _ q=>q
  rintro rfl
  rcases hc with rfl | hc
  · rw[hfree] at e;cases e
  · rw[hfree] at hc;cases hc
 rcases hx with hk | hk
 · refine wpAny_storeName_local hk hn (fun h' hn' hs=>?_) hcls
   obtain⟨oL,_,_,hoL,_⟩:=id hn
   refine h _ ⟨I.ok,I.os,I.bare,⟨fun b o e n hb hx=>?_,fun b o e n hb hx=>?_,I.base.free,fun b o e hx=>?_,I.base.tups,I.base.frzs,I.base.tbls⟩,⟨_,hn',fun j y v' e1 e2 e3=>?_⟩,fun y c e=>?_,I.free,I.freeC,fun p hp=>?_,tracked ⟨oL,hoL,I.free⟩ hs,by simpa using I.len⟩ ⟨_,hs,.inl rfl⟩
   · exact(hs.2 b (Nat.ne_of_lt (Nat.lt_of_lt_of_le (Heap.lt_size e) I.ok.above))).trans (I.base.keep b o e n hb hx)
   · obtain⟨sl,e1⟩:=I.base.slot b o e n hb hx
     exact⟨sl,(hs.2 b (Nat.ne_of_lt (Nat.lt_of_lt_of_le (Heap.lt_size e) I.ok.above))).trans e1⟩
   · obtain⟨o',e1⟩:=I.base.there b o e hx
     exact⟨o',(hs.2 b (Nat.ne_of_lt (Nat.lt_of_lt_of_le (Heap.lt_size e) I.ok.above))).trans e1⟩
   · by_cases hj:j=i
     · subst hj
       rw[hi] at e1;cases e1
       rw[List.getElem?_set_self hiσ] at e2
       cases e2
       exact⟨u,r,.inl ⟨hk,by simp⟩⟩
     · rw[List.getElem?_set_ne (Ne.symm hj)] at e2
       obtain⟨u',r',q⟩:=hl j y v' e1 e2 e3
       refine⟨u',r',?_⟩
       rcases q with⟨k,e⟩ | ⟨k,c,e,z⟩
       · refine .inl ⟨k,?_⟩
         have:y≠x:=fun e=>hj (Zip hN e1 (e▸hi))
         simp[this,e]
       · exact .inr ⟨k,c,e,z.sameBut hs (cne y c e)⟩
   · obtain⟨w',z⟩:=I.cell y c e
     exact⟨w',z.sameBut hs (cne y c e)⟩
   · obtain⟨e,n,ne,nf,d⟩:=I.pin p hp
     exact⟨(hs.2 p.1 ne).trans e,n,ne,nf,d⟩
 · have hfn:X.fn x=true:=by
    rcases hf with z | z
    · exact z
    · rw[z] at hk;cases hk
   obtain⟨c,hc⟩:=I.ok.has x (.inl hk)
   obtain⟨w',z⟩:=I.cell x c hc
   refine wpAny_storeName_cell I.ok.kind hk hc z (fun h' hc' hs=>?_)
   obtain⟨oc,hoc,hocd⟩:=id z
   refine h { s with heap:=h' } ⟨I.ok,I.os,I.bare,⟨fun b o e n hb hx=>?_,fun b o e n hb hx=>?_,I.base.free,fun b o e hx=>?_,I.base.tups,I.base.frzs,I.base.tbls⟩,⟨m,hn.sameBut hs (Ne.symm (cne x c hc)),fun j y v' e1 e2 e3=>?_⟩,fun y c' e=>?_,I.free,I.freeC,fun p hp=>?_,tracked ⟨oc,hoc,I.freeC x c hc⟩ hs,by simpa using I.len⟩ ⟨c,hs,.inr hc⟩
   · exact(hs.2 b (Nat.ne_of_lt (Nat.lt_of_lt_of_le (Heap.lt_size e) (I.ok.cab x c hfn hc)))).trans (I.base.keep b o e n hb hx)
   · obtain⟨sl,e1⟩:=I.base.slot b o e n hb hx
     exact⟨sl,(hs.2 b (Nat.ne_of_lt (Nat.lt_of_lt_of_le (Heap.lt_size e) (I.ok.cab x c hfn hc)))).trans e1⟩
   · obtain⟨o',e1⟩:=I.base.there b o e hx
     exact⟨o',(hs.2 b (Nat.ne_of_lt (Nat.lt_of_lt_of_le (Heap.lt_size e) (I.ok.cab x c hfn hc)))).trans e1⟩
   · by_cases hj:j=i
     · subst hj
       rw[hi] at e1;cases e1
       rw[List.getElem?_set_self hiσ] at e2
       cases e2
       exact⟨u,r,.inr ⟨.inl hk,c,hc,hc'⟩⟩
     · rw[List.getElem?_set_ne (Ne.symm hj)] at e2
       obtain⟨u',r',q⟩:=hl j y v' e1 e2 e3
       refine⟨u',r',?_⟩
       rcases q with q | ⟨k,c',e,z'⟩
       · exact .inl q
       · refine .inr ⟨k,c',e,z'.sameBut hs ?_⟩
         rintro rfl
         exact hj (Zip hN e1 (I.ok.inj _ _ _ e hc▸hi))
   · by_cases hcc:c'=c
     · subst hcc;exact⟨_,hc'⟩
     · obtain⟨w2,z2⟩:=I.cell y c' e
       exact⟨w2,z2.sameBut hs hcc⟩
   · obtain⟨e,n,ne,nf,d⟩:=I.pin p hp
     refine⟨(hs.2 p.1 ?_).trans e,n,ne,nf,d⟩
     intro q
     rw[q,hoc] at e
     have q':oc=p.2:=Option.some.inj e
     exact d w' (by rw[<- q'];exact hocd)
theorem Ziq{M:Model}{A:Around}{E:Value->Shared->Prop}{i:Nat}{x:Str}{v:V}{u:Value}{Q:Unit->Shared->Prop}(I:Inv X pins σ H s)(hN:X.N.Nodup)(hi:X.N[i]? = some x)(hx:Loc X.env.scope x)(r:RelV v u)
 (h:∀s',Inv X pins (σ.set i (some v)) H s'->Q () s') (hf:X.fn x=true\/X.env.scope.names.lookup x=some .local:=by first | exact .inl rfl | exact .inr rfl | assumption):wpAny M A (storeName X.env x u) Q E s:=
 Zg8 I hN hi hx r (fun s' I' _=>h s' I') hf
theorem Inv.call'{s':Shared}{ch:List Addr}(I:Inv X pins σ H s)(ho:s'.os=s.os)(u:Un (frs X.stack) ch H H' s.heap s'.heap)(hok:HOk X.prog X.w H' s'.heap)(hg:AllBare s'.gens)
 (hch:∀b∈ch,(b∈X.ex\/X.s₀.heap.objs.size<=b)/\b≠X.env.locals/\(∀x c,X.env.cells.lookup x=some c->c≠b) /\ ∀p∈X.pn++pins,p.1≠b):Inv X pins σ H' s':=by
 obtain⟨h',g',d',t',o'⟩:=s'
 have e:o'=s.os:=ho
 subst e
 exact I.call (g':=g') (t':=t') (d':=d') u hok hg hch
end
abbrev XK:=Value->Option Addr->Hp->Prop
abbrev St:=List (Option V)
abbrev VK:=V->Hp->Prop
abbrev TE:=St->Hp->VK->Prop
abbrev TT:=St->Hp->(Bool->Hp->Prop)->Prop
abbrev TA:=St->Hp->(List V->Hp->Prop)->Prop
structure Ends where
 nx:St->Hp->Prop
 rt:VK
 bk:St->Hp->Prop:=fun _ _=>False
 ct:St->Hp->Prop:=fun _ _=>False
abbrev TS:=Ends->St->Hp->Prop
def EP(X:Cx)(pins:List (Addr×Obj))(σ:St)(Q:VK)(u:Value)(s':Shared):Prop:=∃v H',Inv X pins σ H' s'/\RelV v u/\Q v H'
def TP(X:Cx)(pins:List (Addr×Obj))(σ:St)(Q:Bool->Hp->Prop)(b:Bool)(s':Shared):Prop:=∃H',Inv X pins σ H' s'/\Q b H'
def AP(X:Cx)(pins:List (Addr×Obj))(σ:St)(Q:List V->Hp->Prop)(us:List Value)(s':Shared):Prop:=∃vs H',Inv X pins σ H' s'/\Vals vs us/\Q vs H'
def SP(X:Cx)(pins:List (Addr×Obj))(D:Ends)(f:Flow)(s':Shared):Prop:=
 match f with
 | .next=>∃σ' H',Inv X pins σ' H' s'/\D.nx σ' H'
 | .brk=>∃σ' H',Inv X pins σ' H' s'/\D.bk σ' H'
 | .cont=>∃σ' H',Inv X pins σ' H' s'/\D.ct σ' H'
 | .ret u=>∃v σ' H',Inv X pins σ' H' s'/\RelV v u/\D.rt v H'
def PE(X:Cx)(e:Expr)(t:TE):Prop:=
 ∀(pins:List (Addr×Obj)) (s:Shared) (σ:St) (H:Hp) (Q:VK),Inv X pins σ H s->t σ H Q->wpAny (model X.prog X.w) X.A (eval e X.env) (EP X pins σ Q) X.xe s
def PT(X:Cx)(e:Expr)(t:TT):Prop:=
 ∀(pins:List (Addr×Obj)) (s:Shared) (σ:St) (H:Hp) (Q:Bool->Hp->Prop),Inv X pins σ H s->t σ H Q->wpAny (model X.prog X.w) X.A (isTrue e X.env (eval e X.env)) (TP X pins σ Q) X.xe s
def PW(X:Cx)(e:Expr)(t:TT):Prop:=
 ∀(whole:Sem Value) (pins:List (Addr×Obj)) (s:Shared) (σ:St) (H:Hp) (Q:Bool->Hp->Prop),Inv X pins σ H s->t σ H Q->wpAny (model X.prog X.w) X.A (isTrue e X.env whole) (TP X pins σ Q) X.xe s
theorem PW.pt{X:Cx}{e:Expr}{t:TT}(h:PW X e t):PT X e t:=h _
def PA(X:Cx)(es:List Expr)(t:TA):Prop:=
 ∀(pos:Pos) (pins:List (Addr×Obj)) (s:Shared) (σ:St) (H:Hp) (Q:List V->Hp->Prop),Inv X pins σ H s->t σ H Q->wpAny (model X.prog X.w) X.A (spliced (backTo pos (starEach es X.env))) (AP X pins σ Q) X.xe s
def PS(X:Cx)(st:Stmt)(t:TS):Prop:=
 ∀(pins:List (Addr×Obj)) (s:Shared) (σ:St) (H:Hp) (D:Ends),Inv X pins σ H s->t D σ H->wpAny (model X.prog X.w) X.A (exec st X.env) (SP X pins D) X.xe s
def PSs(X:Cx)(st:List Stmt)(t:TS):Prop:=
 ∀(pins:List (Addr×Obj)) (s:Shared) (σ:St) (H:Hp) (D:Ends),Inv X pins σ H s->t D σ H->wpAny (model X.prog X.w) X.A (execs st X.env) (SP X pins D) X.xe s
theorem thn{α:Type}{t:Sem α}{Q Q':α->Shared->Prop}{M:Model}{A:Around}{E:Value->Shared->Prop}{s:Shared}(h:wpAny M A t Q E s)(hQ:∀a s,Q a s->Q' a s):wpAny M A t Q' E s:=wpAny_mono h hQ fun _ _ x=>x
end L2
namespace L2
open PySem PySem.Spec PyProof.Rows
section
variable{X:Cx}
def tVar(i:Nat):TE:=fun σ H Q=>∃v,σ[i]? = some (some v)/\Q v H
def tC(v:V):TE:=fun _ H Q=>Q v H
theorem Zo2{i:Nat}{x:Str}{pos:Pos}(hN:X.N[i]? = some x)(hv:Vis X.env.scope x)(hd:(x == ("__debug__":Str))=false:=by decide)(hcd:(x == ("__classdict__":Str))=false:=by decide):PE X (.Name x pos) (tVar i):=by
 intro pins s σ H Q I h
 obtain⟨v,e,h⟩:=h
 obtain⟨m,hn,hl⟩:=I.loc
 obtain⟨u,r,l⟩:=hl i x v hN e hv
 have fin:EP X pins σ Q u s:=⟨v,H,I,r,h⟩
 rcases l with⟨hk,hm⟩ | ⟨hk,c,hc,hcell⟩
 · exact wpAny_Name (wpAny_loadName_local I.ok.kind hk hn hm fin) hd
 · rcases hk with hk | hk
   · exact wpAny_Name (wpAny_loadName_cell I.ok.kind hk hc hcell fin) hd
   · exact wpAny_Name (wpAny_loadName_free I.ok.kind hk hc hcell fin hcd) hd
theorem Zar{i j pos}:PE X (.Constant (.int i) j pos) (tC (.int i)):=fun _ _ _ H _ I h=>wpAny_Constant_int ⟨.int i,H,I.tok _,⟨_,rfl⟩,h⟩
theorem Zgk{b j pos}:PE X (.Constant (.bool b) j pos) (tC (.bl b)):=fun _ _ _ H _ I h=>Constant_bool ⟨.bl b,H,I,rfl,h⟩
theorem Zmx{j pos}:PE X (.Constant .none j pos) (tC .non):=fun _ _ _ H _ I h=>Constant_none ⟨.non,H,I,rfl,h⟩
theorem ZbV{x j pos}:PE X (.Constant (.str x) j pos) (tC (.str x)):=fun _ _ _ H _ I h=>Calls.Constant_str ⟨.str x,H,I.tok _,⟨_,rfl⟩,h⟩
def Gl(X:Cx)(x:Str):Prop:=X.env.kindOf x=some .globalImplicit
theorem ZeT{E:Value->Shared->Prop}{pins:List (Addr×Obj)}{s:Shared}{σ:St}{H:Hp}{x:Str}{u:Value}{pos:Pos}{Q:Value->Shared->Prop}(I:Inv X pins σ H s)(hg:Gl X x)(hm:X.mg x=some u)(h:Q u s)
 (hd:(x == ("__debug__":Str))=false:=by decide):wpAny (model X.prog X.w) X.A (eval (.Name x pos) X.env) Q E s:=
 Calls.Name_function_global I.ok.kind hg (Calls.loadGlobal_global (by rw[I.ok.glob];exact I.mod.glob.keeps I.bk) hm h) hd
theorem Zgq{E:Value->Shared->Prop}{pins:List (Addr×Obj)}{s:Shared}{σ:St}{H:Hp}{x:Str}{u:Value}{pos:Pos}{Q:Value->Shared->Prop}(I:Inv X pins σ H s)(hg:Gl X x)(hm:X.mg x=none)(hv:bootBuiltins x=some u)(h:Q u s)
 (hn:x≠"__name__":=by decide) (hd:(x == ("__debug__":Str))=false:=by decide):wpAny (model X.prog X.w) X.A (eval (.Name x pos) X.env) Q E s:=by
 obtain⟨mb,h1,h2⟩:=I.mod.blt
 exact Calls.Name_function_global I.ok.kind hg (Calls.loadGlobal_builtin (by rw[I.ok.glob];exact I.mod.glob.keeps I.bk) hm (by rw[I.ok.blt];exact h1.keeps I.bk) ((h2 x hn).trans hv) h) hd
theorem Znn{x:Str}{v:V}{u:Value}{pos:Pos}(hg:Gl X x)(hm:X.mg x=some u)(r:RelV v u)(hd:(x == ("__debug__":Str))=false:=by decide):PE X (.Name x pos) (tC v):=
 fun _ _ _ H _ I h=>ZeT I hg hm ⟨v,H,I,r,h⟩ hd
theorem ZcV{x:Str}{v:V}{u:Value}{pos:Pos}(hg:Gl X x)(hm:X.mg x=none)(hv:bootBuiltins x=some u)(r:RelV v u)(hn:x≠"__name__":=by decide)(hd:(x == ("__debug__":Str))=false:=by decide):PE X (.Name x pos) (tC v):=
 fun _ _ _ H _ I h=>Zgq I hg hm hv ⟨v,H,I,r,h⟩ hn hd
def t2I(ta tb:TE)(k:Int->Int->Hp->Prop):St->Hp->Prop:=fun σ H=>ta σ H fun x H1=>tb σ H1 fun y H2=>∃i j,x=.int i/\y=.int j/\k i j H2
variable{a b:Expr}{ta tb:TE}{pos:Pos}
def tCmp(p:Int->Int->Bool)(ta tb:TE):TE:=fun σ H Q=>t2I ta tb (fun i j H2=>Q (.bl (p i j)) H2) σ H
abbrev tLt:TE->TE->TE:=tCmp fun i j=>decide (i<j)
abbrev tLe:TE->TE->TE:=tCmp fun i j=>decide (i<=j)
abbrev tGt:TE->TE->TE:=tCmp fun i j=>decide (j<i)
abbrev tGe:TE->TE->TE:=tCmp fun i j=>decide (j<=i)
abbrev tEqI:TE->TE->TE:=tCmp fun i j=>decide (i=j)
abbrev tNeI:TE->TE->TE:=tCmp fun i j=>!decide (i=j)
def tB(t:TE):TT:=fun σ H Q=>t σ H fun x H1=>∃c,x=.bl c/\Q c H1
theorem ZdN{e:Expr}{t:TE}(h:PE X e t)(he:∀whole,isTrue e X.env whole=(do let v <- whole;standAt e.pos;holding [v] (truthy v)):=by intro _;rfl):PT X e (tB t):=by
 intro pins s σ H Q I hw
 refine isTrue_plain (thn (h pins s σ H _ I hw) fun v s1 ⟨x,H1,I1,r1,q1⟩=>?_) (he _)
 obtain⟨d,rfl,q⟩:=q1
 cases r1
 exact wpAny_truthy_bool ⟨H1,I1,q⟩
variable{tA tB':TT}{rest:List Expr}
def tAnd(t u:TT):TT:=fun σ H Q=>t σ H fun c H1=>if c=true then u σ H1 Q else Q false H1
def tOr(t u:TT):TT:=fun σ H Q=>t σ H fun c H1=>if c=true then Q true H1 else u σ H1 Q
def tNot(t:TT):TT:=fun σ H Q=>t σ H fun c H1=>Q (!c) H1
theorem Zno(ha:PT X a tA):PW X (.BoolOp .And [a] pos) tA:=by
 intro wh pins s σ H Q I h
 refine isTrue_and (thn (ha pins s σ H Q I h) fun c s1 e=>?_)
 cases c with
 | true=>exact isTrue_and_nil e
 | false=>exact e
theorem Zir(ha:PT X a tA):PW X (.BoolOp .Or [a] pos) tA:=by
 intro wh pins s σ H Q I h
 refine isTrue_or (thn (ha pins s σ H Q I h) fun c s1 e=>?_)
 cases c with
 | false=>exact isTrue_or_nil e
 | true=>exact e
theorem Zo3(ha:PT X a tA)(hb:PW X (.BoolOp .And (b :: rest) pos) tB'):PW X (.BoolOp .And (a :: b :: rest) pos) (tAnd tA tB'):=by
 intro wh pins s σ H Q I h
 refine isTrue_and (thn (ha pins s σ H _ I h) fun c s1 ⟨H1,I1,q1⟩=>?_)
 cases c with
 | true=>exact hb wh pins s1 σ H1 Q I1 q1
 | false=>exact⟨H1,I1,q1⟩
theorem Zlv(ha:PT X a tA)(hb:PW X (.BoolOp .Or (b :: rest) pos) tB'):PW X (.BoolOp .Or (a :: b :: rest) pos) (tOr tA tB'):=by
 intro wh pins s σ H Q I h
 refine isTrue_or (thn (ha pins s σ H _ I h) fun c s1 ⟨H1,I1,q1⟩=>?_)
 cases c with
 | true=>exact⟨H1,I1,q1⟩
 | false=>exact hb wh pins s1 σ H1 Q I1 q1
theorem Zfg(ha:PT X a tA):PT X (.UnaryOp .Not a pos) (tNot tA):=by
 intro pins s σ H Q I h
 exact isTrue_not (ha pins s σ H (fun c H1=>Q (!c) H1) I h)
def Zo4(ta tb:TE):TE:=fun σ H Q=>ta σ H fun x H1=>∃c,x=.bl c/\if c=true then tb σ H1 Q else Q (.bl false) H1
def tOrV(ta tb:TE):TE:=fun σ H Q=>ta σ H fun x H1=>∃c,x=.bl c/\if c=true then Q (.bl true) H1 else tb σ H1 Q
theorem Zjw{op}{t:TE}(h:PE X a t):PE X (.BoolOp op [a] pos) t:=fun pins s σ H Q I hw=>BoolOp_one (h pins s σ H Q I hw)
theorem Zmy(ha:PE X a ta)(hb:PE X (.BoolOp .And (b :: rest) pos) tb):PE X (.BoolOp .And (a :: b :: rest) pos) (Zo4 ta tb):=by
 intro pins s σ H Q I h
 refine BoolOp_and (thn (ha pins s σ H _ I h) fun v s1 ⟨x,H1,I1,r1,q1⟩=>?_)
 obtain⟨c,rfl,q1⟩:=q1
 cases r1
 refine wpAny_truthy_bool ?_
 cases c with
 | true=>exact hb pins s1 σ H1 Q I1 q1
 | false=>exact⟨.bl false,H1,I1,rfl,q1⟩
theorem ZqE(ha:PE X a ta)(hb:PE X (.BoolOp .Or (b :: rest) pos) tb):PE X (.BoolOp .Or (a :: b :: rest) pos) (tOrV ta tb):=by
 intro pins s σ H Q I h
 refine BoolOp_or (thn (ha pins s σ H _ I h) fun v s1 ⟨x,H1,I1,r1,q1⟩=>?_)
 obtain⟨c,rfl,q1⟩:=q1
 cases r1
 refine wpAny_truthy_bool ?_
 cases c with
 | false=>exact hb pins s1 σ H1 Q I1 q1
 | true=>exact⟨.bl true,H1,I1,rfl,q1⟩
end
end L2
namespace L2
open PySem PySem.Spec PyProof.Rows
def SqL(K:PySem.W.Frag)(H:Hp)(a:Addr)(xs:List V):Prop:=
 Rd H a (.lst xs) \/
  ∃(o:Obj) (its:Array Value) (n:Nat),K.lookup a=some o/\o.cls=.type "list"/\o.dict=none/\o.data=.seq its n/\its.size<=sizeLine/\Vals xs its.toList
def SqT(K:PySem.W.Frag)(H:Hp)(a:Addr)(xs:List V):Prop:=
 Rd H a (.tup xs) \/
  ∃(o:Obj) (its:Array Value) (n:Nat),K.lookup a=some o/\o.cls=.type "tuple"/\o.data=.seq its n/\its.size<=sizeLine/\Vals xs its.toList
def absV:Value->Option V
 | .none=>some .non
 | .bool b=>some (.bl b)
 | .int i _=>some (.int i)
 | .str x _=>some (.str x)
 | .bytes b _=>some (.byt b)
 | .float b _=>some (.flt b)
 | .ref a=>some (.ref a)
 | .type n=>some (.ty n)
 | _=>none
theorem RelV.abs{x:V}{u:Value}(r:RelV x u):absV u=some x:=by
 cases x with
 | non=>cases r;rfl
 | bl _=>cases r;rfl
 | int _=>obtain⟨t,rfl⟩:=r;rfl
 | str _=>obtain⟨t,rfl⟩:=r;rfl
 | byt _=>obtain⟨t,rfl⟩:=r;rfl
 | flt _=>obtain⟨t,rfl⟩:=r;rfl
 | ref _=>cases r;rfl
 | ty _=>cases r;rfl
theorem RelV.inj{x y:V}{u:Value}(r:RelV x u)(q:RelV y u):x=y:=Option.some.inj (r.abs.symm.trans q.abs)
theorem Vals.inj:∀{xs ys:List V}{us:List Value},Vals xs us->Vals ys us->xs=ys
 | _,_,_,.nil,.nil=>rfl
 | _,_,_,.cons r t,.cons r' t'=>by rw[r.inj r',Vals.inj t t']
section
variable{X:Cx}{pins:List (Addr×Obj)}{σ:St}{H:Hp}{s:Shared}{a:Addr}{xs ys:List V}
theorem SqL.of{K:PySem.W.Frag}(h:H a=some (.lst xs)):SqL K H a xs:=.inl (.inl h)
theorem SqT.of{K:PySem.W.Frag}(h:H a=some (.tup xs)):SqT K H a xs:=.inl (.inl h)
theorem Inv.list(I:Inv X pins σ H s)(h:SqL X.K H a xs):∃its:List Value,Vals xs its/\PlainL s.heap a its.toArray/\xs.length<=sizeLine:=by
 rcases h with h | ⟨o,its,n,hk,hc,hd,hs,hz,r⟩
 · obtain⟨z,its,n,r,e⟩:=h.ok I.hok
   exact⟨its,r,⟨_,n,e,rfl,rfl,rfl⟩,z⟩
 · refine⟨its.toList,r,⟨o,n,I.kIn a o hk,hc,hd,by simpa using hs⟩,?_⟩
   have e:=r.length
   simp only[Array.length_toList] at e
   omega
theorem Inv.tuple(I:Inv X pins σ H s)(h:SqT X.K H a xs):∃its:List Value,Vals xs its/\IsTup s.heap a its.toArray/\xs.length<=sizeLine:=by
 rcases h with h | ⟨o,its,n,hk,hc,hs,hz,r⟩
 · obtain⟨z,its,r,p⟩:=h.ok I.hok
   exact⟨its,r,p,z⟩
 · refine⟨its.toList,r,⟨o,I.kIn a o hk,hc,n,by simpa using hs⟩,?_⟩
   have e:=r.length
   simp only[Array.length_toList] at e
   omega
theorem Inv.list_inj(I:Inv X pins σ H s)(h:SqL X.K H a xs)(h':SqL X.K H a ys):xs=ys:=by
 obtain⟨its,r,⟨o,n,e,_,_,d⟩,_⟩:=I.list h
 obtain⟨its',r',⟨o',n',e',_,_,d'⟩,_⟩:=I.list h'
 rw[e] at e';cases e'
 rw[d] at d'
 injection d' with d1 _
 have:its=its':=by simpa using congrArg Array.toList d1
 subst this
 exact r.inj r'
end
abbrev Cx.wish(X:Cx)(E:Value->Shared->Prop):Cx:={ X with xe:=E }
abbrev Cx.nox(X:Cx):Cx:=X.wish fun _ _=>False
theorem Cx.Ok.wish{X:Cx}(ok:X.Ok)(E:Value->Shared->Prop):(X.wish E).Ok:=
 ⟨ok.mod,ok.kind,ok.glob,ok.blt,ok.above,ok.inj,ok.has,ok.cab,ok.hd,ok.frames,ok.stk,ok.exf,ok.bs,ok.bsz,ok.noex,ok.exfs,ok.funs,ok.frf⟩
theorem Cx.Ok.unwish{X:Cx}{E:Value->Shared->Prop}(ok:(X.wish E).Ok):X.Ok:=
 ⟨ok.mod,ok.kind,ok.glob,ok.blt,ok.above,ok.inj,ok.has,ok.cab,ok.hd,ok.frames,ok.stk,ok.exf,ok.bs,ok.bsz,ok.noex,ok.exfs,ok.funs,ok.frf⟩
section
variable{X:Cx}{pins:List (Addr×Obj)}{σ:St}{H:Hp}{s:Shared}{E:Value->Shared->Prop}
theorem Inv.wish(I:Inv X pins σ H s)(E:Value->Shared->Prop):Inv (X.wish E) pins σ H s:=⟨I.ok.wish E,I.os,I.bare,I.base,I.loc,I.cell,I.free,I.freeC,I.pin,I.hok,I.len⟩
theorem Inv.unwish(I:Inv (X.wish E) pins σ H s):Inv X pins σ H s:=⟨I.ok.unwish,I.os,I.bare,I.base,I.loc,I.cell,I.free,I.freeC,I.pin,I.hok,I.len⟩
theorem SP.unwish{D:Ends}{f:Flow}{s':Shared}(h:SP (X.wish E) pins D f s'):SP X pins D f s':=by
 cases f with
 | next=>obtain⟨σ',H',I,q⟩:=h;exact⟨σ',H',I.unwish,q⟩
 | brk=>obtain⟨σ',H',I,q⟩:=h;exact⟨σ',H',I.unwish,q⟩
 | cont=>obtain⟨σ',H',I,q⟩:=h;exact⟨σ',H',I.unwish,q⟩
 | ret u=>obtain⟨v,σ',H',I,r,q⟩:=h;exact⟨v,σ',H',I.unwish,r,q⟩
theorem PE.nox{e:Expr}{t:TE}(h:PE X.nox e t):PE X e t:=fun pins s σ H Q I hw=>
 wpAny_mono (h pins s σ H Q (I.wish _) hw) (fun _ _ ⟨v,H',I',r,q⟩=>⟨v,H',I'.unwish,r,q⟩) fun _ _ z=>False.elim z
theorem PT.nox{e:Expr}{t:TT}(h:PT X.nox e t):PT X e t:=fun pins s σ H Q I hw=>
 wpAny_mono (h pins s σ H Q (I.wish _) hw) (fun _ _ ⟨H',I',q⟩=>⟨H',I'.unwish,q⟩) fun _ _ z=>False.elim z
theorem PSs.nox{st:List Stmt}{t:TS}(h:PSs X.nox st t):PSs X st t:=fun pins s σ H D I hw=>
 wpAny_mono (h pins s σ H D (I.wish _) hw) (fun _ _ q=>q.unwish) fun _ _ z=>False.elim z
end
section
variable{X:Cx}{st:Stmt}{rest:List Stmt}{t u:TS}{e:Expr}{te:TE}{pos:Pos}
def Zo5:TS:=fun D σ H=>D.nx σ H
def tSeq(t u:TS):TS:=fun D σ H=>t { D with nx:=u D } σ H
theorem ZaM:PSs X [] Zo5:=fun _ _ σ H _ I h=>wpAny_execs_nil ⟨σ,H,I,h⟩
theorem Zaf(h1:PS X st t)(h2:PSs X rest u):PSs X (st :: rest) (tSeq t u):=by
 intro pins s σ H D I h
 refine wpAny_execs_cons (thn (h1 pins s σ H { D with nx:=u D } I h) fun f s1 q=>?_)
 cases f with
 | next=>
  obtain⟨σ',H',I',q⟩:=q
  exact h2 pins s1 σ' H' D I' q
 | ret v=>exact q
 | brk=>exact q
 | cont=>exact q
theorem Zam(h1:PS X st t):PSs X [st] t:=by
 intro pins s σ H D I h
 refine wpAny_execs_cons (thn (h1 pins s σ H D I h) fun f s1 q=>?_)
 cases f with
 | next=>exact wpAny_execs_nil q
 | ret v=>exact q
 | brk=>exact q
 | cont=>exact q
theorem Inv.quiet{pins:List (Addr×Obj)}{σ:St}{H:Hp}{s:Shared}(I:Inv X pins σ H s):interactive X.env=false:=by simp[interactive,I.ok.kind]
def Zlw(te:TE):TS:=fun D σ H=>te σ H fun _ H1=>D.nx σ H1
theorem ZaN(he:PE X e te)(hs:swapsWith e none pos.line X.env=pure false:=by rfl):PS X (.Expr e pos) (Zlw te):=by
 intro pins s σ H D I h
 exact wpAny_Expr_any (thn (he pins s σ H _ I h) fun v s1 ⟨x,H1,I1,r1,q1⟩=>⟨σ,H1,I1,q1⟩) I.quiet hs
def tRet(te:TE):TS:=fun D σ H=>te σ H D.rt
theorem ZaG(he:PE X e te):PS X (.Return (some e) pos) (tRet te):=by
 intro pins s σ H D I h
 exact wpAny_Return_some (thn (he pins s σ H _ I h) fun v s1 ⟨x,H1,I1,r1,q1⟩=>⟨x,σ,H1,I1,r1,q1⟩)
def tIfS(c:TT)(t u:TS):TS:=fun D σ H=>c σ H fun b H1=>if b=true then t D σ H1 else u D σ H1
theorem Zb6{c:Expr}{a b:List Stmt}{tc:TT}(hc:PT X c tc)(ha:PSs X a t)(hb:PSs X b u):PS X (.If c a b pos) (tIfS tc t u):=by
 intro pins s σ H D I h
 refine wpAny_If (thn (hc pins s σ H _ I h) fun d s1 ⟨H1,I1,q1⟩=>?_)
 cases d with
 | true=>exact ha pins s1 σ H1 D I1 q1
 | false=>exact hb pins s1 σ H1 D I1 q1
end
abbrev TG:=V->St->Hp->(St->Hp->Prop)->Prop
abbrev TGs:=List V->St->Hp->(St->Hp->Prop)->Prop
def PG(X:Cx)(target:Expr)(t:TG):Prop:=
 ∀(pins:List (Addr×Obj)) (s:Shared) (σ:St) (H:Hp) (v:V) (u:Value) (Q:St->Hp->Prop),Inv X pins σ H s->RelV v u->t v σ H Q ->
  wpAny (model X.prog X.w) X.A (assign target X.env u) (fun _ s'=>∃σ' H',Inv X pins σ' H' s'/\Q σ' H') X.xe s
def PGs(X:Cx)(ts:List Expr)(t:TGs):Prop:=
 ∀(pins:List (Addr×Obj)) (s:Shared) (σ:St) (H:Hp) (vs:List V) (us:List Value) (Q:St->Hp->Prop),Inv X pins σ H s->Vals vs us->t vs σ H Q ->
  wpAny (model X.prog X.w) X.A (assignInOrder ((assignEach ts X.env).map (·.2)) us) (fun _ s'=>∃σ' H',Inv X pins σ' H' s'/\Q σ' H') X.xe s
abbrev TSet:=V->V->V->Hp->(Hp->Prop)->Prop
def PSet(X:Cx)(t:TSet):Prop:=
 ∀(pins:List (Addr×Obj)) (s:Shared) (σ:St) (H:Hp) (o i v:V) (ov iv u:Value) (Q:Hp->Prop),Inv X pins σ H s->RelV o ov->RelV i iv->RelV v u->t o i v H Q ->
  wpAny (model X.prog X.w) X.A (setItem ov iv u) (fun _ s'=>∃H',Inv X pins σ H' s'/\Q H') X.xe s
abbrev TIp:=V->V->Hp->VK->Prop
section
variable{X:Cx}{pos:Pos}
def ZgF(i:Nat):TG:=fun v σ H Q=>Q (σ.set i (some v)) H
theorem Znp{i:Nat}{x:Str}(hN:X.N.Nodup)(hi:X.N[i]? = some x)(hx:Loc X.env.scope x)(hf:X.fn x=true\/X.env.scope.names.lookup x=some .local:=by first | exact .inl rfl | exact .inr rfl | assumption):PG X (.Name x pos) (ZgF i):=by
 intro pins s σ H v u Q I r h
 exact wpAny_assign_Name (Ziq I hN hi hx r (fun s' I'=>⟨_,H,I',h⟩) hf)
def gNil:TGs:=fun vs σ H Q=>vs=[]/\Q σ H
def Zo6(t:TG)(u:TGs):TGs:=fun vs σ H Q=>∃v r,vs=v :: r/\t v σ H fun σ' H'=>u r σ' H' Q
theorem ZdT:PGs X [] gNil:=by
 intro pins s σ H vs us Q I r h
 obtain⟨e,h⟩:=h
 subst e
 cases r
 exact assignInOrder_nil ⟨σ,H,I,h⟩
theorem ZaX{e:Expr}{es:List Expr}{t:TG}{u:TGs}(h1:PG X e t)(h2:PGs X es u)
 (hs:(assignEach (e :: es) X.env).map (·.2)=assign e X.env :: (assignEach es X.env).map (·.2):=by rfl):PGs X (e :: es) (Zo6 t u):=by
 intro pins s σ H vs us Q I r h
 obtain⟨v,vr,e1,h⟩:=h
 subst e1
 cases r with
 | cons r rr=>
  rw[hs]
  refine assignInOrder_cons (thn (h1 pins s σ H _ _ _ I r h) fun _ s1 ⟨σ1,H1,I1,q1⟩=>?_)
  exact h2 pins s1 σ1 H1 _ _ Q I1 rr q1
def gTup(K:PySem.W.Frag)(n:Nat)(t:TGs):TG:=fun v σ H Q=>∃a xs,v=.ref a/\SqT K H a xs/\xs.length=n/\t xs σ H Q
theorem Zo7{es:List Expr}{k:Nat}{t:TGs}{n:Nat}(hc:X.calm=true)(h:PGs X es t)
 (hn:(assignEach es X.env).length=n:=by rfl) (hst:(assignEach es X.env).findIdx? (·.1)=none:=by rfl):PG X (.Tuple es k pos) (gTup X.K n t):=by
 intro pins s σ H v u Q I r hw
 obtain⟨a,xs,e1,hq,hl,hw⟩:=hw
 subst e1
 cases r
 obtain⟨its,rv,ht,hz⟩:=I.tuple hq
 refine assign_Tuple_tuple (I.ok.hd hc) ht (by simp[hn,<- hl,rv.length]) hst fun h' hx=>?_
 have I1:Inv X pins σ H { s with heap:=h' }:=I.kept (t':=s.toks) fun b o e=>hx b o (Nat.ne_of_lt (Heap.lt_size e)) e
 exact h pins _ σ H xs _ Q I1 (by simpa using rv) hw
def gSub(to ti:TE)(t:TSet):TG:=fun v σ H Q=>to σ H fun o H1=>ti σ H1 fun i H2=>t o i v H2 fun H3=>Q σ H3
theorem Zo8{o i:Expr}{to ti:TE}{t:TSet}(ho:PE X o to)(hi:PE X i ti)(hs:PSet X t)
 (ha:∀v,assign (.Subscript o i pos) X.env v=(do
   let ov <- holding [v] (eval o X.env)
   let iv <- holding [v,ov] (eval i X.env)
   standAt pos
   holding [v,ov,iv] (setItem ov iv v)
   release [v,ov,iv] []):=by intro _;rfl):PG X (.Subscript o i pos) (gSub to ti t):=by
 intro pins s σ H v u Q I r h
 rw[ha]
 refine wpAny_bind (wpAny_holding (thn (ho pins s σ H _ I h) fun ov s1 ⟨x,H1,I1,r1,q1⟩=>?_))
 refine wpAny_bind (wpAny_holding (thn (hi pins s1 σ H1 _ I1 q1) fun iv s2 ⟨y,H2,I2,r2,q2⟩=>?_))
 refine wpAny_bind (wpAny_standAt (wpAny_bind (wpAny_holding (thn (hs pins s2 σ H2 x y v ov iv u _ I2 r1 r2 r q2) fun _ s3 ⟨H3,I3,q3⟩=>?_))))
 exact wpAny_release ⟨σ,H3,I3,q3⟩
def tAsg(te:TE)(g:TG):TS:=fun D σ H=>te σ H fun x H1=>g x σ H1 D.nx
theorem Zjx{tg e:Expr}{te:TE}{g:TG}(he:PE X e te)(hg:PG X tg g)(hs:swapsWithSole [tg] e pos.line X.env=pure false:=by rfl)(hw:swappedStores [tg] e X.env=pure none:=by rfl)
 (h1:(assignEach [tg] X.env).map (·.2)=[assign tg X.env]:=by rfl):PS X (.Assign [tg] e pos) (tAsg te g):=by
 intro pins s σ H D I h
 refine wpAny_Assign_stores (thn (he pins s σ H _ I h) fun v s1 ⟨x,H1,I1,r1,q1⟩=>?_) hs hw
 rw[h1]
 exact thn (hg pins s1 σ H1 x v _ I1 r1 q1) fun _ s2 q=>q
theorem Zo9{i:Nat}{x:Str}{e:Expr}{te:TE}{pos':Pos}(hN:X.N.Nodup)(hi:X.N[i]? = some x)(hx:Loc X.env.scope x)(he:PE X e te)(hs:swapsWith e (some (.Name x pos')) pos.line X.env=pure false:=by rfl)(hf:X.fn x=true\/X.env.scope.names.lookup x=some .local:=by first | exact .inl rfl | exact .inr rfl | assumption) :
 PS X (.Assign [.Name x pos'] e pos) (tAsg te (ZgF i)):=by
 intro pins s σ H D I h
 refine wpAny_Assign_Name (thn (he pins s σ H _ I h) fun v s1 ⟨y,H1,I1,r1,q1⟩=>?_) hs
 exact Ziq I1 hN hi hx r1 (fun s2 I2=>⟨_,H1,I2,q1⟩) hf
end
section
variable{X:Cx}{pos:Pos}
end
structure It where
 go:Nat->Hp->Prop
 yld:Nat->Hp->V->Hp->Prop
 stop:Nat->Hp->Prop
def FpOk(X:Cx)(pins:List (Addr×Obj))(H:Hp)(b:Addr):Prop:=
 H b=none/\b≠X.env.locals/\b∉X.fs/\(b∈X.ex\/X.s₀.heap.objs.size<=b)/\(∀x c,X.env.cells.lookup x=some c->c≠b) /\ ∀p∈X.pn++pins,p.1≠b
theorem Inv.fpOk{X:Cx}{pins:List (Addr×Obj)}{σ:St}{H H':Hp}{s:Shared}{b:Addr}(I:Inv X pins σ H s)(hb:s.heap.objs.size<=b)(hn:H' b=none):FpOk X pins H' b:=by
 refine⟨hn,Nat.ne_of_gt (Nat.lt_of_lt_of_le I.lt hb),I.nofs hb,.inr (Nat.le_trans I.sz hb),fun x c e z=>?_,fun p hp z=>?_⟩
 · obtain⟨v,q⟩:=I.cell x c e
   exact absurd (Nat.lt_of_lt_of_le q.lt (by rw[z];exact hb)) (Nat.lt_irrefl _)
 · exact absurd (Nat.lt_of_lt_of_le (Heap.lt_size (I.pin p hp).1) (by rw[z];exact hb)) (Nat.lt_irrefl _)
structure Turn(P:Program)(w:World)(K:PySem.W.Frag)(tg:Expr)(J:It)(fp:List Addr)(it:Addr)(tn:Nat->Heap->Prop):Prop where
 mem:it∈fp
 obj:∀i h,tn i h -> ∀b∈fp,∃o,h.get? b=some o /\ ∀v,o.data≠.cell v
 keep:∀i h h',tn i h->(∀b∈fp,∀o,h.get? b=some o->h'.get? b=some o)->tn i h'
 item:∀(X:Cx),X.prog=P->X.w=w->X.K=K->X.calm=true -> ∀(i:Nat) (pins:List (Addr×Obj)) (s:Shared) (σ:St) (H:Hp) (E:Value->Shared->Prop),Inv X pins σ H s->(∀b∈fp,FpOk X pins H b)->tn i s.heap->J.go i H ->
  wpAny (model P w) X.A (pyNext (.ref it)) (fun r s1=>∃u,r=some u /\
   wpAny (model P w) X.A (letOwnedTupleGo tg (.ref it) u) (fun _ s2=>∃x H',Inv X pins σ H' s2/\RelV x u/\J.yld i H x H'/\tn (i+1) s2.heap /\ ∀b∈fp,H' b=none) E s1) E s
 done:∀(X:Cx),X.prog=P->X.w=w->X.K=K->X.calm=true -> ∀(i:Nat) (pins:List (Addr×Obj)) (s:Shared) (σ:St) (H:Hp) (E:Value->Shared->Prop),Inv X pins σ H s->(∀b∈fp,FpOk X pins H b)->tn i s.heap->J.stop i H ->
  wpAny (model P w) X.A (pyNext (.ref it)) (fun r s1=>r=none/\Inv X pins σ H s1) E s
 self:∀(A:Around) (i:Nat) (s:Shared) (Q:Value->Shared->Prop) (E:Value->Shared->Prop),tn i s.heap->Q (.ref it) s->wpAny (model P w) A (pyIter (.ref it)) Q E s
abbrev TI:=St->Hp->(It->Hp->Prop)->Prop
def PIE(X:Cx)(pins:List (Addr×Obj))(σ:St)(tg:Expr)(R:It->Hp->Prop)(itv:Value)(s2:Shared):Prop:=
 ∃(it:Addr) (fp:List Addr) (tn:Nat->Heap->Prop) (J:It) (H':Hp),itv=.ref it/\Inv X pins σ H' s2/\Turn X.prog X.w X.K tg J fp it tn/\tn 0 s2.heap/\(∀b∈fp,FpOk X pins H' b)/\R J H'
def PI(X:Cx)(tg iter:Expr)(wi:TI):Prop:=
 ∀(pins:List (Addr×Obj)) (s:Shared) (σ:St) (H:Hp) (R:It->Hp->Prop),Inv X pins σ H s->wi σ H R ->
  wpAny (model X.prog X.w) X.A (eval iter X.env) (fun v s1=>wpAny (model X.prog X.w) X.A (pyIter v) (PIE X pins σ tg R) X.xe s1) X.xe s
theorem Zlx{M:Model}{A:Around}{E:Value->Shared->Prop}{s:Shared}{tg:Expr}{it:Addr}{u:Value}{o:Obj}{n:String}{vs:Array Value}{Q:Unit->Shared->Prop}(ho:s.heap.get? it=some o)(hc:o.cls=.type n)(hd:o.data=.fields vs)
 (hn:["enumerate","zip","dict_itemiterator","dict_reverseitemiterator","odict_iterator","itertools.zip_longest","itertools.pairwise"].contains n=false) (hQ:Q () s):wpAny M A (letOwnedTupleGo tg (.ref it) u) Q E s:=by
 unfold letOwnedTupleGo
 cases tg<;>first
  | exact wpAny_pure hQ
  | (cases u<;>first
      | exact wpAny_pure hQ
      | (refine wpAny_bind (wpAny_load ho ?_)
         rw[hc,hd]
         show wpAny M A (if (["enumerate","zip","dict_itemiterator","dict_reverseitemiterator","odict_iterator","itertools.zip_longest","itertools.pairwise"].contains n&&vs[0]? == some (rawInt _))=true then _ else _) Q E s
         rw[if_neg (by intro h;rw[hn,Bool.false_and] at h;cases h)]
         exact wpAny_pure hQ))
def Itl(K:PySem.W.Frag)(a:Addr):It:=
 ⟨fun i H=>∃xs x,SqL K H a xs/\xs[i]? = some x,fun i H x H'=>H'=H /\ ∀xs,SqL K H a xs->xs[i]? = some x,fun i H=>∃xs,SqL K H a xs/\xs.length<=i⟩
def Itr(lo:Int)(n:Nat):It:=⟨fun i _=>i<n,fun i H x H'=>H'=H/\x=.int (lo+i),fun i _=>n<=i⟩
theorem Zjy{P:Program}{w:World}{K:PySem.W.Frag}{tg:Expr}(a it:Addr):Turn P w K tg (Itl K a) [it] it (fun i h=>h.IsListIter it a i) where
 mem:=by simp
 obj:=fun i h st b hb=>by
  have e:b=it:=by simpa using hb
  subst e
  obtain⟨o,e,c,d⟩:=st
  exact⟨o,e,fun v z=>by rw[d] at z;cases z⟩
 keep:=fun i h h' st k=>st.at fun o e=>k it (by simp) o e
 item:=by
  intro X hP hw hK hc i pins s σ H E I hf st hg
  subst hP hw hK
  obtain⟨xs,x,hq,hx⟩:=hg
  obtain⟨its,rv,p,hz⟩:=I.list hq
  obtain⟨u,hu,ru⟩:=rv.get hx
  obtain⟨f0,f1,f2,f3,f4,f5⟩:=hf it (by simp)
  refine wpAny_pyNext_list_item st p.isList (x:=u) (by simpa using hu) fun h' st' sb=>?_
  have I1:Inv X pins σ H { s with heap:=h' }:=I.turned (t':=s.toks) (fun b o hb e=>(sb.2 b hb).trans e) f0 f1 f3 f4 f5
  obtain⟨o,e,c,d⟩:=id st'
  exact⟨u,rfl,Zlx (s:={ s with heap:=h' }) e c d (by decide) ⟨x,H,I1,ru,⟨rfl,fun ys hy=>by rw[I.list_inj hy hq];exact hx⟩,st',fun b hb=>(hf b hb).1⟩⟩
 done:=by
  intro X hP hw hK hc i pins s σ H E I hf st hg
  subst hP hw hK
  obtain⟨xs,hq,hx⟩:=hg
  obtain⟨its,rv,p,hz⟩:=I.list hq
  obtain⟨f0,f1,f2,f3,f4,f5⟩:=hf it (by simp)
  have hl:=rv.length
  exact wpAny_pyNext_list_end (I.ok.hd hc) st p.isList (by simp;omega) fun h' eb=>⟨rfl,I.turned (t':=s.toks) (fun b o hb e=>eb b o hb e) f0 f1 f3 f4 f5⟩
 self:=fun _ _ _ _ _ st h=>wpAny_pyIter_listiter st h
theorem Zi1{P:Program}{w:World}{K:PySem.W.Frag}{tg:Expr}(it:Addr)(lo:Int)(n:Nat):Turn P w K tg (Itr lo n) [it] it (fun i h=>IsRangeIter h it (lo+(i:Nat)*1) ((n:Int) - (i:Nat)) 1) where
 mem:=by simp
 obj:=fun i h st b hb=>by
  have e:b=it:=by simpa using hb
  subst e
  exact⟨_,st,fun v z=>by
   have z':Data.fields _=Data.cell v:=z
   cases z'⟩
 keep:=fun i h h' st k=>k it (by simp) _ st
 item:=by
  intro X hP hw hK hc i pins s σ H E I hf st hg
  subst hP hw hK
  obtain⟨f0,f1,f2,f3,f4,f5⟩:=hf it (by simp)
  have W:=Walks.range (prog:=X.prog) (w:=X.w) (I.ok.hd hc) it lo 1 n
  refine W.item i s _ _ hg st fun v h' tk hv st' kk=>?_
  obtain⟨t,rfl⟩:=hv
  have I1:Inv X pins σ H { s with heap:=h',toks:=tk }:=I.turned (fun b o hb e=>kk b o (by simpa using hb) e) f0 f1 f3 f4 f5
  refine⟨_,rfl,Zlx (s:={ s with heap:=h',toks:=tk }) (n:="range_iterator") st' rfl rfl (by decide) ⟨.int (lo+i),H,I1,⟨t,?_⟩,⟨rfl,rfl⟩,st',fun b hb=>(hf b hb).1⟩⟩
  rw[Int.mul_one]
 done:=by
  intro X hP hw hK hc i pins s σ H E I hf st hg
  subst hP hw hK
  obtain⟨f0,f1,f2,f3,f4,f5⟩:=hf it (by simp)
  exact wpAny_pyNext_range_end (I.ok.hd hc) st (by have:n<=i:=hg;omega) fun h' eb=>⟨rfl,I.turned (t':=s.toks) (fun b o hb e=>eb b o hb e) f0 f1 f3 f4 f5⟩
 self:=fun _ _ _ _ _ st h=>wpAny_pyIter_rangeiter st h
end L2
namespace L2
open PySem PySem.Spec PyProof.Rows
section
variable{X:Cx}{tg:Expr}
def Znq(K:PySem.W.Frag)(tl:TE):TI:=fun σ H R=>tl σ H fun x H1=>∃a,x=.ref a/\(∃xs,SqL K H1 a xs)/\R (Itl K a) H1
theorem Znr{l:Expr}{tl:TE}(hl:PE X l tl):PI X tg l (Znq X.K tl):=by
 intro pins s σ H R I h
 refine thn (hl pins s σ H _ I h) fun v s1 ⟨x,H1,I1,r1,q1⟩=>?_
 obtain⟨a,e,⟨xs,hq⟩,q⟩:=q1
 subst e
 cases r1
 obtain⟨its,rv,p,hz⟩:=I1.list hq
 refine wpAny_pyIter_list p.isList ?_
 refine⟨s1.heap.objs.size,[s1.heap.objs.size],_,_,H1,rfl,I1.kept (t':=s1.toks) fun b o e=>Heap.get?_push_of_some _ e,Zjy a _,⟨_,Heap.get?_push_size _ rfl,rfl,rfl⟩,fun b hb=>?_,q⟩
 have e:b=s1.heap.objs.size:=by simpa using hb
 subst e
 exact I1.fpOk (Nat.le_refl _) (I1.hok.fresh (Nat.le_refl _))
theorem Zly{pins:List (Addr×Obj)}{σ:St}{H:Hp}{s:Shared}{R:It->Hp->Prop}{E:Value->Shared->Prop}{lo hi:Int}{t u v:Tok}{tk:Nat}(I:Inv X pins σ H s)(h1:-(2 ^ 62)<=lo)(h2:lo<2 ^ 62)(h3:-(2 ^ 62)<=hi)(h4:hi<2 ^ 62)
 (q:R (Itr lo (hi - lo).toNat) H):wpAny (model X.prog X.w) X.A (pyIter (.ref s.heap.objs.size)) (PIE X pins σ tg R) E { s with heap:=s.heap.push { cls:=.type "range",data:=.fields #[.int lo t,.int hi u,.int 1 v] },toks:=tk }:=by
 refine wpAny_pyIter_range (IsRange.new ..) (small_one h1 h2 h3 h4) ?_
 have I1:Inv X pins σ H { s with heap:=s.heap.push { cls:=.type "range",data:=.fields #[.int lo t,.int hi u,.int 1 v] },toks:=tk }:=I.kept fun b o e=>Heap.get?_push_of_some _ e
 refine⟨(s.heap.push { cls:=.type "range",data:=.fields #[.int lo t,.int hi u,.int 1 v] }).objs.size,[(s.heap.push { cls:=.type "range",data:=.fields #[.int lo t,.int hi u,.int 1 v] }).objs.size],_,_,H,rfl,
  I1.kept (t':=tk) fun b o e=>Heap.get?_push_of_some _ e,Zi1 _ lo (hi - lo).toNat,?_,fun b hb=>?_,q⟩
 · have e1:lo+((0:Nat):Int)*1=lo:=by simp
   have e2:(((hi - lo).toNat:Nat):Int) - ((0:Nat):Int)=Builtin.Range.rangeSize lo hi 1:=by rw[rangeSize_one];split<;>omega
   show IsRangeIter _ _ (lo+((0:Nat):Int)*1) ((((hi - lo).toNat:Nat):Int) - ((0:Nat):Int)) 1
   rw[e1,e2]
   exact Heap.get?_push_size _ rfl
 · have e:b=(s.heap.push { cls:=.type "range",data:=.fields #[.int lo t,.int hi u,.int 1 v] }).objs.size:=by simpa using hb
   subst e
   exact I1.fpOk (Nat.le_refl _) (I1.hok.fresh (Nat.le_refl _))
def Zpa(ta:TA):TI:=fun σ H R=>ta σ H fun vs H1=>∃j:Int,vs=[.int j] /\ -(2 ^ 62)<=j/\j<2 ^ 62/\R (Itr 0 j.toNat) H1
theorem Za4{a:Expr}{ta:TA}{p pos:Pos}(hg:Gl X "range")(hm:X.mg "range"=none)(ha:PA X [a] ta)(hs:starEach [a] X.env=[(false,eval a X.env)]:=by rfl):PI X tg (.Call (.Name "range" p) [a] [] pos) (Zpa ta):=by
 intro pins s σ H R I h
 refine Call_ (Zgq I hg hm boot_range (PyProof.Rows.callWith_type1 (thn (ha pos pins s σ H _ I h) fun us s1 ⟨vs,H1,I1,r1,q1⟩=>?_) hs rfl))
 obtain⟨j,e,q1,q2,q⟩:=q1
 subst e
 cases r1 with
 | cons r rr=>
  cases rr
  obtain⟨t,rfl⟩:=r
  exact call_range_1 (Zly I1 (by omega) (by omega) q1 q2 (by simpa using q))
def tFor(wi:TI)(g:TG)(tb:TS):TS:=fun D σ H=>wi σ H fun J H1=>∃W:Nat->Nat->St->Hp->Prop,(∃m,W 0 m σ H1) /\ ∀i m σ H,W i m σ H ->
 (J.stop i H/\D.nx σ H)\/(J.go i H /\ ∃N:St->Hp->Prop,(∀σ' H',N σ' H' -> ∃m',m'<m/\W (i+1) m' σ' H') /\ ∀x H',J.yld i H x H'->g x σ H' fun σ2 H2=>tb { D with nx:=N,ct:=N,bk:=D.nx } σ2 H2)
def Zg9(fp:List Addr)(h:Heap):List (Addr×Obj):=fp.filterMap fun b=>(h.get? b).map fun o=>(b,o)
theorem Zea{fp:List Addr}{h:Heap}{b:Addr}{o:Obj}(hb:b∈fp)(e:h.get? b=some o):(b,o)∈Zg9 fp h:=List.mem_filterMap.mpr ⟨b,hb,by rw[e];rfl⟩
theorem Zjz{fp:List Addr}{h:Heap}{p:Addr×Obj}(hp:p∈Zg9 fp h):p.1∈fp/\h.get? p.1=some p.2:=by
 obtain⟨b,hb,e⟩:=List.mem_filterMap.mp hp
 cases q:h.get? b with
 | none=>rw[q] at e;cases e
 | some o=>
  rw[q] at e
  have e':(b,o)=p:=Option.some.inj e
  subst e'
  exact⟨hb,q⟩
theorem Inv.pinned{pins:List (Addr×Obj)}{σ:St}{H:Hp}{s:Shared}{fp:List Addr}(I:Inv X pins σ H s)(hf:∀b∈fp,FpOk X pins H b)(ho:∀b∈fp,∃o,s.heap.get? b=some o /\ ∀v,o.data≠.cell v):Inv X (pins++Zg9 fp s.heap) σ H s:=
 I.pins_of fun p hp=>(List.mem_append.mp hp).elim (fun z=>I.pin p (List.mem_append_right _ z)) fun z=>by
  obtain⟨hb,e⟩:=Zjz z
  obtain⟨f0,f1,f2,_⟩:=hf p.1 hb
  obtain⟨o,e',d⟩:=ho p.1 hb
  rw[e] at e';cases e'
  exact⟨e,f0,f1,f2,d⟩
theorem Inv.unpinned{pins pl:List (Addr×Obj)}{σ:St}{H:Hp}{s:Shared}(I:Inv X (pins++pl) σ H s):Inv X pins σ H s:=I.pins_of fun p hp=>I.pin p (List.mem_append_right _ (List.mem_append_left _ hp))
theorem Zco{iter:Expr}{body:List Stmt}{wi:TI}{g:TG}{tb:TS}{pos:Pos}(hp:PassesOwn (model X.prog X.w) X.A X.env X.xe)(hc:X.calm=true)(hi:PI X tg iter wi)(hg:PG X tg g)(hb:PSs X body tb)
 (hs:∀x,foldedSetIterable iter X.env x=pure x:=by intro _;rfl):PS X (.For tg iter body [] pos) (tFor wi g tb):=by
 intro pins s σ H D I h
 refine wpAny_For (thn (hi pins s σ H _ I h) fun v s1 h1=>thn h1 fun itv s2 h2=>?_) hs
 obtain⟨it,fp,tn,J,H2,e,I2,T,st2,f2,W,⟨m0,w0⟩,turn⟩:=h2
 subst e
 -- what stays true of the iterator's objects through the loop
 have stat:∀{H':Hp},(∀b∈fp,H' b=none) -> ∀b∈fp,FpOk X pins H' b:=fun hn b hb=>⟨hn b hb,(f2 b hb).2⟩
 refine codeAny_forLoop_any (fun n s'=>∃i σ' H',Inv X pins σ' H' s'/\tn i s'.heap/\(∀b∈fp,H' b=none)/\W i n σ' H') ?_ m0 ⟨0,σ,H2,I2,st2,fun b hb=>(f2 b hb).1,w0⟩
 rintro n s3 ⟨i,σ3,H3,I3,st3,fr3,w3⟩
 rcases turn i n σ3 H3 w3 with⟨stop,qn⟩ | ⟨go,N,hN,step⟩
 · refine wpAny_passesOwn hp (thn (T.done X rfl rfl rfl hc i pins s3 σ3 H3 X.xe I3 (stat fr3) st3 stop) fun r s4 ⟨hr,I4⟩=>?_)
   subst hr
   exact wpAny_execs_nil ⟨σ3,H3,I4,qn⟩
 · refine wpAny_passesOwn hp (thn (T.item X rfl rfl rfl hc i pins s3 σ3 H3 X.xe I3 (stat fr3) st3 go) fun r s4 ⟨u,hr,h4⟩=>?_)
   subst hr
   refine wpAny_passesOwn hp (thn h4 fun _ s5 ⟨x,H5,I5,r5,y5,st5,fr5⟩=>?_)
   have I5':=I5.pinned (stat fr5) (T.obj _ _ st5)
   refine wpAny_passesOwn hp (thn (hg _ s5 σ3 H5 x u _ I5' r5 (step x H5 y5)) fun _ s6 ⟨σ6,H6,I6,q6⟩=>?_)
   refine wpAny_passesOwn hp (thn (hb _ s6 σ6 H6 _ I6 q6) fun f s7 q7=>?_)
   have again:∀{σ7:St}{H7:Hp},Inv X (pins++Zg9 fp s5.heap) σ7 H7 s7->N σ7 H7 -> ∃m,m<n /\ ∃i σ' H',Inv X pins σ' H' s7/\tn i s7.heap/\(∀b∈fp,H' b=none)/\W i m σ' H':=fun {σ7 H7} I7 n7=>by
    obtain⟨m',hm,w7⟩:=hN σ7 H7 n7
    refine⟨m',hm,i+1,σ7,H7,I7.unpinned,T.keep _ _ _ st5 fun b hb o e=>(I7.pin (b,o) (List.mem_append_right _ (List.mem_append_right _ (Zea hb e)))).1,fun b hb=>?_,w7⟩
    obtain⟨o,e,d⟩:=T.obj _ _ st5 b hb
    exact(I7.pin (b,o) (List.mem_append_right _ (List.mem_append_right _ (Zea hb e)))).2.1
   cases f with
   | next=>obtain⟨σ7,H7,I7,n7⟩:=q7;exact again I7 n7
   | cont=>obtain⟨σ7,H7,I7,n7⟩:=q7;exact again I7 n7
   | brk=>obtain⟨σ7,H7,I7,q7⟩:=q7;exact⟨σ7,H7,I7.unpinned,q7⟩
   | ret v=>obtain⟨x7,σ7,H7,I7,r7,q7⟩:=q7;exact⟨x7,σ7,H7,I7.unpinned,r7,q7⟩
end
end L2
namespace L2
open PySem PySem.Spec PyProof.Rows
abbrev R2:=V->V->Hp->VK->Prop
def OpR(X:Cx)(f:Value->Value->Sem Value)(r:R2):Prop:=
 ∀(pins:List (Addr×Obj)) (s:Shared) (σ:St) (H:Hp) (x y:V) (v u:Value) (Q:VK),Inv X pins σ H s->RelV x v->RelV y u->r x y H Q ->
  wpAny (model X.prog X.w) X.A (f v u) (EP X pins σ Q) X.xe s
def UnR(X:Cx)(f:Value->Sem Value)(r:V->Hp->VK->Prop):Prop:=
 ∀(pins:List (Addr×Obj)) (s:Shared) (σ:St) (H:Hp) (x:V) (v:Value) (Q:VK),Inv X pins σ H s->RelV x v->r x H Q ->
  wpAny (model X.prog X.w) X.A (f v) (EP X pins σ Q) X.xe s
def ZcD(X:Cx)(f:Value)(r:List V->Hp->VK->Prop):Prop:=
 ∀(pins:List (Addr×Obj)) (s:Shared) (σ:St) (H:Hp) (xs:List V) (us:List Value) (Q:VK),Inv X pins σ H s->Vals xs us->r xs H Q ->
  wpAny (model X.prog X.w) X.A (call f us) (EP X pins σ Q) X.xe s
def tOp(r:R2)(ta tb:TE):TE:=fun σ H Q=>ta σ H fun x H1=>tb σ H1 fun y H2=>r x y H2 Q
def tUn(r:V->Hp->VK->Prop)(ta:TE):TE:=fun σ H Q=>ta σ H fun x H1=>r x H1 Q
def rI(C:Int->Int->Prop)(g:Int->Int->V):R2:=fun x y H Q=>∃i j,x=.int i/\y=.int j/\C i j/\Q (g i j) H
def rI0(g:Int->Int->V):R2:=fun x y H Q=>∃i j,x=.int i/\y=.int j/\Q (g i j) H
def rU(g:Int->V):V->Hp->VK->Prop:=fun x H Q=>∃i,x=.int i/\Q (g i) H
section
variable{X:Cx}{a b c:Expr}{ta tb tc:TE}{pos:Pos}
theorem binT(ha:PE X a ta)(hb:PE X b tb){pins:List (Addr×Obj)}{s:Shared}{σ:St}{H:Hp}{R:V->V->Hp->Prop}(I:Inv X pins σ H s)
 (h:ta σ H fun x H1=>tb σ H1 fun y H2=>R x y H2) {Q:Value->Shared->Prop}{f:Value->Value->Sem Value}
 (hf:∀v u s2 x y H2,Inv X pins σ H2 s2->RelV x v->RelV y u->R x y H2->wpAny (model X.prog X.w) X.A (f v u) Q X.xe s2) :
 wpAny (model X.prog X.w) X.A (eval a X.env) (fun v s₁=>wpAny (model X.prog X.w) X.A (eval b X.env) (fun u s₂=>wpAny (model X.prog X.w) X.A (f v u) Q X.xe s₂) X.xe s₁) X.xe s:=by
 refine thn (ha pins s σ H _ I h) fun v s1 ⟨x,H1,I1,r1,q1⟩=>?_
 refine thn (hb pins s1 σ H1 _ I1 q1) fun u s2 ⟨y,H2,I2,r2,q2⟩=>?_
 exact hf v u s2 x y H2 I2 r1 r2 q2
theorem ZaJ{op:Operator}{r:R2}(ho:OpR X (binaryOp op) r)(ha:PE X a ta)(hb:PE X b tb):PE X (.BinOp a op b pos) (tOp r ta tb):=by
 intro pins s σ H Q I h
 exact wpAny_BinOp (binT ha hb I h fun v u s2 x y H2 I2 rx ry q=>ho pins s2 σ H2 x y v u Q I2 rx ry q)
theorem Zns{op:UnaryOp}{r:V->Hp->VK->Prop}(ho:UnR X (unaryOp op) r)(ha:PE X a ta):PE X (.UnaryOp op a pos) (tUn r ta):=by
 intro pins s σ H Q I h
 exact UnaryOp_ (thn (ha pins s σ H _ I h) fun v s1 ⟨x,H1,I1,r1,q1⟩=>ho pins s1 σ H1 x v Q I1 r1 q1)
theorem opI{f:Value->Value->Sem Value}{C:Int->Int->Prop}{g:Int->Int->Int}
 (rule:∀(i j:Int) (t u:Tok) (s:Shared) (Q:Value->Shared->Prop) (E:Value->Shared->Prop),C i j->Q (.int (g i j) s.toks) { s with toks:=s.toks+1 }->wpAny (model X.prog X.w) X.A (f (.int i t) (.int j u)) Q E s) :
 OpR X f (rI C fun i j=>.int (g i j)):=by
 intro pins s σ H x y v u Q I rx ry h
 obtain⟨i,j,rfl,rfl,hc,q⟩:=h
 obtain⟨t,rfl⟩:=rx
 obtain⟨t',rfl⟩:=ry
 exact rule i j t t' s _ _ hc ⟨.int (g i j),H,I.tok _,⟨_,rfl⟩,q⟩
theorem opI0{f:Value->Value->Sem Value}{g:Int->Int->Int}
 (rule:∀(i j:Int) (t u:Tok) (s:Shared) (Q:Value->Shared->Prop) (E:Value->Shared->Prop),Q (.int (g i j) s.toks) { s with toks:=s.toks+1 }->wpAny (model X.prog X.w) X.A (f (.int i t) (.int j u)) Q E s) :
 OpR X f (rI0 fun i j=>.int (g i j)):=by
 intro pins s σ H x y v u Q I rx ry h
 obtain⟨i,j,rfl,rfl,q⟩:=h
 obtain⟨t,rfl⟩:=rx
 obtain⟨t',rfl⟩:=ry
 exact rule i j t t' s _ _ ⟨.int (g i j),H,I.tok _,⟨_,rfl⟩,q⟩
theorem opB0{f:Value->Value->Sem Value}{g:Int->Int->Bool}
 (rule:∀(i j:Int) (t u:Tok) (s:Shared) (Q:Value->Shared->Prop) (E:Value->Shared->Prop),Q (.bool (g i j)) s->wpAny (model X.prog X.w) X.A (f (.int i t) (.int j u)) Q E s) :
 OpR X f (rI0 fun i j=>.bl (g i j)):=by
 intro pins s σ H x y v u Q I rx ry h
 obtain⟨i,j,rfl,rfl,q⟩:=h
 obtain⟨t,rfl⟩:=rx
 obtain⟨t',rfl⟩:=ry
 exact rule i j t t' s _ _ ⟨.bl (g i j),H,I,rfl,q⟩
def CDiv(i j:Int):Prop:=0<j/\j<1073741824
def CPow(i j:Int):Prop:=0<=j/\j<=1000000/\i.natAbs<2 ^ 64
def CMul(i j:Int):Prop:=(-(2 ^ 64)<i/\i<2 ^ 64)\/(-(2 ^ 64)<j/\j<2 ^ 64)
theorem CMul.ok{i j:Int}(h:CMul i j):IntMulOk i j:=by
 rcases h with⟨h1,h2⟩ | ⟨h1,h2⟩
 · exact .of_left (intBits_le_64 h1 h2)
 · exact .of_right (intBits_le_64 h1 h2)
theorem ZdU:OpR X (binaryOp .Add) (rI0 fun i j=>.int (i+j)):=opI0 fun _ _ _ _ _ _ _ q=>add_int q
theorem Zha:OpR X (binaryOp .Sub) (rI0 fun i j=>.int (i - j)):=opI0 fun _ _ _ _ _ _ _ q=>sub_int q
theorem ZcW:OpR X (binaryOp .FloorDiv) (rI CDiv fun i j=>.int (i / j)):=opI fun i j _ _ _ _ _ hc q=>by
 have h1:(0:Int)<j:=hc.1
 have h2:j<1073741824:=hc.2
 exact floordiv_int (by omega) (by rw[Int.fdiv_eq_ediv_of_nonneg i (by omega)];exact q) (.inl (PyProof.noPylong_small (by omega)))
theorem ZbD:OpR X (binaryOp .Mod) (rI (fun _ j=>0<j) fun i j=>.int (i % j)):=opI fun i j _ _ _ _ _ hc q=>by
 have h1:(0:Int)<j:=hc
 exact mod_int' (by omega) (by rw[Int.fmod_eq_emod_of_nonneg i (by omega)];exact q)
theorem Zpb:OpR X (binaryOp .Pow) (rI CPow fun i j=>.int (i ^ j.toNat)):=opI fun _ _ _ _ _ _ _ hc q=>pow_int_small hc.1 hc.2.1 hc.2.2 q
theorem unI{f:Value->Sem Value}{g:Int->Int}
 (rule:∀(i:Int) (t:Tok) (s:Shared) (Q:Value->Shared->Prop) (E:Value->Shared->Prop),Q (.int (g i) s.toks) { s with toks:=s.toks+1 }->wpAny (model X.prog X.w) X.A (f (.int i t)) Q E s) :
 UnR X f (rU fun i=>.int (g i)):=by
 intro pins s σ H x v Q I rx h
 obtain⟨i,rfl,q⟩:=h
 obtain⟨t,rfl⟩:=rx
 exact rule i t s _ _ ⟨.int (g i),H,I.tok _,⟨_,rfl⟩,q⟩
theorem ZjA:UnR X (unaryOp .USub) (rU fun i=>.int (-i)):=unI fun _ _ _ _ _ q=>neg_int q
end
def scal:V->V->Bool
 | .non,.non=>true | .non,.int _=>true | .int _,.non=>true | .non,.bl _=>true | .bl _,.non=>true | .non,.str _=>true | .str _,.non=>true
 | .int _,.int _=>true | .bl _,.bl _=>true | .str _,.str _=>true | .byt _,.byt _=>true
 | .int _,.str _=>true | .str _,.int _=>true | .bl _,.str _=>true | .str _,.bl _=>true
 | _,_=>false
def rEq:R2:=fun x y H Q=>scal x y=true/\Q (.bl (decide (x=y))) H
def rNe:R2:=fun x y H Q=>scal x y=true/\Q (.bl (!decide (x=y))) H
theorem ZhY{i j:Int}:decide (V.int i=V.int j)=(i == j):=by
 rw[Bool.eq_iff_iff]
 simp
theorem Zmz{i j:Bool}:decide (V.bl i=V.bl j)=(i == j):=by
 rw[Bool.eq_iff_iff]
 simp
theorem ZjB{i j:Str}:decide (V.str i=V.str j)=(i == j):=by
 rw[Bool.eq_iff_iff]
 simp
theorem ZjC{i j:Array UInt8}:decide (V.byt i=V.byt j)=(i.toList == j.toList):=by
 rw[Bool.eq_iff_iff]
 cases i
 cases j
 simp
section
variable{X:Cx}{a b c:Expr}{ta tb tc:TE}{pos:Pos}
theorem Za2{pins:List (Addr×Obj)}{σ:St}{H:Hp}{s:Shared}{Q:VK}{k k':Bool}(I:Inv X pins σ H s)(q:Q (.bl k) H)(e:k=k'):EP X pins σ Q (.bool k') s:=by
 subst e
 exact⟨.bl k,H,I,rfl,q⟩
theorem Zfk:OpR X (compareOp .Eq) rEq:=by
 intro pins s σ H x y v u Q I rx ry h
 obtain⟨hs,q⟩:=h
 cases x with
 | non=>
  cases rx
  cases y with
  | non=>cases ry;exact PySem.EqNone.eq_none_none (Za2 I q (by simp))
  | bl j=>cases ry;exact PySem.EqNone.eq_none_bool (Za2 I q (by simp))
  | int j=>obtain⟨t',rfl⟩:=ry;exact PySem.EqNone.eq_none_int (Za2 I q (by simp))
  | str j=>obtain⟨t',rfl⟩:=ry;exact PySem.EqNone.eq_none_str (Za2 I q (by simp))
  | _=>exact absurd (show false=true from hs) Bool.false_ne_true
 | bl i=>
  cases rx
  cases y with
  | non=>cases ry;exact PySem.EqNone.eq_bool_none (Za2 I q (by simp))
  | bl j=>cases ry;exact eq_bool (Za2 I q Zmz)
  | str j=>obtain⟨t',rfl⟩:=ry;exact PySem.EqMixed.eq_bool_str (Za2 I q (by simp))
  | _=>exact absurd (show false=true from hs) Bool.false_ne_true
 | int i=>
  obtain⟨t,rfl⟩:=rx
  cases y with
  | non=>cases ry;exact PySem.EqNone.eq_int_none (Za2 I q (by simp))
  | int j=>obtain⟨t',rfl⟩:=ry;exact eq_int (Za2 I q ZhY)
  | str j=>obtain⟨t',rfl⟩:=ry;exact PySem.EqMixed.eq_int_str (Za2 I q (by simp))
  | _=>exact absurd (show false=true from hs) Bool.false_ne_true
 | str i=>
  obtain⟨t,rfl⟩:=rx
  cases y with
  | non=>cases ry;exact PySem.EqNone.eq_str_none (Za2 I q (by simp))
  | bl j=>cases ry;exact PySem.EqMixed.eq_str_bool (Za2 I q (by simp))
  | int j=>obtain⟨t',rfl⟩:=ry;exact PySem.EqMixed.eq_str_int (Za2 I q (by simp))
  | str j=>obtain⟨t',rfl⟩:=ry;exact eq_str (Za2 I q ZjB)
  | _=>exact absurd (show false=true from hs) Bool.false_ne_true
 | byt i=>
  obtain⟨t,rfl⟩:=rx
  cases y with
  | byt j=>obtain⟨t',rfl⟩:=ry;exact PySem.W.eq_bytes (Za2 I q ZjC)
  | _=>exact absurd (show false=true from hs) Bool.false_ne_true
 | _=>cases y<;>exact absurd (show false=true from hs) Bool.false_ne_true
theorem Zhb:OpR X (compareOp .NotEq) rNe:=by
 intro pins s σ H x y v u Q I rx ry h
 obtain⟨hs,q⟩:=h
 cases x with
 | non=>
  cases rx
  cases y with
  | non=>cases ry;exact PySem.EqNone.ne_none_none (Za2 I q (by simp))
  | bl j=>cases ry;exact PySem.EqNone.ne_none_bool (Za2 I q (by simp))
  | int j=>obtain⟨t',rfl⟩:=ry;exact PySem.EqNone.ne_none_int (Za2 I q (by simp))
  | str j=>obtain⟨t',rfl⟩:=ry;exact PySem.EqNone.ne_none_str (Za2 I q (by simp))
  | _=>exact absurd (show false=true from hs) Bool.false_ne_true
 | bl i=>
  cases rx
  cases y with
  | non=>cases ry;exact PySem.EqNone.ne_bool_none (Za2 I q (by simp))
  | bl j=>cases ry;exact ne_bool (Za2 I q (congrArg not Zmz))
  | str j=>obtain⟨t',rfl⟩:=ry;exact PySem.EqMixed.ne_bool_str (Za2 I q (by simp))
  | _=>exact absurd (show false=true from hs) Bool.false_ne_true
 | int i=>
  obtain⟨t,rfl⟩:=rx
  cases y with
  | non=>cases ry;exact PySem.EqNone.ne_int_none (Za2 I q (by simp))
  | int j=>obtain⟨t',rfl⟩:=ry;exact ne_int (Za2 I q (congrArg not ZhY))
  | str j=>obtain⟨t',rfl⟩:=ry;exact PySem.EqMixed.ne_int_str (Za2 I q (by simp))
  | _=>exact absurd (show false=true from hs) Bool.false_ne_true
 | str i=>
  obtain⟨t,rfl⟩:=rx
  cases y with
  | non=>cases ry;exact PySem.EqNone.ne_str_none (Za2 I q (by simp))
  | bl j=>cases ry;exact PySem.EqMixed.ne_str_bool (Za2 I q (by simp))
  | int j=>obtain⟨t',rfl⟩:=ry;exact PySem.EqMixed.ne_str_int (Za2 I q (by simp))
  | str j=>obtain⟨t',rfl⟩:=ry;exact ne_str (Za2 I q (congrArg not ZjB))
  | _=>exact absurd (show false=true from hs) Bool.false_ne_true
 | byt i=>
  obtain⟨t,rfl⟩:=rx
  cases y with
  | byt j=>obtain⟨t',rfl⟩:=ry;exact PySem.W.ne_bytes (Za2 I q (congrArg not ZjC))
  | _=>exact absurd (show false=true from hs) Bool.false_ne_true
 | _=>cases y<;>exact absurd (show false=true from hs) Bool.false_ne_true
theorem Znt:OpR X (compareOp .Lt) (rI0 fun i j=>.bl (decide (i<j))):=opB0 fun _ _ _ _ _ _ _ q=>lt_int q
theorem Zpc:OpR X (compareOp .LtE) (rI0 fun i j=>.bl (decide (i<=j))):=opB0 fun _ _ _ _ _ _ _ q=>le_int q
theorem ZjD:OpR X (compareOp .Gt) (rI0 fun i j=>.bl (decide (j<i))):=opB0 fun _ _ _ _ _ _ _ q=>gt_int q
theorem ZqF:OpR X (compareOp .GtE) (rI0 fun i j=>.bl (decide (j<=i))):=opB0 fun _ _ _ _ _ _ _ q=>ge_int q
theorem ZjE:OpR X (compareOp .In) (fun x y H Q=>∃i j,x=.str i/\y=.str j/\Q (.bl (!(Builtin.Str.occurrences j i 0 j.length 1).isEmpty)) H):=by
 intro pins s σ H x y v u Q I rx ry h
 obtain⟨i,j,rfl,rfl,q⟩:=h
 obtain⟨t,rfl⟩:=rx
 obtain⟨t',rfl⟩:=ry
 exact in_str (Za2 I q rfl)
theorem ZmA:OpR X (compareOp .Is) (fun x y H Q=>y=.non/\Q (.bl (decide (x=.non))) H):=by
 intro pins s σ H x y v u Q I rx ry h
 obtain⟨rfl,q⟩:=h
 cases ry
 refine is_none_gen (Za2 I q ?_)
 cases x<;>first
  | (cases rx;rfl)
  | (obtain⟨t,rfl⟩:=rx;rfl)
theorem Za0(b:Expr){op:CmpOp}(h:op≠.In:=by decide)(h2:op≠.NotIn:=by decide):behindInMarks op b=false:=by
 have e1:(op == CmpOp.In)=false:=by cases op<;>first | rfl | exact absurd rfl h
 have e2:(op == CmpOp.NotIn)=false:=by cases op<;>first | rfl | exact absurd rfl h2
 cases b<;>simp[behindInMarks,e1,e2]
theorem Zdj{op:CmpOp}{r:R2}(ho:OpR X (compareOp op) r)(ha:PE X a ta)(hb:PE X b tb)(hm:behindInMarks op b=false):PE X (.Compare a [op] [b] pos) (tOp r ta tb):=by
 intro pins s σ H Q I h
 exact wpAny_Compare1 (binT ha hb I h fun v u s2 x y H2 I2 rx ry q=>ho pins s2 σ H2 x y v u Q I2 rx ry q) hm
def Znu(t:TE):TT:=fun σ H Q=>t σ H fun x H'=>∃k,x=.bl k/\Q k H'
theorem ZaK{op:CmpOp}{r:R2}(ho:OpR X (compareOp op) r)(ha:PE X a ta)(hb:PE X b tb)(hm:behindInMarks op b=false):PT X (.Compare a [op] [b] pos) (Znu (tOp r ta tb)):=by
 intro pins s σ H Q I h
 refine wpAny_isTrue_Compare1 (thn (ha pins s σ H _ I h) fun v s1 ⟨x,H1,I1,r1,q1⟩=>thn (hb pins s1 σ H1 _ I1 q1) fun u s2 ⟨y,H2,I2,r2,q2⟩=>
  thn (ho pins s2 σ H2 x y v u _ I2 r1 r2 q2) fun c s3 ⟨z,H3,I3,r3,k,e,q3⟩=>?_) hm
 subst e
 cases r3
 exact wpAny_truthy_bool ⟨H3,I3,q3⟩
def ZmB(r r':R2)(ta tb tc:TE):TE:=fun σ H Q=>ta σ H fun x H1=>tb σ H1 fun y H2=>r x y H2 fun z H3=>∃k,z=.bl k /\
 (if k=true then tc σ H3 fun w' H4=>r' y w' H4 Q else Q (.bl false) H3)
theorem Zlz{op op':CmpOp}{r r':R2}(ho:OpR X (compareOp op) r)(ho':OpR X (compareOp op') r')(ha:PE X a ta)(hb:PE X b tb)(hc:PE X c tc)
 (hm:lastMarks [op,op'] [b,c]=false:=by with_unfolding_all rfl):PE X (.Compare a [op,op'] [b,c] pos) (ZmB r r' ta tb tc):=by
 intro pins s σ H Q I h
 refine Compare_chain (thn (ha pins s σ H _ I h) fun v s1 ⟨x,H1,I1,r1,q1⟩=>chain_link (thn (hb pins s1 σ H1 _ I1 q1) fun u s2 ⟨y,H2,I2,r2,q2⟩=>
  thn (ho pins s2 σ H2 x y v u _ I2 r1 r2 q2) fun d s3 ⟨z,H3,I3,r3,k,e,q3⟩=>?_)) hm
 subst e
 cases r3
 refine wpAny_truthy_bool ?_
 cases k with
 | false=>exact ite_ff ⟨.bl false,H3,I3,rfl,q3⟩
 | true=>exact ite_tt (chain_last (thn (hc pins s3 σ H3 _ I3 q3) fun w' s4 ⟨z',H4,I4,r4,q4⟩=>ho' pins s4 σ H4 y z' u w' Q I4 r2 r4 q4))
theorem Zgr:(sizeLine:Nat)<2 ^ 63:=by rw[sizeLine_eq];decide
theorem ZeU{x:V}{us:List Value}(r:Vals [x] us):∃u,us=[u]/\RelV x u:=by
 cases r with
 | cons r1 r2=>cases r2;exact⟨_,rfl,r1⟩
theorem ZlA{x y:V}{us:List Value}(r:Vals [x,y] us):∃u w',us=[u,w']/\RelV x u/\RelV y w':=by
 cases r with
 | cons r1 r2=>
  cases r2 with
  | cons r3 r4=>cases r4;exact⟨_,_,rfl,r1,r3⟩
theorem ZlB:ZcD X (.builtin "abs") (fun xs H Q=>∃i,xs=[.int i]/\Q (.int (if i<0 then -i else i)) H):=by
 intro pins s σ H xs us Q I r h
 obtain⟨i,rfl,q⟩:=h
 obtain⟨u,rfl,t,rfl⟩:=ZeU r
 exact call_abs_int fun u tk=>⟨.int (if i<0 then -i else i),H,I.tok _,⟨_,rfl⟩,q⟩
theorem Zhc:ZcD X (.type "int") (fun xs H Q=>(∃i,xs=[.int i]/\Q (.int i) H) \/ ∃k,xs=[.bl k]/\Q (.int (if k then 1 else 0)) H):=by
 intro pins s σ H xs us Q I r h
 rcases h with⟨i,rfl,q⟩ | ⟨k,rfl,q⟩
 · obtain⟨u,rfl,t,rfl⟩:=ZeU r
   exact call_int_int ⟨.int i,H,I,⟨_,rfl⟩,q⟩
 · obtain⟨u,rfl,r1⟩:=ZeU r
   cases r1
   exact call_int_bool ⟨.int (if k then 1 else 0),H,I.tok _,⟨_,rfl⟩,q⟩
end
end L2
namespace L2
open PySem PySem.Spec PyProof.Rows
structure ObjM(h:Heap)(x dx C:Addr)(mA:Str->Option Value):Prop where
 obj:h.get? x=some (PySem.W.instObj C dx)
 ns:h.Ns1 dx mA
 ne:dx≠x
theorem ZjF{h:Heap}{dx:Addr}{mA:Str->Option Value}(n:h.Ns1 dx mA):∃od,h.get? dx=some od /\ ∀name,PySem.W.lookIn name od=some (mA name):=by
 obtain⟨o,es,ep,ho,hd,hk,_,hm⟩:=n
 refine⟨o,ho,fun name=>?_⟩
 have e:=hm name
 unfold nsFind findBy at e
 rw[<- Array.find?_toList] at e
 unfold PySem.W.lookIn
 rw[hd]
 dsimp only
 split
 · rename_i y q
   rw[q] at e
   exact congrArg some e
 · rename_i q
   rw[q] at e
   have a:es.toList.any (·.refKey)=false:=by
    rw[List.any_eq_false]
    intro y hy
    obtain⟨z,t,hkey⟩:=hk y (Array.mem_toList_iff.mp hy)
    simp[DictEntry.refKey,hkey]
   have a':¬es.toList.any (·.refKey)=true:=by rw[a];exact Bool.false_ne_true
   rw[if_neg a']
   exact congrArg some e
theorem ObjM.look{h:Heap}{x dx C:Addr}{mA:Str->Option Value}(I:ObjM h x dx C mA):∃od,PySem.W.InstAt h x (PySem.W.instObj C dx) C (some od) /\ ∀name,PySem.W.lookIn name od=some (mA name):=
 let ⟨od,ho,hl⟩:=ZjF I.ns
 ⟨od,⟨I.obj,rfl,rfl,ho⟩,hl⟩
section
variable{prog:Program}{w:World}{A:Around}{E:Value->Shared->Prop}{s:Shared}{K:PySem.W.Frag}{x dx C f:Addr}{mA:Str->Option Value}{name:Str}{v:Value}
theorem Znv{expr:Bool}{Q:Value->Shared->Prop}(X:K.In s.heap)(I:ObjM s.heap x dx C mA)(hg:PySem.W.plainGet K C name=true)(hh:PySem.W.hasDictIn K C=true)
 (ha:PySem.W.findIn K (.ref C) name=some none) (hv:mA name=some v) (hv':PySem.W.handedIn v=true) (h:Q v { s with toks:=s.toks+1 }) :
 wpAny (model prog w) A (getAttr (.ref x) name expr) Q E s:=by
 obtain⟨od,J,hl⟩:=I.look
 exact PySem.W.get_value X J (PySem.W.plainGet_of hg).1 (PySem.W.findObj_own hh ha rfl (by rw[hl,hv])) hv' h
theorem ZlC{pl:Sem Bool}{Q:Value×List Value->Shared->Prop}(X:K.In s.heap)(I:ObjM s.heap x dx C mA)(hg:PySem.W.plainGet K C name=true)
 (hf:PySem.W.findIn K (.ref C) name=some (some (.ref f))) (ht:PySem.W.isFn K (.ref f)=true) (hv:mA name=none) (h:Q (.ref f,[.ref x]) s) :
 wpAny (model prog w) A (getMethod (.ref x) name pl) Q E s:=by
 obtain⟨od,J,hl⟩:=I.look
 exact PySem.W.method_fn X J (PySem.W.plainGet_of hg).1 (PySem.W.plainGet_of hg).2 hf (beq_iff_eq.mp ht) (by show(PySem.W.lookIn name od).map (·.isSome)=some false;rw[hl,hv];rfl) h
theorem Znw{ns:List Str}{Q:Unit->Shared->Prop}(X:K.In s.heap)(I:ObjM s.heap x dx C mA)
 (hs:PySem.W.findIn K (.ref C) "__setattr__"=some (some (.builtin "object.__setattr__"))) (hp:PySem.W.plainOver K C=true) (ht:PySem.W.takerIn K C name=some none) (hh:PySem.W.hasDictIn K C=true)
 (hw:PySem.Within mA ns) (hsz:ns.length<=sizeLine)
 (h:∀h',ObjM h' x dx C (fun y=>if y=name then some v else mA y)->Heap.SameBut dx s.heap h'->Q () { s with heap:=h',toks:=s.toks+2 }) :
 wpAny (model prog w) A (setAttr (.ref x) name v) Q E s:=by
 obtain⟨od,J,hl⟩:=I.look
 refine PySem.W.set_plain X J hs (PySem.W.osa_open (s:={ s with toks:=s.toks+1 }) (r:=none) X J hp ht fun b=>?_)
 obtain⟨cd,hc,hd'⟩:=PySem.W.any_some hh
 have hx:s.heap.get? x=some ⟨.ref C,some dx,.plain,#[]⟩:=I.obj
 refine wpAny_bind (wpAny_pure (wpAny_bind (wpAny_bind (wpAny_loadPart hx (wpAny_bind (PySem.W.Looks.here (s:={ s with toks:=s.toks+1 }) (PySem.W.looks_clsIn X hc) ?_))))))
 rw[hd']
 refine wpAny_pure (a:=some dx) (wpAny_bind (wpAny_pure (wpAny_bind ?_)))
 refine wpAny_nsSet1 (s:={ s with toks:=s.toks+1 }) I.ns fun h' hn2 hs2=>?_
 obtain⟨oD,esD,epD,hoD,hdD,hcD⟩:=hn2.count (PySem.Within.cons name v hw)
 refine wpAny_bind (wpAny_lookBehind hoD (by rw[hdD];exact pastItsLine_dict (Nat.le_trans hcD (by rw[List.length_cons];omega))) ?_)
 exact wpAny_pure (h _ ⟨(hs2.2 _ (Ne.symm I.ne)).trans I.obj,hn2,I.ne⟩ hs2)
theorem ZlD{R:Result->Shared->Prop}{vs:List Value}{kw:List (Str×Value)}(X:K.In s.heap)(hm:PySem.W.makesIn K C=true)
 (hi:PySem.W.findIn K (.ref C) "__init__"=some (some (.ref f))) (hf:PySem.W.typeIn K (.ref f)=some (.type "function"))
 (h:codeAny (model prog w) (A.under (.builtin "type.__call__" ⟨.ref C :: vs,kw⟩)) (.call (.ref f) ⟨.ref (s.heap.objs.size+1) :: vs,kw⟩) (PySem.W.InitBack (s.heap.objs.size+1) R)
   { s with heap:=(s.heap.push PySem.W.emptyDict).push (PySem.W.instObj C s.heap.objs.size) }) :
 codeAny (model prog w) A (.call (.ref C) ⟨vs,kw⟩) R s:=by
 obtain⟨hh,g,d,t,os⟩:=s
 exact PySem.W.make_core (PySem.W.makes_of X hm) (PySem.W.looks_findIn X hi) (fun self=>PySem.W.bind_fn X self hf) (.inl rfl) h
end
def putF(f:Str)(v:V):List (Str×V)->List (Str×V)
 | []=>[(f,v)]
 | (g,x) :: r=>if g=f then(g,v) :: r else(g,x) :: putF f v r
theorem ZfJ(f g:Str)(v:V):∀fs:List (Str×V),(putF f v fs).lookup g=if g=f then some v else fs.lookup g
 | []=>by
  show List.lookup g [(f,v)]=_
  by_cases h:g=f
  · have hb:(g == f)=true:=beq_iff_eq.mpr h
    simp only[List.lookup,hb,if_pos h]
  · have hb:(g == f)=false:=beq_eq_false_iff_ne.mpr h
    simp only[List.lookup,hb,if_neg h]
 | (k,x) :: r=>by
  have ih:=ZfJ f g v r
  rw[show putF f v ((k,x) :: r)=(if k=f then(k,v) :: r else(k,x) :: putF f v r) from rfl]
  by_cases hk:k=f
  · rw[if_pos hk]
    by_cases h:g=k
    · have hb:(g == k)=true:=beq_iff_eq.mpr h
      simp only[List.lookup,hb,if_pos (h.trans hk)]
    · have hb:(g == k)=false:=beq_eq_false_iff_ne.mpr h
      simp only[List.lookup,hb,if_neg (fun e:g=f=>h (e.trans hk.symm))]
  · rw[if_neg hk]
    by_cases h:g=k
    · have hb:(g == k)=true:=beq_iff_eq.mpr h
      simp only[List.lookup,hb,if_neg (fun e:g=f=>hk (h.symm.trans e))]
    · have hb:(g == k)=false:=beq_eq_false_iff_ne.mpr h
      simp only[List.lookup,hb]
      exact ih
theorem ZfK(f:Str)(v:V):∀fs:List (Str×V),f∈(putF f v fs).map (·.1) /\ ∀g,g∈fs.map (·.1)->g∈(putF f v fs).map (·.1)
 | []=>⟨by simp[putF],fun g h=>by simp at h⟩
 | (k,x) :: r=>by
  obtain⟨i1,i2⟩:=ZfK f v r
  rw[show putF f v ((k,x) :: r)=(if k=f then(k,v) :: r else(k,x) :: putF f v r) from rfl]
  by_cases hk:k=f
  · rw[if_pos hk]
    subst hk
    exact⟨by simp,fun g h=>by simpa using h⟩
  · rw[if_neg hk]
    refine⟨?_,fun g h=>?_⟩
    · rw[List.map_cons]
      exact List.mem_cons_of_mem _ i1
    · rw[List.map_cons] at h ⊢
      rcases List.mem_cons.mp h with e | e
      · exact List.mem_cons.mpr (.inl e)
      · exact List.mem_cons_of_mem _ (i2 g e)
theorem ZfL(f:Str)(v:V):∀fs:List (Str×V),(putF f v fs).length<=fs.length+1
 | []=>by simp[putF]
 | (k,x) :: r=>by
  have ih:=ZfL f v r
  rw[show putF f v ((k,x) :: r)=(if k=f then(k,v) :: r else(k,x) :: putF f v r) from rfl]
  by_cases hk:k=f
  · rw[if_pos hk,List.length_cons,List.length_cons];omega
  · rw[if_neg hk,List.length_cons,List.length_cons];omega
theorem RelO.some_of{v:V}{o:Option Value}(r:RelO (some v) o):∃u,o=some u/\RelV v u:=by
 cases o with
 | none=>exact(show False from r).elim
 | some u=>exact⟨u,rfl,r⟩
theorem RelO.none_of{o:Option Value}(r:RelO none o):o=none:=by
 cases o with
 | none=>rfl
 | some u=>exact(show False from r).elim
theorem ZjG{v:V}{u:Value}(r:RelV v u):PySem.W.handedIn u=true:=by
 cases v with
 | non=>cases(show u=Value.none from r);rfl
 | bl b=>cases(show u=Value.bool b from r);rfl
 | int i=>obtain⟨t,e⟩:=(show ∃t,u=Value.int i t from r);cases e;rfl
 | str x=>obtain⟨t,e⟩:=(show ∃t,u=Value.str x t from r);cases e;rfl
 | byt b=>obtain⟨t,e⟩:=(show ∃t,u=Value.bytes b t from r);cases e;rfl
 | flt b=>obtain⟨t,e⟩:=(show ∃t,u=Value.float b t from r);cases e;rfl
 | ref a=>cases(show u=Value.ref a from r);rfl
 | ty n=>cases(show u=Value.type n from r);rfl
section
variable{P:Program}{w:World}{H H':Hp}{h h':Heap}{a C dx:Addr}{fs fs':List (Str×V)}
theorem ZfM(hok:HOk P w H h)(e:H a=some (.ins C dx fs)):∃mA,ObjM h a dx C mA/\(∀f,RelO (fs.lookup f) (mA f))/\PySem.Within mA (fs.map (·.1))/\fs.length<=1000/\H dx=some (.own a):=by
 obtain⟨d,z,ne,ob,mA,n,r,q⟩:=(show ObjOk P w H h a (.ins C dx fs) from hok a _ e)
 exact⟨mA,⟨ob,n,ne⟩,r,q,z,d⟩
end
structure Cls(K:PySem.W.Frag)(C:Addr):Prop where
 pg:PySem.W.plainGet K C Str.empty=true
 hd:PySem.W.hasDictIn K C=true
 po:PySem.W.plainOver K C=true
 sa:PySem.W.findIn K (.ref C) "__setattr__"=some (some (.builtin "object.__setattr__"))
theorem Cls.get{K:PySem.W.Frag}{C:Addr}(c:Cls K C)(f:Str):PySem.W.plainGet K C f=true:=c.pg
def NoAttr(K:PySem.W.Frag)(C:Addr)(f:Str):Prop:=PySem.W.findIn K (.ref C) f=some none
theorem NoAttr.taker{K:PySem.W.Frag}{C:Addr}{f:Str}(n:NoAttr K C f):PySem.W.takerIn K C f=some none:=by
 unfold PySem.W.takerIn
 rw[show PySem.W.findIn K (.ref C) f=some none from n]
 rfl
structure Con(K:PySem.W.Frag)(C:Addr)(f:Str)(v:V)(u:Value):Prop where
 at_:PySem.W.findIn K (.ref C) f=some (some u)
 rel:RelV v u
 get:PySem.W.specialIn K u "__get__"=some none
 cp:PySem.W.copiedNames.contains f=false
structure Meth(K:PySem.W.Frag)(C:Addr)(m:Str)(f:Addr):Prop where
 at_:PySem.W.findIn K (.ref C) m=some (some (.ref f))
 fn:PySem.W.isFn K (.ref f)=true
 kp:PySem.W.keepIn K (.ref f)=true
section
variable{X:Cx}{pins:List (Addr×Obj)}{σ:St}{H:Hp}{s:Shared}{a C dx:Addr}{fs:List (Str×V)}{f:Str}{v:V}{A:Around}{E:Value->Shared->Prop}
theorem Zi2{b:Bool}{Q:Value->Shared->Prop}(I:Inv X pins σ H s)(e:H a=some (.ins C dx fs))(c:Cls X.K C)(n:NoAttr X.K C f)(l:fs.lookup f=some v)
 (h:∀u s',Inv X pins σ H s'->RelV v u->Q u s'):wpAny (model X.prog X.w) A (getAttr (.ref a) f b) Q E s:=by
 obtain⟨mA,O,r,_,_,_⟩:=ZfM I.hok e
 obtain⟨u,hu,ru⟩:=RelO.some_of (v:=v) (o:=mA f) (by rw[<- l];exact r f)
 exact Znv I.kIn O (c.get f) c.hd n hu (ZjG ru) (h u _ (I.tok _) ru)
theorem Zgs{m:Str}{g:Addr}{pl:Sem Bool}{Q:Value×List Value->Shared->Prop}(I:Inv X pins σ H s)(e:H a=some (.ins C dx fs))(c:Cls X.K C)(k:Meth X.K C m g)(l:fs.lookup m=none)
 (h:Q (.ref g,[.ref a]) s):wpAny (model X.prog X.w) A (getMethod (.ref a) m pl) Q E s:=by
 obtain⟨mA,O,r,_,_,_⟩:=ZfM I.hok e
 have hn:mA m=none:=RelO.none_of (by rw[<- l];exact r m)
 exact ZlC I.kIn O (c.get m) k.at_ k.fn hn h
theorem Zi3{y:V}{u:Value}{Q:Unit->Shared->Prop}(I:Inv X pins σ H s)(e:H a=some (.ins C dx fs))(c:Cls X.K C)(n:NoAttr X.K C f)(hl:fs.length<1000)(ry:RelV y u)
 (h:∀s',Inv X pins σ (upd H a (.ins C dx (putF f y fs))) s'->Q () s'):wpAny (model X.prog X.w) A (setAttr (.ref a) f u) Q E s:=by
 obtain⟨mA,O,r,wi,_,ho⟩:=ZfM I.hok e
 have hz:(fs.map (·.1)).length<=sizeLine:=by rw[List.length_map,sizeLine_eq];omega
 refine Znw I.kIn O c.sa c.po n.taker c.hd wi hz fun h' O' sb=>h _ ?_
 have hd:∃o,h'.get? dx=some o:=let ⟨o,_,_,e',_⟩:=O'.ns;⟨o,e'⟩
 refine I.write (x:=a) (e:=dx) (by rw[e];exact True.intro) (.inr ho) (fun b q hb z=>(sb.2 b hb).trans z) hd ?_
 refine⟨by rw[Zan O.ne];exact ho,?_,O.ne,O'.obj,_,O'.ns,fun g=>?_,fun g hg=>?_⟩
 · have:=ZfL f y fs;omega
 · show RelO ((putF f y fs).lookup g) (if g=f then some u else mA g)
   rw[ZfJ]
   by_cases q:g=f
   · rw[if_pos q,if_pos q];exact ry
   · rw[if_neg q,if_neg q];exact r g
 · by_cases q:g=f
   · rw[q];exact(ZfK f y fs).1
   · refine(ZfK f y fs).2 g (wi g fun z=>hg ?_)
     show(if g=f then some u else mA g)=none
     rw[if_neg q];exact z
theorem Inv.made(I:Inv X pins σ H s):Inv X pins σ (upd (upd H s.heap.objs.size (.own (s.heap.objs.size+1))) (s.heap.objs.size+1) (.ins C s.heap.objs.size []))
 { s with heap:=(s.heap.push PySem.W.emptyDict).push (PySem.W.instObj C s.heap.objs.size) }:=by
 have e1:(s.heap.push PySem.W.emptyDict).get? s.heap.objs.size=some PySem.W.emptyDict:=Heap.get?_push_size s.heap rfl
 have e2:((s.heap.push PySem.W.emptyDict).push (PySem.W.instObj C s.heap.objs.size)).get? (s.heap.objs.size+1)=some (PySem.W.instObj C s.heap.objs.size):=by
  have:=Heap.get?_push_size (s.heap.push PySem.W.emptyDict) (o:=PySem.W.instObj C s.heap.objs.size) rfl
  rwa [Heap.size_push] at this
 have e3:(s.heap.push PySem.W.emptyDict).Ns s.heap.objs.size (fun _=>none):=⟨PySem.W.emptyDict,#[],_,e1,rfl,(fun e he=>absurd he (by simp)),fun _=>rfl⟩
 have I1:=I.laid (a:=s.heap.objs.size) (o:=.own (s.heap.objs.size+1)) (h':=s.heap.push PySem.W.emptyDict) (t':=s.toks) (fun b u q=>Heap.get?_push_of_some _ q) (Nat.le_refl _) ⟨_,e1⟩
 refine I1.laid (a:=s.heap.objs.size+1) (o:=.ins C s.heap.objs.size []) (t':=s.toks) (fun b u q=>Heap.get?_push_of_some _ q) (Nat.le_of_eq (Heap.size_push _ _)) ?_
 have ne:s.heap.objs.size≠s.heap.objs.size+1:=Nat.ne_of_lt (Nat.lt_succ_self _)
 refine⟨by rw[Zan ne,ZaA],Nat.zero_le _,ne,e2,fun _=>none,(Heap.Ns1.of_empty e3).at fun o q=>Heap.get?_push_of_some _ q,fun _=>True.intro,fun y hy=>absurd rfl hy⟩
theorem Znx{prog:Program}{w:World}{env:Env}{e:Expr}{f:Str}{pos:Pos}{s:Shared}{Q:Value->Shared->Prop}(hb:attributeBase e f env (eval e env)=eval e env)
 (h:wpAny (model prog w) A (eval e env) (fun o s₁=>wpAny (model prog w) A (getAttr o f true) Q E s₁) E s):wpAny (model prog w) A (eval (.Attribute e f pos) env) Q E s:=
 Attribute_any_ h (by rw[arm_eval_Attribute,hb])
end
def tFld(K:PySem.W.Frag)(ta:TE)(f:Str):TE:=fun σ H Q=>ta σ H fun x H1=>∃a C dx fs v,x=.ref a/\H1 a=some (.ins C dx fs)/\Cls K C/\NoAttr K C f/\fs.lookup f=some v/\Q v H1
def sFld(K:PySem.W.Frag)(ta tv:TE)(f:Str):TS:=fun D σ H=>tv σ H fun y H1=>ta σ H1 fun x H2=>∃a C dx fs,x=.ref a/\H2 a=some (.ins C dx fs)/\Cls K C/\NoAttr K C f/\fs.length<1000 /\
 D.nx σ (upd H2 a (.ins C dx (putF f y fs)))
section
variable{X:Cx}{o e value:Expr}{f:Str}{pos pos' tpos:Pos}{ta tv:TE}
theorem Zpd(he:PE X e ta)(hb:attributeBase e f X.env (eval e X.env)=eval e X.env):PE X (.Attribute e f pos) (tFld X.K ta f):=by
 intro pins s σ H Q I h
 refine Znx hb (thn (he pins s σ H _ I h) fun u s1 ⟨x,H1,I1,rx,a,C,dx,fs,v,ex,ea,c,n,l,q⟩=>?_)
 subst ex
 obtain rfl:u=Value.ref a:=rx
 exact Zi2 I1 ea c n l fun u' s2 I2 ru=>⟨v,H1,I2,ru,q⟩
theorem Zpe(ha:PE X o ta)(hv:PE X value tv)(hs:swapsWith value (some (.Attribute o f pos')) pos.line X.env=pure false):PS X (.Assign [.Attribute o f pos'] value pos) (sFld X.K ta tv f):=by
 intro pins s σ H D I h
 refine plainObj_wpAny_Assign_Attribute (thn (hv pins s σ H _ I h) fun u s1 ⟨y,H1,I1,ry,q⟩=>thn (ha pins s1 σ H1 _ I1 q) fun ov s2 ⟨x,H2,I2,rx,a,C,dx,fs,ex,ea,c,n,l,q2⟩=>?_) hs
 subst ex
 obtain rfl:ov=Value.ref a:=rx
 exact Zi3 I2 ea c n l ry fun s3 I3=>⟨σ,_,I3,q2⟩
end
section
variable{X:Cx}{pins:List (Addr×Obj)}{σ:St}{H:Hp}{s:Shared}{A:Around}{E:Value->Shared->Prop}{Q:Value->Shared->Prop}{c:Value}{b:Bool}
inductive TyOf(K:PySem.W.Frag)(H:Hp):V->Value->Prop where
 | non:TyOf K H .non (.type "NoneType")
 | bl (x:Bool):TyOf K H (.bl x) (.type "bool")
 | int (i:Int):TyOf K H (.int i) (.type "int")
 | str (x:Str):TyOf K H (.str x) (.type "str")
 | flt (x:UInt64):TyOf K H (.flt x) (.type "float")
 | lst {a:Addr}{xs:List V} (e:H a=some (.lst xs)):TyOf K H (.ref a) (.type "list")
 | frz {a:Addr}{o:Obj}{xs:List V} (e:H a=some (.frz o (.lst xs))):TyOf K H (.ref a) (.type "list")
 | tup {a:Addr}{xs:List V} (e:H a=some (.tup xs)):TyOf K H (.ref a) (.type "tuple")
 | dK {a:Addr}{kvs:List (Key×V)} (e:H a=some (.dK kvs)):TyOf K H (.ref a) (.type "dict")
 | dT {a:Addr}{kvs:List (List Key×V)} (e:H a=some (.dT kvs)):TyOf K H (.ref a) (.type "dict")
 | ins {a C dx:Addr}{fs:List (Str×V)} (e:H a=some (.ins C dx fs)) (cl:Cls K C) (ha:PySem.W.findIn K (.ref C) "__class__"=some (some (.builtin "object.__class__")))
  (hn:PySem.W.specialIn K (.builtin "object.__class__") "__get__"=some (some (.builtin "getset_descriptor.__get__"))) (htk:PySem.W.takesIn K (.builtin "object.__class__")=some true)
  (hm:PySem.W.mroIn K C (.type "object")=some true):TyOf K H (.ref a) (.ref C)
theorem ZjH{x:V}{u t:Value}(I:Inv X pins σ H s)(rx:RelV x u)(ty:TyOf X.K H x t)(e:PySem.W.kitOne X.K t c=some b)(h:∀tk,Q (.bool b) { s with toks:=tk }) :
 wpAny (model X.prog X.w) A (call (.builtin "isinstance") [u,c]) Q E s:=by
 cases ty with
 | non=>cases(show u=Value.none from rx);exact PySem.W.kia_one PySem.W.kitx_none I.kIn True.intro e (fun z=>nomatch z) h
 | bl y=>cases(show u=Value.bool y from rx);exact PySem.W.kia_one PySem.W.kitx_bool I.kIn True.intro e (fun z=>nomatch z) h
 | int i=>obtain⟨t,q⟩:=(show ∃t,u=Value.int i t from rx);cases q;exact PySem.W.kia_one PySem.W.kitx_int I.kIn True.intro e (fun z=>nomatch z) h
 | str y=>obtain⟨t,q⟩:=(show ∃t,u=Value.str y t from rx);cases q;exact PySem.W.kia_one PySem.W.kitx_str I.kIn True.intro e (fun z=>nomatch z) h
 | flt y=>obtain⟨t,q⟩:=(show ∃t,u=Value.float y t from rx);cases q;exact PySem.W.kia_one PySem.W.kitx_float I.kIn True.intro e (fun z=>nomatch z) h
 | @lst a xs ea=>
  cases(show u=Value.ref a from rx)
  obtain⟨_,_,n,_,h1⟩:=(show ObjOk X.prog X.w H s.heap a (.lst xs) from I.hok a _ ea)
  exact PySem.W.kia_one PySem.W.kitx_list I.kIn ⟨_,h1,rfl⟩ e (fun z=>nomatch z) h
 | @frz a ob xs ea=>
  cases(show u=Value.ref a from rx)
  obtain⟨_,_,_,n,_,h1⟩:=(show ObjOk X.prog X.w H s.heap a (.frz ob (.lst xs)) from I.hok a _ ea)
  exact PySem.W.kia_one PySem.W.kitx_list I.kIn ⟨_,h1,rfl⟩ e (fun z=>nomatch z) h
 | @tup a xs ea=>
  cases(show u=Value.ref a from rx)
  obtain⟨_,_,_,p⟩:=(show ObjOk X.prog X.w H s.heap a (.tup xs) from I.hok a _ ea)
  obtain⟨o,h1,h2,_⟩:=p
  exact PySem.W.kia_one PySem.W.kitx_tuple I.kIn ⟨o,h1,h2⟩ e (fun z=>nomatch z) h
 | @dK a kvs ea=>
  cases(show u=Value.ref a from rx)
  obtain⟨_,_,vs,_,p⟩:=(show ObjOk X.prog X.w H s.heap a (.dK kvs) from I.hok a _ ea)
  obtain⟨o,es,ep,h1,h2,_⟩:=p
  exact PySem.W.kia_one PySem.W.kitx_dict I.kIn ⟨o,h1,h2.1⟩ e (fun z=>nomatch z) h
 | @dT a kvs ea=>
  cases(show u=Value.ref a from rx)
  obtain⟨_,_,xs,_,o,es,ep,h1,h2,_⟩:=(show ObjOk X.prog X.w H s.heap a (.dT kvs) from I.hok a _ ea)
  exact PySem.W.kia_one PySem.W.kitx_dict I.kIn ⟨o,h1,h2.1⟩ e (fun z=>nomatch z) h
 | @ins a C dx fs ea cl ha hn htk hm=>
  cases(show u=Value.ref a from rx)
  obtain⟨mA,O,_⟩:=ZfM I.hok ea
  obtain⟨od,J,_⟩:=O.look
  exact PySem.W.kia_one (PySem.W.kitx_own (cl.get _) cl.hd ha hn htk hm) I.kIn J e (fun z=>nomatch z) h
end
end L2
namespace L2
open PySem PySem.Spec PyProof.Rows
structure Room(k:Nat)(A:Around):Prop where
 hd:A.handled=none
 dp:A.depth+3*k+5<recursionLimit
 un:A.units+16*k+200<cLine
theorem Room.mono{j k:Nat}{A:Around}(r:Room k A)(h:j<=k):Room j A:=⟨r.hd,by have:=r.dp;omega,by have:=r.un;omega⟩
theorem Room.deeper{k:Nat}{A:Around}(r:Room (k+1) A)(env:Env):Room k (A.deeper env):=
 ⟨r.hd,by have:=r.dp;show A.depth+1+3*k+5<_;omega,by have:=r.un;show A.units+3+16*k+200<_;omega⟩
theorem Zi4{A:Around}{C:Addr}{us:List Value}{kw:List (Str×Value)}:(A.under (.builtin "type.__call__" ⟨.ref C :: us,kw⟩)).depth=A.depth+1:=by
 first | rfl | simp[Around.under,Code.weight,Code.isCreation,Code.isGuard,Code.isCaller,Code.frames,Code.isFrame,guardIds]
theorem Zi5{A:Around}{C:Addr}{us:List Value}{kw:List (Str×Value)}:(A.under (.builtin "type.__call__" ⟨.ref C :: us,kw⟩)).units=A.units+1:=by
 first | rfl | simp[Around.under,Code.cUnits,Code.frames,Code.isFrame]
theorem Room.make{k:Nat}{A:Around}(r:Room (k+1) A)(C:Addr)(us:List Value)(kw:List (Str×Value)):Room k (A.under (.builtin "type.__call__" ⟨.ref C :: us,kw⟩)):=
 ⟨r.hd,by have:=r.dp;rw[Zi4];omega,by have:=r.un;rw[Zi5];omega⟩
theorem Room.depth{k:Nat}{A:Around}(r:Room k A):A.depth<recursionLimit:=by have:=r.dp;omega
theorem Room.units{k:Nat}{A:Around}(r:Room k A):A.units+64<cLine:=by have:=r.un;omega
def tNil:TA:=fun _ H Q=>Q [] H
def Zc8(ta:TE)(tr:TA):TA:=fun σ H Q=>ta σ H fun x H1=>tr σ H1 fun xs H2=>Q (x :: xs) H2
section
variable{X:Cx}{e:Expr}{es:List Expr}{te:TE}{t:TA}{pos:Pos}
theorem Zae:PA X [] tNil:=fun _ _ _ _ H Q I h=>Calls.spliced_nil ⟨[],H,I,.nil,h⟩
theorem Zaa(ha:PE X e te)(hr:PA X es t)(hs:starEach (e :: es) X.env=(false,eval e X.env) :: starEach es X.env:=by rfl):PA X (e :: es) (Zc8 te t):=by
 intro pos pins s σ H Q I h
 rw[hs]
 show wpAny _ _ (spliced ((false,eval e X.env) :: backTo pos (starEach es X.env))) _ _ s
 refine Calls.spliced_cons (thn (ha pins s σ H _ I h) fun u s1 ⟨x,H1,I1,r1,q1⟩=>?_)
 exact thn (hr pos pins s1 σ H1 _ I1 q1) fun us s2 ⟨xs,H2,I2,r2,q2⟩=>⟨x :: xs,H2,I2,.cons r1 r2,q2⟩
def tTup(t:TA):TE:=fun σ H Q=>t σ H fun xs H1=>xs.length<=sizeLine /\ ∀p,H1 p=none->Q (.ref p) (upd H1 p (.tup xs))
def tLst(t:TA):TE:=fun σ H Q=>t σ H fun xs H1=>xs.length<=sizeLine /\ ∀p,H1 p=none->Q (.ref p) (upd H1 p (.lst xs))
theorem Zgt{x1}(h:PA X es t):PE X (.Tuple es x1 pos) (tTup t):=by
 intro pins s σ H Q I hq
 refine wpAny_Tuple_spliced (thn (h pos pins s σ H _ I hq) fun us s1 ⟨xs,H1,I1,r,z,q⟩=>⟨by rw[<- r.length];exact z,?_⟩)
 have hf:H1 s1.heap.objs.size=none:=I1.hok.fresh (Nat.le_refl _)
 refine⟨.ref s1.heap.objs.size,upd H1 s1.heap.objs.size (.tup xs),I1.laid (t':=s1.toks) (fun b u e=>Heap.get?_push_of_some _ e) (Nat.le_refl _) ?_,rfl,q _ hf⟩
 exact⟨z,us,r,⟨_,Heap.get?_push_size _ rfl,rfl,_,rfl⟩⟩
theorem Zbj(h:PA X es t):PE X (.List es pos) (tLst t):=by
 intro pins s σ H Q I hq
 refine wpAny_List_spliced (thn (h pos pins s σ H _ I hq) fun us s1 ⟨xs,H1,I1,r,z,q⟩=>⟨by rw[<- r.length];exact z,?_⟩)
 have hf:H1 s1.heap.objs.size=none:=I1.hok.fresh (Nat.le_refl _)
 refine⟨.ref s1.heap.objs.size,upd H1 s1.heap.objs.size (.lst xs),I1.laid (t':=s1.toks) (fun b u e=>Heap.get?_push_of_some _ e) (Nat.le_refl _) ?_,rfl,q _ hf⟩
 exact⟨z,us,0,r,Heap.get?_push_size _ rfl⟩
end
abbrev Sp:=List V->Hp->VK->XK->Prop
abbrev CXT:=List Env->Hp->Shared->XK->Value->Shared->Prop
structure Env0(P:Program)(w:World)(K:PySem.W.Frag)(mg:Str->Option Value)(base:Heap)(A:Around)(outer:List Env)(s:Shared)(H:Hp):Prop where
 frames:A.frames=some outer
 mod:Mod K mg base
 bs:∀b o,base.get? b=some o->s.heap.get? b=some o/\H b=none
 bsz:base.objs.size<=s.heap.objs.size
 funs:s.heap.FunFrames base outer
 frf:∀b∈frs outer,H b=none
 hok:HOk P w H s.heap
 bare:AllBare s.gens
def CE(outer:List Env)(P:Program)(w:World)(H:Hp)(s:Shared)(Q:VK)(u:Value)(s':Shared):Prop:=
 ∃v H',s'.os=s.os/\AllBare s'.gens/\Un (frs outer) [] H H' s.heap s'.heap/\HOk P w H' s'.heap/\RelV v u/\Q v H'
def CR(CX:CXT)(outer:List Env)(P:Program)(w:World)(H:Hp)(s:Shared)(Q:VK)(E:XK)(r:Result)(s':Shared):Prop:=
 match r with
 | .ok (.ret u)=>CE outer P w H s Q u s'
 | .ok _=>False
 | .error e=>CX outer H s E e s'
structure FnOk(P:Program)(w:World)(K:PySem.W.Frag)(mg:Str->Option Value)(base:Heap)(CX:CXT)(k:Nat)(f:Addr)(fd:FuncData)(ps:List Str)(sp:Sp):Prop where
 len:∀vs H Q E,sp vs H Q E->vs.length=ps.length
 run:∀(A:Around) (outer:List Env) (s:Shared) (H:Hp) (args:Args) (us:List Value) (vs:List V) (Q:VK) (E:XK),Room k A->Env0 P w K mg base A outer s H->BindsTo s fd args (ps.zip us)->Vals vs us->sp vs H Q E ->
  codeAny (model P w) A (.call (.ref f) args) (CR CX outer P w H s Q E) s
theorem FnOk.imp{P:Program}{w:World}{K:PySem.W.Frag}{mg:Str->Option Value}{base:Heap}{CX:CXT}{k:Nat}{f:Addr}{fd:FuncData}{ps:List Str}{sp sp':Sp}(F:FnOk P w K mg base CX k f fd ps sp)
 (h:∀vs H Q E,sp' vs H Q E->sp vs H Q E):FnOk P w K mg base CX k f fd ps sp':=
 ⟨fun vs H Q E q=>F.len vs H Q E (h _ _ _ _ q),fun A outer s H args us vs Q E hr he hb hv hs=>F.run A outer s H args us vs Q E hr he hb hv (h _ _ _ _ hs)⟩
theorem Env0.make{P:Program}{w:World}{K:PySem.W.Frag}{mg:Str->Option Value}{base:Heap}{A:Around}{outer:List Env}{s:Shared}{H:Hp}(e:Env0 P w K mg base A outer s H)(C:Addr)(us:List Value)(kw:List (Str×Value)) :
 Env0 P w K mg base (A.under (.builtin "type.__call__" ⟨.ref C :: us,kw⟩)) outer s H:=⟨by first | exact e.frames | (simpa[Around.under,Code.envs,Code.isFrame,pushEnvs] using e.frames),e.mod,e.bs,e.bsz,e.funs,e.frf,e.hok,e.bare⟩
section
variable{X:Cx}{pins:List (Addr×Obj)}{σ:St}{H:Hp}{s s':Shared}
theorem Inv.env0(I:Inv X pins σ H s):Env0 X.prog X.w X.K X.mg X.base X.A X.stack s H:=
 ⟨I.ok.frames,I.ok.mod,I.bs,Nat.le_trans I.ok.bsz I.sz,I.stack,I.stkFree,I.hok,I.bare⟩
theorem Inv.after{Q:VK}{u:Value}(I:Inv X pins σ H s)(h:CE X.stack X.prog X.w H s Q u s'):EP X pins σ Q u s':=by
 obtain⟨v,H',os,bare,un,hok,r,q⟩:=h
 obtain⟨hh,g,d,t,os'⟩:=s'
 obtain rfl:os'=s.os:=os
 exact⟨v,H',I.call (h':=hh) (g':=g) (d':=d) (t':=t) (ch:=[]) un hok bare (fun b z=>absurd z (by simp)),r,q⟩
end
def ZjI(sp:Sp)(dvs:List V)(E:XK)(t:TA):TE:=fun σ H Q=>t σ H fun vs H1=>sp (vs++dvs) H1 Q E
def ZjJ(C:Addr)(m:Str)(sp:Sp)(dvs:List V)(E:XK)(ta:TE)(t:TA):TE:=fun σ H Q=>ta σ H fun x H1=>∃a dx fs,x=.ref a/\H1 a=some (.ins C dx fs)/\fs.lookup m=none /\
 t σ H1 fun vs H2=>sp (x :: (vs++dvs)) H2 Q E
def ZjK(C:Addr)(sp:Sp)(dvs:List V)(E:XK)(t:TA):TE:=fun σ H Q=>t σ H fun vs H1=>∀x dx,H1 x=none->H1 dx=none->dx≠x ->
 sp (.ref x :: (vs++dvs)) (upd (upd H1 dx (.own x)) x (.ins C dx [])) (fun v H2=>v=.non/\Q (.ref x) H2) E
def Binds(K:PySem.W.Frag)(fd:FuncData)(ps:List Str)(ds:List Value):Prop:=
 ∀(s:Shared) (us:List Value),K.In s.heap->(us++ds).length=ps.length->BindsTo s fd ⟨us,[]⟩ (ps.zip (us++ds))
theorem Binds.all{K:PySem.W.Frag}{fd:FuncData}{ps:List Str}(h:∀us:List Value,us.length=ps.length->bindArgs fd ⟨us,[]⟩=pure (ps.zip us)):Binds K fd ps []:=fun s us _ hl=>by
 rw[List.append_nil] at hl ⊢
 exact .of_eq (h us hl)
def ZcM(CX:CXT)(X:Cx)(E:XK):Prop:=∀(pins:List (Addr×Obj)) (σ:St) (H:Hp) (s:Shared) (e:Value) (s':Shared),Inv X pins σ H s->CX X.stack H s E e s'->X.xe e s'
section
variable{X:Cx}{CX:CXT}{k:Nat}{f C:Addr}{fd:FuncData}{ps:List Str}{sp:Sp}{dvs:List V}{ds:List Value}{E:XK}{x m:Str}{p pos apos:Pos}{e o:Expr}{es:List Expr}{ta:TE}{t:TA}
theorem Zis{pins:List (Addr×Obj)}{σ:St}{H:Hp}{s:Shared}{Q:VK}{us:List Value}{vs:List V}(F:FnOk X.prog X.w X.K X.mg X.base CX k f fd ps sp)(hr:Room k X.A)(hb:Binds X.K fd ps ds)(hd:Vals dvs ds)(hx:ZcM CX X E)
 (I:Inv X pins σ H s) (r:Vals vs us) (h:sp (vs++dvs) H Q E):wpAny (model X.prog X.w) X.A (call (.ref f) us) (EP X pins σ Q) X.xe s:=by
 have r2:Vals (vs++dvs) (us++ds):=r.append hd
 have hl:(us++ds).length=ps.length:=by rw[<- r2.length];exact F.len _ _ _ _ h
 refine wpAny_call (codeAny_mono (F.run X.A X.stack s H ⟨us,[]⟩ (us++ds) (vs++dvs) Q E hr I.env0 (hb s us I.kIn hl) r2 h) fun r s' hq=>?_)
 cases r with
 | error e=>exact hx pins σ H s e s' I hq
 | ok fl=>
  cases fl with
  | ret u=>exact I.after hq
  | next=>exact False.elim hq
  | brk=>exact False.elim hq
  | cont=>exact False.elim hq
theorem Zny(F:FnOk X.prog X.w X.K X.mg X.base CX k f fd ps sp)(hr:Room k X.A)(hg:Gl X x)(hm:X.mg x=some (.ref f))(hk:PySem.W.keepIn X.K (.ref f)=true)(hb:Binds X.K fd ps ds)(hd:Vals dvs ds)(hx:ZcM CX X E)
 (ha:PA X (e :: es) t) (hdb:(x == ("__debug__":Str))=false:=by decide) (he:starEach (e :: es) X.env=(false,eval e X.env) :: starEach es X.env:=by rfl) (hpl:(backTo pos (starEach es X.env)).any (·.1)=false:=by rfl) :
 PE X (.Call (.Name x p) (e :: es) [] pos) (ZjI sp dvs E t):=by
 intro pins s σ H Q I h
 refine wpAny_Call_Name_kw (ZeT I hg hm ?_ hdb)
 refine PySem.W.callWith_K (h₀:=X.base) I.ok.mod.kin hk (thn (ha pos pins s σ H _ I h) fun us s1 ⟨vs,H1,I1,r,q⟩=>⟨I1.kIn,?_⟩) he hpl
 exact Zis F hr hb hd hx I1 r q
theorem ZlE(F:FnOk X.prog X.w X.K X.mg X.base CX k f fd ps sp)(hr:Room k X.A)(hg:Gl X x)(hm:X.mg x=some (.ref f))(hk:PySem.W.keepIn X.K (.ref f)=true)(hb:Binds X.K fd ps ds)(hd:Vals dvs ds)(hx:ZcM CX X E)
 (hdb:(x == ("__debug__":Str))=false:=by decide):PE X (.Call (.Name x p) [] [] pos) (ZjI sp dvs E tNil):=by
 intro pins s σ H Q I h
 refine wpAny_Call_Name_kw (ZeT I hg hm ?_ hdb)
 exact PySem.W.callWith_K0 I.kIn hk (Zis (us:=[]) F hr hb hd hx I .nil h)
theorem Znz{pl:Sem Bool}(he:PE X o ta)(c:Cls X.K C)(hm:Meth X.K C m f)(F:FnOk X.prog X.w X.K X.mg X.base CX k f fd ps sp)(hr:Room k X.A)(hb:Binds X.K fd ps ds)(hd:Vals dvs ds)(hx:ZcM CX X E)(ha:PA X (e :: es) t)
 (hst:starEach (e :: es) X.env=(false,eval e X.env) :: starEach es X.env:=by rfl) (hpl:(backTo pos (starEach es X.env)).any (·.1)=false:=by rfl)
 (ht:eval (.Call (.Attribute o m apos) (e :: es) [] pos) X.env=(do
   let ov <- eval o X.env
   standAt apos.atName
   let (f,first) <- holding [ov] (getMethod ov m pl)
   callWith pos f first (backTo pos (starEach (e :: es) X.env)) (backToKw pos (keywordEach [] X.env))):=by rfl) :
 PE X (.Call (.Attribute o m apos) (e :: es) [] pos) (ZjJ C m sp dvs E ta t):=by
 intro pins s σ H Q I h
 refine PySem.W.methodCall_KW (pl:=pl) (thn (he pins s σ H _ I h) fun u s1 ⟨x,H1,I1,rx,a,dx,fs,ex,ea,l,q⟩=>?_) ht
 subst ex
 obtain rfl:u=Value.ref a:=rx
 refine Zgs I1 ea c hm l ?_
 refine PySem.W.callWith_K (first:=[.ref a]) (h₀:=X.base) I.ok.mod.kin hm.kp (thn (ha pos pins s1 σ H1 _ I1 q) fun us s2 ⟨vs,H2,I2,r,q2⟩=>⟨I2.kIn,?_⟩) hst hpl
 exact Zis (us:=.ref a :: us) (vs:=.ref a :: vs) F hr hb hd hx I2 (.cons rfl r) q2
theorem ZlF{pl:Sem Bool}(he:PE X o ta)(c:Cls X.K C)(hm:Meth X.K C m f)(F:FnOk X.prog X.w X.K X.mg X.base CX k f fd ps sp)(hr:Room k X.A)(hb:Binds X.K fd ps ds)(hd:Vals dvs ds)(hx:ZcM CX X E)
 (ht:eval (.Call (.Attribute o m apos) [] [] pos) X.env=(do
   let ov <- eval o X.env
   standAt apos.atName
   let (f,first) <- holding [ov] (getMethod ov m pl)
   callWith pos f first (backTo pos (starEach [] X.env)) (backToKw pos (keywordEach [] X.env))):=by rfl) :
 PE X (.Call (.Attribute o m apos) [] [] pos) (ZjJ C m sp dvs E ta tNil):=by
 intro pins s σ H Q I h
 refine PySem.W.methodCall_KW (pl:=pl) (thn (he pins s σ H _ I h) fun u s1 ⟨x,H1,I1,rx,a,dx,fs,ex,ea,l,q⟩=>?_) ht
 subst ex
 obtain rfl:u=Value.ref a:=rx
 refine Zgs I1 ea c hm l ?_
 exact PySem.W.callWith_K0 (first:=[.ref a]) I1.kIn hm.kp (Zis (us:=[.ref a]) (vs:=[.ref a]) F hr hb hd hx I1 (.cons rfl .nil) q)
structure Mk(K:PySem.W.Frag)(C f:Addr):Prop where
 makes:PySem.W.makesIn K C=true
 init:PySem.W.findIn K (.ref C) "__init__"=some (some (.ref f))
 fn:PySem.W.isFn K (.ref f)=true
 kp:PySem.W.keepIn K (.ref C)=true
theorem Zit{pins:List (Addr×Obj)}{σ:St}{H:Hp}{s:Shared}{Q:VK}{us:List Value}{vs:List V}(M:Mk X.K C f)(F:FnOk X.prog X.w X.K X.mg X.base CX k f fd ps sp)(hr:Room (k+1) X.A)(hb:Binds X.K fd ps ds)(hd:Vals dvs ds)
 (hx:ZcM CX X E) (I:Inv X pins σ H s) (r:Vals vs us)
 (h:∀x dx,H x=none->H dx=none->dx≠x->sp (.ref x :: (vs++dvs)) (upd (upd H dx (.own x)) x (.ins C dx [])) (fun v H2=>v=.non/\Q (.ref x) H2) E) :
 wpAny (model X.prog X.w) X.A (call (.ref C) us) (EP X pins σ Q) X.xe s:=by
 have hq:=h (s.heap.objs.size+1) s.heap.objs.size (I.hok.fresh (Nat.le_succ _)) (I.hok.fresh (Nat.le_refl _)) (Nat.ne_of_lt (Nat.lt_succ_self _))
 have I2:=Inv.made (C:=C) I
 have r2:Vals (V.ref (s.heap.objs.size+1) :: (vs++dvs)) (Value.ref (s.heap.objs.size+1) :: (us++ds)):=.cons rfl (r.append hd)
 have hl:(Value.ref (s.heap.objs.size+1) :: us++ds).length=ps.length:=by
  have e:=r2.length
  rw[F.len _ _ _ _ hq] at e
  exact e.symm
 refine wpAny_call (ZlD (f:=f) I.kIn M.makes M.init (beq_iff_eq.mp M.fn) (codeAny_mono (F.run _ X.stack _ _ ⟨Value.ref (s.heap.objs.size+1) :: us,[]⟩ (Value.ref (s.heap.objs.size+1) :: (us++ds)) _ _ E (hr.make C us [])
  (I2.env0.make C us []) (hb _ (Value.ref (s.heap.objs.size+1) :: us) I2.kIn hl) r2 hq) fun r s' hq'=>?_))
 cases r with
 | error e=>exact hx pins σ _ _ e s' I2 hq'
 | ok fl=>
  cases fl with
  | ret u=>
   obtain⟨v,H',I3,rv,ev,q3⟩:=I2.after hq'
   subst ev
   exact⟨rv,⟨V.ref (s.heap.objs.size+1),H',I3,rfl,q3⟩⟩
  | next=>exact False.elim hq'
  | brk=>exact False.elim hq'
  | cont=>exact False.elim hq'
theorem ZnA(M:Mk X.K C f)(F:FnOk X.prog X.w X.K X.mg X.base CX k f fd ps sp)(hr:Room (k+1) X.A)(hg:Gl X x)(hm:X.mg x=some (.ref C))(hb:Binds X.K fd ps ds)(hd:Vals dvs ds)(hx:ZcM CX X E)
 (ha:PA X (e :: es) t) (hdb:(x == ("__debug__":Str))=false:=by decide) (he:starEach (e :: es) X.env=(false,eval e X.env) :: starEach es X.env:=by rfl) (hpl:(backTo pos (starEach es X.env)).any (·.1)=false:=by rfl) :
 PE X (.Call (.Name x p) (e :: es) [] pos) (ZjK C sp dvs E t):=by
 intro pins s σ H Q I h
 refine wpAny_Call_Name_kw (ZeT I hg hm ?_ hdb)
 refine PySem.W.callWith_K (h₀:=X.base) I.ok.mod.kin M.kp (thn (ha pos pins s σ H _ I h) fun us s1 ⟨vs,H1,I1,r,q⟩=>⟨I1.kIn,?_⟩) he hpl
 exact Zit M F hr hb hd hx I1 r q
theorem ZlG(M:Mk X.K C f)(F:FnOk X.prog X.w X.K X.mg X.base CX k f fd ps sp)(hr:Room (k+1) X.A)(hg:Gl X x)(hm:X.mg x=some (.ref C))(hb:Binds X.K fd ps ds)(hd:Vals dvs ds)(hx:ZcM CX X E)
 (hdb:(x == ("__debug__":Str))=false:=by decide):PE X (.Call (.Name x p) [] [] pos) (ZjK C sp dvs E tNil):=by
 intro pins s σ H Q I h
 refine wpAny_Call_Name_kw (ZeT I hg hm ?_ hdb)
 exact PySem.W.callWith_K0 I.kIn M.kp (Zit (us:=[]) M F hr hb hd hx I .nil h)
end
section
variable{X:Cx}{CX:CXT}{k:Nat}{f C:Addr}{fd:FuncData}{ps ks:List Str}{sp:Sp}{E:XK}{x m:Str}{p pos apos kpos:Pos}{e o:Expr}{es:List Expr}{kws:List Keyword}{te ta:TE}{t tk:TA}{nm:Option Str}
structure KBinds(K:PySem.W.Frag)(fd:FuncData)(ps ks:List Str)(g:List Value->List Value->List Value)(gV:List V->List V->List V):Prop where
 to:∀(s:Shared) (us ws:List Value),K.In s.heap->(g us ws).length=ps.length->BindsTo s fd ⟨us,ks.zip ws⟩ (ps.zip (g us ws))
 rel:∀{vs:List V}{us:List Value}{zs:List V}{ws:List Value},Vals vs us->Vals zs ws->Vals (gV vs zs) (g us ws)
variable{g:List Value->List Value->List Value}{gV:List V->List V->List V}
end
structure FnScope(N P:List Str)(sc:Scope):Prop where
 kind:sc.kind=.function
 co:sc.isCoroutine=false
 gen:sc.isGenerator=false
 nd:N.Nodup
 pre:N.take P.length=P
 par:∀x∈P,sc.names.lookup x=some .local\/sc.names.lookup x=some .cell
 nofree:∀y∈sc.names,y.2≠.free
theorem Zhd{kindOf:Str->Option NameKind}{x:Str}:∀{binds:List (Str×Value)}{m:Str->Option Value},(∀v,(x,v)∉binds)->bindL kindOf binds m x=m x
 | [],_,_=>rfl
 | (n,v) :: r,m,h=>by
  unfold bindL
  rw[Zhd fun w hw=>h w (List.mem_cons_of_mem _ hw)]
  split
  · have:x≠n:=by rintro rfl;exact h v List.mem_cons_self
    simp[this]
  · rfl
theorem Zhe{kindOf:Str->Option NameKind}{x:Str}:∀{binds:List (Str×Value)}{m:Str->Option Value},(∀v,(x,v)∉binds)->bindC kindOf binds m x=m x
 | [],_,_=>rfl
 | (n,v) :: r,m,h=>by
  unfold bindC
  rw[Zhe fun w hw=>h w (List.mem_cons_of_mem _ hw)]
  split
  · rfl
  · have:x≠n:=by rintro rfl;exact h v List.mem_cons_self
    simp[this]
theorem Zhf{kindOf:Str->Option NameKind}{x:Str}{v:Value}:∀{P:List Str}{vs:List Value}{i:Nat}{m:Str->Option Value},P.Nodup->P[i]? = some x->vs[i]? = some v->kindOf x=some .local ->
 bindL kindOf (P.zip vs) m x=some v
 | [],_,_,_,_,h,_,_=>by simp at h
 | _ :: _,[],_,_,_,_,h,_=>by simp at h
 | p :: P,w :: vs,0,m,nd,h1,h2,hk=>by
  simp at h1 h2;subst h1;subst h2
  show bindL kindOf ((p,w) :: P.zip vs) m p=_
  unfold bindL
  rw[Zhd fun v hv=>(List.nodup_cons.mp nd).1 (List.of_mem_zip hv).1,if_pos hk]
  simp
 | p :: P,w :: vs,i+1,m,nd,h1,h2,hk=>by
  show bindL kindOf ((p,w) :: P.zip vs) m x=_
  unfold bindL
  exact Zhf (i:=i) (List.nodup_cons.mp nd).2 (by simpa using h1) (by simpa using h2) hk
theorem Zhg{kindOf:Str->Option NameKind}{x:Str}{v:Value}:∀{P:List Str}{vs:List Value}{i:Nat}{m:Str->Option Value},P.Nodup->P[i]? = some x->vs[i]? = some v->kindOf x≠some .local ->
 bindC kindOf (P.zip vs) m x=some v
 | [],_,_,_,_,h,_,_=>by simp at h
 | _ :: _,[],_,_,_,_,h,_=>by simp at h
 | p :: P,w :: vs,0,m,nd,h1,h2,hk=>by
  simp at h1 h2;subst h1;subst h2
  show bindC kindOf ((p,w) :: P.zip vs) m p=_
  unfold bindC
  rw[Zhe fun v hv=>(List.nodup_cons.mp nd).1 (List.of_mem_zip hv).1,if_neg hk]
  simp
 | p :: P,w :: vs,i+1,m,nd,h1,h2,hk=>by
  show bindC kindOf ((p,w) :: P.zip vs) m x=_
  unfold bindC
  exact Zhg (i:=i) (List.nodup_cons.mp nd).2 (by simpa using h1) (by simpa using h2) hk
def start(N:List Str)(vs:List V):St:=vs.map some++List.replicate (N.length - vs.length) none
def cxOf(CX:CXT)(P:Program)(w:World)(K:PySem.W.Frag)(mg:Str->Option Value)(base:Heap)(N:List Str)(qual:Str)(scope:Scope)(f:Addr)(cd:Value)(A:Around)(outer:List Env)(s:Shared)(H:Hp)(E:XK):Cx where
 prog:=P
 w:=w
 K:=K
 mg:=mg
 base:=base
 A:=A.deeper (envOfC qual scope s.heap.objs.size f cd)
 N:=N
 s₀:=s
 H₀:=H
 env:=envOfC qual scope s.heap.objs.size f cd
 outer:=outer
 stack:=envOfC qual scope s.heap.objs.size f cd :: outer
 ex:=[]
 calm:=true
 fn:=fun _=>true
 pn:=[]
 xe:=fun e s'=>wpAny (model P w) (A.deeper (envOfC qual scope s.heap.objs.size f cd)) (leaving (envOfC qual scope s.heap.objs.size f cd) e) (fun _ s''=>CX outer H s E e s'') (fun e' s''=>CX outer H s E e' s'') s'
theorem Ziu{sc:Scope}{n:Nat}{x:Str}(h:sc.names.lookup x=some .cell):∃c,(cellsFrom n sc.names []).lookup x=some c:=by
 have q:=PySem.W.cellsFrom_some sc.names n [] (.inl h)
 exact Option.isSome_iff_exists.mp q
theorem ZjL{CX:CXT}{P:Program}{w:World}{K:PySem.W.Frag}{mg:Str->Option Value}{base:Heap}{N ps:List Str}{qual:Str}{scope:Scope}{f:Addr}{cd:Value}{A:Around}{outer:List Env}{s s1:Shared}{H:Hp}{E:XK}{us:List Value}{vs:List V}
 (S:FnScope N ps scope) (hd:A.handled=none) (e0:Env0 P w K mg base A outer s H) (hl:vs.length=ps.length) (r:Vals vs us)
 (x:InCallC s s.heap.objs.size (bindL (envOfC qual scope s.heap.objs.size f cd).kindOf (ps.zip us) fun _=>none) (cellsFrom (s.heap.objs.size+1) scope.names []) (bindC (envOfC qual scope s.heap.objs.size f cd).kindOf (ps.zip us) fun _=>none) s1) :
 Inv (cxOf CX P w K mg base N qual scope f cd A outer s H E) [] (start N vs) H s1:=by
 have hpl:ps.length<=N.length:=by have:=congrArg List.length S.pre;rw[List.length_take] at this;omega
 obtain⟨h1,tk,rfl,hk⟩:=x.done
 have noA:∀b:Addr,b∉(cxOf CX P w K mg base N qual scope f cd A outer s H E).ex:=fun b z=>absurd (show b∈([]:List Addr) from z) (by simp)
 refine⟨⟨e0.mod,S.kind,rfl,rfl,Nat.le_refl _,fun y z c h1 h2=>?_,fun y hy=>?_,fun y c _ h=>?_,fun _=>hd,Around.frames_deeper e0.frames,.inr ⟨rfl,rfl⟩,fun b z=>absurd z (noA b),e0.bs,e0.bsz,fun b _ _=>noA b,fun b z=>absurd z (noA b),e0.funs,e0.frf⟩,
  rfl,e0.bare,Un.kept hk,⟨_,x.toInCall.ns,fun i y v h1 h2 h3=>?_⟩,fun y c h=>⟨_,x.cell y c h⟩,e0.hok.fresh (Nat.le_refl _),fun y c h=>?_,fun p hp=>absurd (show p∈([]:List (Addr×Obj)) from hp) (by simp),e0.hok.kept hk,?_⟩
 · exact name_of_addr x.apart (PySem.mem_of_lookup h1) (PySem.mem_of_lookup h2)
 · have hy:scope.names.lookup y=some .cell\/scope.names.lookup y=some .free:=hy
   rcases hy with hy | hy
   · exact Ziu hy
   · exact absurd rfl (S.nofree _ (PySem.mem_of_lookup hy))
 · exact Nat.le_of_lt (x.above y c (PySem.mem_of_lookup h))
 · have hi:i<vs.length:=by
    unfold start at h2
    by_cases hi:i<vs.length
    · exact hi
    · rw[List.getElem?_append_right (by simpa using hi)] at h2
      rw[List.getElem?_replicate] at h2
      split at h2<;>cases h2
   have ha:vs[i]? = some v:=by
    unfold start at h2
    rw[List.getElem?_append_left (by simpa using hi),List.getElem?_map] at h2
    cases e:vs[i]? with
    | none=>rw[e] at h2;cases h2
    | some a=>rw[e] at h2;cases h2;rfl
   obtain⟨u,hu,rv⟩:=r.get ha
   have hp:ps[i]? = some y:=by
    rw[<- S.pre,List.getElem?_take_of_lt (by omega)];exact h1
   have ndP:ps.Nodup:=by rw[<- S.pre];exact S.nd.sublist (List.take_sublist _ _)
   refine⟨u,rv,?_⟩
   rcases S.par y (List.mem_of_getElem? hp) with k | k
   · exact .inl ⟨k,Zhf ndP hp hu k⟩
   · obtain⟨c,e⟩:=Ziu (n:=s.heap.objs.size+1) k
     refine .inr ⟨.inl k,c,e,?_⟩
     have q:=x.cell y c e
     rw[Zhg ndP hp hu (by show scope.names.lookup y≠_;rw[k];decide)] at q
     exact q
 · exact e0.hok.fresh (Nat.le_of_lt (x.above y c (PySem.mem_of_lookup h)))
 · unfold start
   show _=N.length
   rw[List.length_append,List.length_map,List.length_replicate]
   omega
theorem ZnB{CX:CXT}{P:Program}{w:World}{K:PySem.W.Frag}{mg:Str->Option Value}{base:Heap}{k:Nat}{f:Addr}{name qual:Str}{params:Arguments}{body:List Stmt}{scope:Scope}{dV kV doc pm cdv ct oc:Value}{an od:Option Addr}
 {osl:Array (Option Value)}{N ps:List Str}{sp:Sp} (lk:K.lookup f=some ⟨oc,od,.func (PySem.W.fnOf name qual params body scope dV kV doc pm an cdv ct),osl⟩) (hcd:PySem.W.codeIn K cdv qual=true) (S:FnScope N ps scope)
 (len:∀vs H Q E,sp vs H Q E->vs.length=ps.length)
 (hbody:∀(A:Around) (outer:List Env) (s:Shared) (H:Hp) (vs:List V) (Q:VK) (E:XK),Room k (A.deeper (envOfC qual scope s.heap.objs.size f cdv))->sp vs H Q E ->
   ∃t,PSs (cxOf CX P w K mg base N qual scope f cdv A outer s H E) body t/\t { nx:=fun _ H'=>Q .non H',rt:=Q } (start N vs) H) :
 FnOk P w K mg base CX (k+1) f (PySem.W.fnOf name qual params body scope dV kV doc pm an cdv ct) ps sp:=by
 refine⟨len,fun A outer s H args us vs Q E hr e0 hb r hsp=>?_⟩
 have hl:=len _ _ _ _ hsp
 have KX:K.In s.heap:=e0.mod.kin.keeps fun b o e=>(e0.bs b o e).1
 have lim:s.heap.NoLimit:=e0.mod.nolimit.keeps fun b o e=>(e0.bs b o e).1
 have hkind:∀y∈ps.zip us,scope.names.lookup y.1=some .local\/(scope.names.lookup y.1=some .cell/\((cellsFrom (s.heap.objs.size+1) scope.names []).lookup y.1).isSome=true):=fun ⟨n,v⟩ hy=>by
  rcases S.par n (List.of_mem_zip hy).1 with q | q
  · exact .inl q
  · exact .inr ⟨q,PySem.W.cellsFrom_some _ _ _ (.inl q)⟩
 refine codeAny_call_function hr.depth (KX _ _ lk) rfl S.co S.gen rfl (PySem.W.codeRec_of KX hcd) (hb _ _ _ _ ?_)
 refine wpAny_newFunctionEnv_cells S.kind hkind fun env he s1 x=>?_
 subst he
 refine⟨lim.keeps x.toInCall.keep,codeAny_func ?_⟩
 obtain⟨t,ht,hq⟩:=hbody A outer s H vs Q E (hr.deeper _) hsp
 have I:Inv (cxOf CX P w K mg base N qual scope f cdv A outer s H E) [] (start N vs) H s1:=ZjL S hr.hd e0 hl r x
 refine wpAny_mono (ht [] s1 (start N vs) H _ I hq) (fun fl s' hs=>?_) fun e s' hs=>hs
 have fin:∀{σ':St}{H':Hp}{v:V}{u:Value},Inv (cxOf CX P w K mg base N qual scope f cdv A outer s H E) [] σ' H' s'->RelV v u->Q v H'->CE outer P w H s Q u s':=
  fun {σ' H' v u} J rv q=>⟨v,H',J.os,J.bare,J.base,J.hok,rv,q⟩
 cases fl with
 | ret u=>
  obtain⟨v,σ',H',J,rv,q⟩:=hs
  exact fin J rv q
 | next=>
  obtain⟨σ',H',J,q⟩:=hs
  exact fin (v:=V.non) (u:=Value.none) J rfl q
 | brk=>
  obtain⟨_,_,_,q⟩:=hs
  exact False.elim q
 | cont=>
  obtain⟨_,_,_,q⟩:=hs
  exact False.elim q
end L2
namespace L2
open PySem PySem.Spec PyProof.Rows
section
variable{X:Cx}{x:Str}{p pos:Pos}{e:Expr}{es:List Expr}{t:TA}{id T:String}{r:List V->Hp->VK->Prop}
def tCB(r:List V->Hp->VK->Prop)(t:TA):TE:=fun σ H Q=>t σ H fun vs H1=>r vs H1 Q
theorem ZaB(hc:ZcD X (.builtin id) r)(hg:Gl X x)(hm:X.mg x=none)(hv:bootBuiltins x=some (.builtin id))(ha:PA X (e :: es) t)(hn:x≠"__name__":=by decide)(hdb:(x == ("__debug__":Str))=false:=by decide)
 (he:starEach (e :: es) X.env=(false,eval e X.env) :: starEach es X.env:=by rfl) (hpl:(backTo pos (starEach es X.env)).any (·.1)=false:=by rfl):PE X (.Call (.Name x p) (e :: es) [] pos) (tCB r t):=by
 intro pins s σ H Q I h
 refine wpAny_Call_Name_kw (Zgq I hg hm hv ?_ hn hdb)
 exact PyProof.Rows.callWith_builtin1 (thn (ha pos pins s σ H _ I h) fun us s1 ⟨vs,H1,I1,r1,q1⟩=>hc pins s1 σ H1 vs us Q I1 r1 q1) he hpl
theorem Zbc(hc:ZcD X (.type T) r)(hg:Gl X x)(hm:X.mg x=none)(hv:bootBuiltins x=some (.type T))(ha:PA X (e :: es) t)(hn:x≠"__name__":=by decide)(hdb:(x == ("__debug__":Str))=false:=by decide)
 (he:starEach (e :: es) X.env=(false,eval e X.env) :: starEach es X.env:=by rfl) (hpl:(backTo pos (starEach es X.env)).any (·.1)=false:=by rfl):PE X (.Call (.Name x p) (e :: es) [] pos) (tCB r t):=by
 intro pins s σ H Q I h
 refine wpAny_Call_Name_kw (Zgq I hg hm hv ?_ hn hdb)
 exact PyProof.Rows.callWith_type1 (thn (ha pos pins s σ H _ I h) fun us s1 ⟨vs,H1,I1,r1,q1⟩=>hc pins s1 σ H1 vs us Q I1 r1 q1) he hpl
end
end L2
namespace HT
open PySem PyProof.Rows
section
open PySem.SeqAt
open PySem.AutoSeq1 (wpAny_loadPart')
open PySem.MeetsSeq PySem.MeetsSeq2 PySem.MeetsSeq3
end
section
variable{prog:Program}{w:World}{A:Around}{E:Value->Shared->Prop}{s:Shared}
def sIx(n d:Nat):Option Int->Nat
 | none=>d
 | some v=>if v<0 then(v+(n:Int)).toNat else min v.toNat n
theorem sIx_none(n d:Nat):sIx n d none=d:=rfl
theorem sIx_nat(n d k:Nat):sIx n d (some (k:Int))=min k n:=by
 show(if (k:Int)<0 then((k:Int)+(n:Int)).toNat else min (k:Int).toNat n)=min k n
 rw[if_neg (by omega),Int.toNat_natCast]
end
end HT
namespace L2
open PySem PySem.Spec PyProof.Rows
abbrev TO:=St->Hp->(Option Int->Hp->Prop)->Prop
def PO(X:Cx)(e:Option Expr)(t:TO):Prop:=
 ∀(pins:List (Addr×Obj)) (s:Shared) (σ:St) (H:Hp) (Q:Option Int->Hp->Prop),Inv X pins σ H s->t σ H Q ->
  wpAny (model X.prog X.w) X.A (evalPart e X.env) (fun u s'=>∃o H',Inv X pins σ H' s'/\IsPart u o/\Q o H') X.xe s
def ZjM:TO:=fun _ H Q=>Q none H
def Zpf(t:TE):TO:=fun σ H Q=>t σ H fun x H1=>∃i,x=.int i/\Q (some i) H1
theorem Zi6{ns:List Int}:∀{us:List Value},Vals (ns.map V.int) us->IntsAre us ns:=by
 induction ns with
 | nil=>intro us r;rw[List.map_nil] at r;cases r;exact .nil
 | cons n ns ih=>
  intro us r
  rw[List.map_cons] at r
  cases r with
  | cons r1 r2=>
   obtain⟨t,e⟩:=r1
   subst e
   exact .cons n t (ih r2)
section
variable{X:Cx}{e:Expr}{te:TE}{lo hi:Option Expr}{tl th:TO}{pos p2:Pos}
theorem ZnC:PO X none ZjM:=by
 intro pins s σ H Q I h
 rw[evalPart_none]
 exact wpAny_pure ⟨none,H,I,.none,h⟩
theorem ZnD(h:PE X e te):PO X (some e) (Zpf te):=by
 intro pins s σ H Q I hw
 rw[evalPart_some]
 refine thn (h pins s σ H _ I hw) fun u s1 ⟨x,H1,I1,r1,q1⟩=>?_
 obtain⟨i,rfl,q⟩:=q1
 obtain⟨t,rfl⟩:=r1
 exact⟨some i,H1,I1,.int i t,q⟩
def SlR(X:Cx)(r:V->Option Int->Option Int->Hp->VK->Prop):Prop:=
 ∀(pins:List (Addr×Obj)) (s:Shared) (σ:St) (H:Hp) (x:V) (v vl vu:Value) (lo hi:Option Int) (sl:Addr) (Q:VK),Inv X pins σ H s->RelV x v->s.heap.IsSliceOf sl vl vu .none->IsPart vl lo->IsPart vu hi->r x lo hi H Q ->
  ∃T id,typeLookup (.type T) "__getitem__"=pure (some (.builtin id))/\s.TypeIs v T/\wpAny (model X.prog X.w) X.A (getItem v (.ref sl)) (EP X pins σ Q) X.xe s
def tSl(r:V->Option Int->Option Int->Hp->VK->Prop)(te:TE)(tl th:TO):TE:=fun σ H Q=>te σ H fun x H1=>tl σ H1 fun l H2=>th σ H2 fun u H3=>r x l u H3 Q
theorem ZlH{r:V->Option Int->Option Int->Hp->VK->Prop}(hr:SlR X r)(he:PE X e te)(hl:PO X lo tl)(hu:PO X hi th):PE X (.Subscript e (.Slice lo hi none p2) pos) (tSl r te tl th):=by
 intro pins s σ H Q I h
 refine Subscript_ (thn (he pins s σ H _ I h) fun v s1 ⟨x,H1,I1,r1,q1⟩=>?_)
 refine wpAny_Slice (thn (hl pins s1 σ H1 _ I1 q1) fun vl s2 ⟨l,H2,I2,pl,q2⟩=>thn (hu pins s2 σ H2 _ I2 q2) fun vu s3 ⟨u,H3,I3,pu,q3⟩=>?_)
 rw[evalPart_none]
 refine wpAny_pure ?_
 have I4:Inv X pins σ H3 { s3 with heap:=s3.heap.push { cls:=.type "slice",data:=.fields #[vl,vu,.none] } }:=I3.kept (t':=s3.toks) fun b ob q=>Heap.get?_push_of_some _ q
 obtain⟨T,id,hT,ht,hg⟩:=hr pins { s3 with heap:=s3.heap.push { cls:=.type "slice",data:=.fields #[vl,vu,.none] } } σ H3 x v vl vu l u s3.heap.objs.size Q I4 r1 (Heap.IsSliceOf.new ..) pl pu q3
 show wpAny (model X.prog X.w) X.A (subscriptTail e (.Slice lo hi none p2) v (.ref s3.heap.objs.size)) (EP X pins σ Q) X.xe { s3 with heap:=s3.heap.push { cls:=.type "slice",data:=.fields #[vl,vu,.none] } }
 exact tail_any (ops:=[.ref s3.heap.objs.size,v]) ht hT hg (by with_unfolding_all rfl)
def cutV(xs:List V)(lo hi:Option Int):List V:=(xs.drop (HT.sIx xs.length 0 lo)).take (HT.sIx xs.length xs.length hi - HT.sIx xs.length 0 lo)
theorem ZhZ(xs:List V)(lo hi:Option Int):(cutV xs lo hi).length<=xs.length:=by
 unfold cutV
 rw[List.length_take,List.length_drop]
 omega
end
end L2
namespace L2
open PySem PySem.Spec PyProof.Rows
def ixN(n:Nat)(i:Int):Option Nat:=if 0<=i then(if i<n then some i.toNat else none) else if -(n:Int)<=i then some (i+n).toNat else none
def atI{α:Type}(xs:List α)(i:Int):Option α:=(ixN xs.length i).bind fun j=>xs[j]?
theorem Zh0{n:Nat}{i:Int}{j:Nat}(h:ixN n i=some j):seqIndex? i n=some j/\j<n /\ -(n:Int)<=i/\i<n:=by
 unfold ixN at h
 by_cases h0:0<=i
 · rw[if_pos h0] at h
   by_cases h1:i<n
   · rw[if_pos h1] at h
     have e:i.toNat=j:=Option.some.inj h
     exact⟨by rw[seqIndex_of h0 h1,e],by omega,by omega,h1⟩
   · rw[if_neg h1] at h;cases h
 · rw[if_neg h0] at h
   by_cases h1:-(n:Int)<=i
   · rw[if_pos h1] at h
     have e:(i+n).toNat=j:=Option.some.inj h
     exact⟨by rw[seqIndex_neg (by omega) h1,e],by omega,h1,by omega⟩
   · rw[if_neg h1] at h;cases h
theorem Zh1{α:Type}{xs:List α}{i:Int}{v:α}(h:atI xs i=some v):∃j,seqIndex? i xs.length=some j/\xs[j]? = some v/\j<xs.length /\ -(xs.length:Int)<=i/\i<xs.length:=by
 unfold atI at h
 cases e:ixN xs.length i with
 | none=>rw[e] at h;cases h
 | some j=>
  rw[e] at h
  obtain⟨h1,h2,h3,h4⟩:=Zh0 e
  exact⟨j,h1,h,h2,h3,h4⟩
theorem atI_nat{α:Type}{xs:List α}{j:Nat}{v:α}(h:xs[j]? = some v):atI xs (j:Int)=some v:=by
 have hj:j<xs.length:=(List.getElem?_eq_some_iff.mp h).1
 have e:ixN xs.length (j:Int)=some j:=by
  unfold ixN
  rw[if_pos (by omega),if_pos (by omega)];simp
 unfold atI;rw[e];exact h
def ZnE(b:Expr):Prop:=∀o i,subscripted b false o i=operate [o,i] (getItem o i)
def IxR(X:Cx)(r:R2):Prop:=
 ∀(value slice:Expr) (pins:List (Addr×Obj)) (s:Shared) (σ:St) (H:Hp) (x y:V) (v u:Value) (Q:VK),Inv X pins σ H s->RelV x v->RelV y u->r x y H Q ->
  subscripted slice false v u=operate [v,u] (getItem v u)->wpAny (model X.prog X.w) X.A (subscriptTail value slice v u) (EP X pins σ Q) X.xe s
def MtR(X:Cx)(id:String)(r:V->List V->Hp->VK->Prop):Prop:=
 ∀(pins:List (Addr×Obj)) (s:Shared) (σ:St) (H:Hp) (x:V) (xs:List V) (v:Value) (us:List Value) (Q:VK),Inv X pins σ H s->RelV x v->Vals xs us->r x xs H Q ->
  wpAny (model X.prog X.w) X.A (call (.builtin id) (v :: us)) (EP X pins σ Q) X.xe s
section
variable{X:Cx}{a b:Expr}{ta tb:TE}{pos:Pos}
theorem IxR.or{r r':R2}(h:IxR X r)(h':IxR X r'):IxR X (fun x y H Q=>r x y H Q\/r' x y H Q):=by
 intro value slice pins s σ H x y v u Q I rx ry q hs
 rcases q with q | q
 · exact h value slice pins s σ H x y v u Q I rx ry q hs
 · exact h' value slice pins s σ H x y v u Q I rx ry q hs
theorem Zbw{r:R2}(hr:IxR X r)(ha:PE X a ta)(hb:PE X b tb)(hs:ZnE b):PE X (.Subscript a b pos) (tOp r ta tb):=by
 intro pins s σ H Q I h
 exact Subscript_ (binT ha hb I h fun v u s2 x y H2 I2 rx ry q=>hr a b pins s2 σ H2 x y v u Q I2 rx ry q (hs _ _))
def rIxL(K:PySem.W.Frag):R2:=fun x y H Q=>∃p xs i v,x=.ref p/\y=.int i/\SqL K H p xs/\atI xs i=some v/\Q v H
def rIxT(K:PySem.W.Frag):R2:=fun x y H Q=>∃p xs i v,x=.ref p/\y=.int i/\SqT K H p xs/\atI xs i=some v/\Q v H
def rIxS:R2:=fun x y H Q=>∃z i c,x=.str z/\y=.int i/\z.length<=sizeLine/\atI z.cps.toList i=some c/\Q (.str ⟨#[c]⟩) H
theorem ZnF:IxR X (rIxL X.K):=by
 intro value slice pins s σ H x y v u Q I rx ry h hs
 obtain⟨p,xs,i,z,rfl,rfl,hq,he,q⟩:=h
 cases rx
 obtain⟨t,rfl⟩:=ry
 obtain⟨its,r,pl,hz⟩:=I.list hq
 obtain⟨j,h1,h2,h3,h4,h5⟩:=Zh1 he
 obtain⟨w,ew,rw'⟩:=r.get h2
 have hl:=r.length
 have hn:=Zgr
 have fin:EP X pins σ Q w s:=⟨z,H,I,rw',q⟩
 by_cases h0:0<=i
 · have hj:i.toNat=j:=by
    rw[seqIndex_of h0 h5] at h1
    exact Option.some.inj h1
   exact item_listR pl.isList h0 (by omega) (by rw[hj];simpa using ew) fin hs
 · have hj:(i+(its.toArray.size:Int)).toNat=j:=by
    rw[seqIndex_neg (by omega) h4] at h1
    rw[List.size_toArray,<- hl]
    exact Option.some.inj h1
   exact subscriptTail_builtinR (x:=w) pl.isList.typeIs slot_list_getitem.lookup
    (wpAny_getItem_list_neg (Q:=fun r s'=>r=w/\EP X pins σ Q r s') pl.isList (by omega) (by rw[List.size_toArray]<;>omega) (by omega) (by rw[hj];simpa using ew) ⟨rfl,fin⟩) hs
theorem Zpg:IxR X (rIxT X.K):=by
 intro value slice pins s σ H x y v u Q I rx ry h hs
 obtain⟨p,xs,i,z,rfl,rfl,hq,he,q⟩:=h
 cases rx
 obtain⟨t,rfl⟩:=ry
 obtain⟨its,r,pl,hz⟩:=I.tuple hq
 obtain⟨j,h1,h2,h3,h4,h5⟩:=Zh1 he
 obtain⟨w,ew,rw'⟩:=r.get h2
 have hl:=r.length
 have hn:=Zgr
 have fin:EP X pins σ Q w s:=⟨z,H,I,rw',q⟩
 exact subscriptTail_builtinR (x:=w) pl.typeIs slot_tuple_getitem.lookup
  (getItem_tuple (j:=j) (Q:=fun r s'=>r=w/\EP X pins σ Q r s') pl (by omega) (by omega) (by rw[List.size_toArray,<- hl];exact h1) (by simpa using ew) ⟨rfl,fin⟩) hs
theorem ZjN:IxR X rIxS:=by
 intro value slice pins s σ H x y v u Q I rx ry h hs
 obtain⟨z,i,c,rfl,rfl,hz,he,q⟩:=h
 obtain⟨t,rfl⟩:=rx
 obtain⟨t',rfl⟩:=ry
 obtain⟨j,h1,h2,h3,h4,h5⟩:=Zh1 he
 have hl:z.cps.toList.length=z.length:=by simp[Str.length]
 rw[hl] at h1 h4 h5
 have hn:=Zgr
 exact tail_any (typeIs_str s z t) slot_str_getitem.lookup (getItem_str (c:=c) (by
  have e1:decide (i < -(2 ^ 63:Int))=false:=decide_eq_false (by omega)
  have e2:decide (i ≥ 2 ^ 63)=false:=decide_eq_false (by omega)
  rw[e1,e2,Bool.or_false]) (by rw[h1];simpa using h2) ⟨.str ⟨#[c]⟩,H,I.tok _,⟨_,rfl⟩,q⟩) hs
theorem Zi7(its:List Value)(n j:Nat)(u:Value):Obj.mapSeq (·.setIfInBounds j u) { cls:=.type "list",data:=.seq its.toArray n }={ cls:=.type "list",data:=.seq (its.set j u).toArray n }:=by
 simp[Obj.mapSeq]
theorem Inv.lst{pins:List (Addr×Obj)}{σ:St}{H:Hp}{s:Shared}{p:Addr}{xs:List V}(I:Inv X pins σ H s)(h:H p=some (.lst xs)) :
 ∃(its:List Value) (n:Nat),Vals xs its/\s.heap.get? p=some { cls:=.type "list",data:=.seq its.toArray n }/\xs.length<=sizeLine:=by
 obtain⟨z,its,n,r,e⟩:=I.hok p _ h
 exact⟨its,n,r,e,z⟩
theorem Inv.lstUpd{pins:List (Addr×Obj)}{σ:St}{H:Hp}{s:Shared}{p:Addr}{xs ys:List V}{its its':List Value}{n n':Nat}{f:Obj->Obj}(I:Inv X pins σ H s)(h:H p=some (.lst xs))
 (ho:s.heap.get? p=some { cls:=.type "list",data:=.seq its.toArray n }) (hf:f { cls:=.type "list",data:=.seq its.toArray n }={ cls:=.type "list",data:=.seq its'.toArray n' }) (r:Vals ys its') (hz:ys.length<=sizeLine) (t:Nat) :
 Inv X pins σ (upd H p (.lst ys)) { s with heap:=s.heap.update p f,toks:=t }:=by
 have e:(s.heap.update p f).get? p=some { cls:=.type "list",data:=.seq its'.toArray n' }:=by
  rw[Heap.get?_update_self f ho (by rw[hf]<;>rfl),hf]
 refine I.write (x:=p) (e:=p) (by rw[h];trivial) (.inl rfl) (fun b u hb q=>(Heap.get?_update_other _ _ (Ne.symm hb)).trans q) ⟨_,e⟩ ?_
 exact⟨hz,its',n',r,e⟩
def Zph:V->V->V->Hp->(Hp->Prop)->Prop:=fun o i v H Q=>∃p xs k j,o=.ref p/\i=.int k/\H p=some (.lst xs)/\ixN xs.length k=some j/\Q (upd H p (.lst (xs.set j v)))
theorem ZlI:PSet X Zph:=by
 intro pins s σ H o i v ov iv u Q I ro ri rv h
 obtain⟨p,xs,k,j,rfl,rfl,hp,hj,q⟩:=h
 cases ro
 obtain⟨t,rfl⟩:=ri
 obtain⟨its,n,r,ho,hz⟩:=I.lst hp
 obtain⟨h1,h2,h3,h4⟩:=Zh0 hj
 have hl:=r.length
 have hn:=Zgr
 have I':Inv X pins σ (upd H p (.lst (xs.set j v))) { s with heap:=s.heap.update p (Obj.mapSeq (·.setIfInBounds j u)) }:=
  I.lstUpd hp ho (Zi7 its n j u) (r.set rv j) (by rw[List.length_set];exact hz) s.toks
 by_cases h0:0<=k
 · have hk:k.toNat=j:=by
    rw[seqIndex_of h0 h4] at h1
    exact Option.some.inj h1
   exact PySem.W.ki_setAt ho h0 (by omega) (by rw[List.size_toArray,<- hl];exact h4) (by rw[hk];exact⟨_,I',q⟩)
 · have hk:(k+(its.toArray.size:Int)).toNat=j:=by
    rw[seqIndex_neg (by omega) h3] at h1
    rw[List.size_toArray,<- hl]
    exact Option.some.inj h1
   exact PySem.W.ki_setBack ho (by omega) (by rw[List.size_toArray,<- hl];exact h3) (by omega) (by rw[hk];exact⟨_,I',q⟩)
theorem Zhh(lo hi:Option Int)(n:Nat):(sliceBounds lo hi none n).1=((HT.sIx n 0 lo:Nat):Int)/\(sliceBounds lo hi none n).2.1=((HT.sIx n n hi:Nat):Int)/\(sliceBounds lo hi none n).2.2=1:=by
 refine⟨?_,?_,rfl⟩
 · cases lo with
   | none=>simp[sliceBounds,HT.sIx]
   | some i=>
    simp only[sliceBounds,HT.sIx,Option.getD_none,show(1:Int) > 0 by decide,if_true]
    by_cases h:i<0
    · simp only[h,if_true]<;>omega
    · simp only[h,if_false]<;>omega
 · cases hi with
   | none=>simp[sliceBounds,HT.sIx]
   | some i=>
    simp only[sliceBounds,HT.sIx,Option.getD_none,show(1:Int) > 0 by decide,if_true]
    by_cases h:i<0
    · simp only[h,if_true]<;>omega
    · simp only[h,if_false]<;>omega
theorem ZgG(its:List Value)(lo hi:Option Int):slicePick its.toArray lo hi none=((its.drop (HT.sIx its.length 0 lo)).take (HT.sIx its.length its.length hi - HT.sIx its.length 0 lo)).toArray:=by
 obtain⟨h1,h2,h3⟩:=Zhh lo hi its.toArray.size
 unfold slicePick
 rw[h1,h2,h3]
 simp only[sliceRange_one,pick_run,List.size_toArray]<;>rfl
def rSlL(K:PySem.W.Frag):V->Option Int->Option Int->Hp->VK->Prop:=fun x lo hi H Q=>∃a xs,x=.ref a/\SqL K H a xs /\ ∀p,H p=none->Q (.ref p) (upd H p (.lst (cutV xs lo hi)))
theorem ZnG:SlR X (rSlL X.K):=by
 intro pins s σ H x v vl vu lo hi sl Q I rx hs pl pu h
 obtain⟨a,xs,rfl,hx,q⟩:=h
 cases rx
 obtain⟨its,r,ht,hz⟩:=I.list hx
 have hlen:=r.length
 refine⟨"list",_,slot_list_getitem.lookup,ht.isList.typeIs,?_⟩
 refine wpAny_getItem_list_slice ht.isList hs pl pu .none (by simp) ?_ (by rw[List.size_toArray]<;>omega)
 rw[ZgG,<- hlen]
 refine⟨.ref s.heap.objs.size,_,I.laid (t':=s.toks) (o:=.lst (cutV xs lo hi)) (fun b ob q=>Heap.get?_push_of_some _ q) (Nat.le_refl _) ?_,rfl,q _ (I.hok.fresh (Nat.le_refl _))⟩
 exact⟨Nat.le_trans (ZhZ xs lo hi) hz,_,0,(r.drop (HT.sIx xs.length 0 lo)).take (HT.sIx xs.length xs.length hi - HT.sIx xs.length 0 lo),Heap.get?_push_size _ rfl⟩
def Zeo:V->Bool
 | .non=>true
 | .bl _=>true
 | .int _=>true
 | .str _=>true
 | _=>false
def eqV:V->V->Bool
 | .non,.non=>true
 | .bl a,.bl b=>a == b
 | .bl a,.int b=>(if a then 1 else 0) == b
 | .int a,.bl b=>a == (if b then 1 else 0)
 | .int a,.int b=>a == b
 | .str a,.str b=>a == b
 | _,_=>false
theorem ZmC{A:Around}{s:Shared}{y x:V}{u v:Value}(ry:RelV y u)(rx:RelV x v)(fy:Zeo y=true)(fx:Zeo x=true):SeqAt.EqAt A s u v (eqV y x):=by
 cases y with
 | non=>
  cases ry
  cases x with
  | non=>cases rx;exact SeqAt.EqAt.same _
  | bl b=>cases rx;exact SeqAt.EqAt.none_bool b
  | int b=>obtain⟨t,rfl⟩:=rx;exact SeqAt.EqAt.none_int b t
  | str b=>obtain⟨t,rfl⟩:=rx;exact SeqAt.EqAt.none_str b t
  | _=>exact absurd (show false=true from fx) Bool.false_ne_true
 | bl a=>
  cases ry
  cases x with
  | non=>cases rx;exact SeqAt.EqAt.bool_none a
  | bl b=>cases rx;exact SeqAt.EqAt.bool_bool a b
  | int b=>obtain⟨t,rfl⟩:=rx;exact SeqAt.EqAt.bool_int a b t
  | str b=>obtain⟨t,rfl⟩:=rx;exact SeqAt.EqAt.bool_str a b t
  | _=>exact absurd (show false=true from fx) Bool.false_ne_true
 | int a=>
  obtain⟨t',rfl⟩:=ry
  cases x with
  | non=>cases rx;exact SeqAt.EqAt.int_none a t'
  | bl b=>cases rx;exact SeqAt.EqAt.int_bool a t' b
  | int b=>obtain⟨t,rfl⟩:=rx;exact SeqAt.EqAt.int_int a t' b t
  | str b=>obtain⟨t,rfl⟩:=rx;exact SeqAt.EqAt.int_str a t' b t
  | _=>exact absurd (show false=true from fx) Bool.false_ne_true
 | str a=>
  obtain⟨t',rfl⟩:=ry
  cases x with
  | non=>cases rx;exact SeqAt.EqAt.str_none a t'
  | bl b=>cases rx;exact SeqAt.EqAt.str_bool a t' b
  | int b=>obtain⟨t,rfl⟩:=rx;exact SeqAt.EqAt.str_int a t' b t
  | str b=>obtain⟨t,rfl⟩:=rx;exact SeqAt.EqAt.str_str a t' b t
  | _=>exact absurd (show false=true from fx) Bool.false_ne_true
 | _=>exact absurd (show false=true from fy) Bool.false_ne_true
def eqU(x:V)(u:Value):Bool:=match u with
 | .none=>eqV .non x
 | .bool b=>eqV (.bl b) x
 | .int i _=>eqV (.int i) x
 | .str z _=>eqV (.str z) x
 | _=>false
theorem Ziv{x y:V}{u:Value}(r:RelV y u)(f:Zeo y=true):eqU x u=eqV y x:=by
 cases y with
 | non=>cases r;rfl
 | bl b=>cases r;rfl
 | int i=>obtain⟨t,rfl⟩:=r;rfl
 | str z=>obtain⟨t,rfl⟩:=r;rfl
 | _=>exact absurd (show false=true from f) Bool.false_ne_true
theorem ZfN{x:V}:∀{xs:List V}{us:List Value},Vals xs us->xs.all Zeo=true->us.any (eqU x)=xs.any fun y=>eqV y x
 | _,_,.nil,_=>rfl
 | y :: xs,u :: us,.cons r t,f=>by
  rw[List.all_cons,Bool.and_eq_true] at f
  rw[List.any_cons,List.any_cons,Ziv r f.1,ZfN t f.2]
theorem ZeB{A:Around}{s:Shared}{x:V}{v:Value}(rx:RelV x v)(fx:Zeo x=true):∀{xs:List V}{us:List Value},Vals xs us->xs.all Zeo=true -> ∀u∈us,SeqAt.EqAt A s u v (eqU x u)
 | _,_,.nil,_=>fun u hu=>by cases hu
 | y :: xs,u :: us,.cons r t,f=>fun u' hu=>by
  rw[List.all_cons,Bool.and_eq_true] at f
  rcases List.mem_cons.mp hu with rfl | hu
  · rw[Ziv r f.1];exact ZmC r rx f.1 fx
  · exact ZeB rx fx t f.2 u' hu
def inV(x:V)(xs:List V):Bool:=xs.any fun y=>eqV y x
def rIn(K:PySem.W.Frag)(neg:Bool):R2:=fun x y H Q=>∃p xs,y=.ref p/\(SqL K H p xs\/SqT K H p xs)/\Zeo x=true/\xs.all Zeo=true/\Q (.bl (if neg then !inV x xs else inV x xs)) H
theorem ZjO:OpR X (compareOp .In) (rIn X.K false):=by
 intro pins s σ H x y v u Q I rx ry h
 obtain⟨p,xs,rfl,hq,fx,fs,q⟩:=h
 cases ry
 rcases hq with hq | hq
 · obtain⟨its,r,pl,hz⟩:=I.list hq
   refine SeqAt.in_listAt (eqU x) pl.isList (fun w hw=>ZeB rx fx r fs w (by simpa using hw)) ⟨.bl _,H,I,rfl,?_⟩
   rw[show its.toArray.any (eqU x)=its.any (eqU x) by simp,ZfN r fs]
   exact q
 · obtain⟨its,r,pl,hz⟩:=I.tuple hq
   refine SeqAt.in_tupleAt (eqU x) pl (fun w hw=>ZeB rx fx r fs w (by simpa using hw)) ⟨.bl _,H,I,rfl,?_⟩
   rw[show its.toArray.any (eqU x)=its.any (eqU x) by simp,ZfN r fs]
   exact q
theorem Zhi:OpR X (compareOp .NotIn) (rIn X.K true):=by
 intro pins s σ H x y v u Q I rx ry h
 obtain⟨p,xs,rfl,hq,fx,fs,q⟩:=h
 cases ry
 rcases hq with hq | hq
 · obtain⟨its,r,pl,hz⟩:=I.list hq
   refine SeqAt.notIn_listAt (eqU x) pl.isList (fun w hw=>ZeB rx fx r fs w (by simpa using hw)) ⟨.bl _,H,I,rfl,?_⟩
   rw[show its.toArray.any (eqU x)=its.any (eqU x) by simp,ZfN r fs]
   exact q
 · obtain⟨its,r,pl,hz⟩:=I.tuple hq
   refine SeqAt.notIn_tupleAt (eqU x) pl (fun w hw=>ZeB rx fx r fs w (by simpa using hw)) ⟨.bl _,H,I,rfl,?_⟩
   rw[show its.toArray.any (eqU x)=its.any (eqU x) by simp,ZfN r fs]
   exact q
theorem Zhj:ZcD X (.builtin "len") (fun xs H Q=>∃p ys,xs=[.ref p]/\(SqL X.K H p ys\/SqT X.K H p ys)/\Q (.int ys.length) H):=by
 intro pins s σ H xs us Q I r h
 obtain⟨p,ys,rfl,hq,q⟩:=h
 obtain⟨u,rfl,rx⟩:=ZeU r
 cases rx
 have hn:=Zgr
 rcases hq with hq | hq
 · obtain⟨its,r',pl,hz⟩:=I.list hq
   have hlen:=r'.length
   exact Calls.call_len_list pl.isList (by simp only[List.size_toArray]<;>omega) ⟨.int ys.length,H,I.tok _,⟨s.toks+1,by rw[List.size_toArray,hlen]⟩,q⟩
 · obtain⟨its,r',pl,hz⟩:=I.tuple hq
   have hlen:=r'.length
   exact len_tuple pl (by simp only[List.size_toArray]<;>omega) ⟨.int ys.length,H,I.tok _,⟨s.toks+1,by rw[List.size_toArray,hlen]⟩,q⟩
theorem Zhk:ZcD X (.builtin "len") (fun xs H Q=>∃z,xs=[.str z]/\z.length<=sizeLine/\Q (.int z.length) H):=by
 intro pins s σ H xs us Q I r h
 obtain⟨z,rfl,hz,q⟩:=h
 obtain⟨u,rfl,t,rfl⟩:=ZeU r
 have hn:=Zgr
 exact len_str (by omega) ⟨.int z.length,H,I.tok _,⟨_,rfl⟩,q⟩
theorem Zhl:ZcD X (.type "list") (fun xs H Q=>∃p ys,xs=[.ref p]/\(SqL X.K H p ys\/SqT X.K H p ys) /\ ∀l,H l=none->Q (.ref l) (upd H l (.lst ys))):=by
 intro pins s σ H xs us Q I r h
 obtain⟨p,ys,rfl,hq,q⟩:=h
 obtain⟨u,rfl,rx⟩:=ZeU r
 cases rx
 have fin:∀(its:List Value),Vals ys its->ys.length<=sizeLine -> ∀(h':Heap) (c':Nat),(∀b o',s.heap.get? b=some o'->h'.get? b=some o') ->
  h'.get? s.heap.objs.size=some { cls:=.type "list",dict:=none,data:=.seq its.toArray c',slots:=#[] }->EP X pins σ Q (.ref s.heap.objs.size) { s with heap:=h' }:=fun its r' hz h' c' kp e=>
  ⟨.ref s.heap.objs.size,_,I.laid (t':=s.toks) kp (Nat.le_refl _) (show ObjOk X.prog X.w _ h' _ (.lst ys) from⟨hz,its,c',r',e⟩),rfl,q _ (I.hok.fresh (Nat.le_refl _))⟩
 rcases hq with hq | hq
 · obtain⟨its,r',pl,hz⟩:=I.list hq
   have hlen:=r'.length
   obtain⟨o,ho,hc,n,hd⟩:=pl.isList
   exact call_list_seq p (.inl rfl) ho hc hd (fun h' c' kp e=>fin its r' hz h' c' kp e) (by simp only[List.size_toArray]<;>omega)
 · obtain⟨its,r',pl,hz⟩:=I.tuple hq
   have hlen:=r'.length
   obtain⟨o,ho,hc,n,hd⟩:=pl
   exact call_list_seq p (.inr rfl) ho hc hd (fun h' c' kp e=>fin its r' hz h' c' kp e) (by simp only[List.size_toArray]<;>omega)
def tyV(K:PySem.W.Frag)(T:String)(x:V)(H:Hp):Prop:=match x with
 | .str _=>T="str"
 | .int _=>T="int"
 | .ref p=>(T="list" /\ ∃xs,SqL K H p xs)\/(T="tuple" /\ ∃o,K.lookup p=some o/\o.cls=.type "tuple"/\o.dict=none) \/
  (T="dict"/\((∃kvs,H p=some (.dK kvs)) \/ ∃kvs,H p=some (.dT kvs)))\/(T="set" /\ ∃S n,H p=some (.set S n))
 | _=>False
theorem ZmD{pins:List (Addr×Obj)}{σ:St}{H:Hp}{s:Shared}{T:String}{x:V}{v:Value}(I:Inv X pins σ H s)(r:RelV x v)(ty:tyV X.K T x H) :
 s.TypeIs v T /\ ∀a,v=.ref a -> ∃ob,s.heap.get? a=some ob/\ob.dict=none:=by
 cases x with
 | str z=>
  obtain⟨t,rfl⟩:=r
  cases(show T="str" from ty)
  exact⟨typeIs_str s z t,fun _ e=>nomatch e⟩
 | int i=>
  obtain⟨t,rfl⟩:=r
  cases(show T="int" from ty)
  exact⟨typeIs_int s i t,fun _ e=>nomatch e⟩
 | ref p=>
  cases r
  rcases ty with⟨rfl,xs,hq⟩ | ⟨rfl,o,hk,hc,hd⟩ | ⟨rfl,hk⟩ | ⟨rfl,S,n,hk⟩
  · obtain⟨its,_,pl,_⟩:=I.list hq
    refine⟨pl.isList.typeIs,fun a e=>?_⟩
    cases e
    obtain⟨o,n,e,c,hd,_⟩:=pl
    exact⟨o,e,hd⟩
  · refine⟨⟨o,I.kIn p o hk,hc⟩,fun a e=>?_⟩
    cases e
    exact⟨o,I.kIn _ o hk,hd⟩
  · have z:∃o,s.heap.get? p=some o/\o.ExactDict:=by
     rcases hk with⟨kvs,hk⟩ | ⟨kvs,hk⟩
     · obtain⟨_,_,_,_,o,_,_,e,ex,_⟩:=I.hok p _ hk
       exact⟨o,e,ex⟩
     · obtain⟨_,_,_,_,o,_,_,e,ex,_⟩:=I.hok p _ hk
       exact⟨o,e,ex⟩
    obtain⟨o,e,ex⟩:=z
    refine⟨⟨o,e,ex.1⟩,fun a e2=>?_⟩
    cases e2
    exact⟨o,e,ex.2.1⟩
  · obtain⟨o,_,_,_,e,ex,_⟩:=I.hok p _ hk
    refine⟨⟨o,e,ex.1⟩,fun a e2=>?_⟩
    cases e2
    exact⟨o,e,ex.2.1⟩
 | _=>exact False.elim ty
def tBM0(K:PySem.W.Frag)(T:String)(r:V->List V->Hp->VK->Prop)(to:TE):TE:=fun σ H Q=>to σ H fun x H1=>tyV K T x H1/\r x [] H1 Q
def tBM(K:PySem.W.Frag)(T:String)(r:V->List V->Hp->VK->Prop)(to:TE)(t:TA):TE:=fun σ H Q=>to σ H fun x H1=>tyV K T x H1/\t σ H1 fun xs H2=>r x xs H2 Q
variable{o e:Expr}{es:List Expr}{to:TE}{t:TA}{name:Str}{apos cpos:Pos}{T id:String}{r:V->List V->Hp->VK->Prop}
theorem Zpi(pa:PlainAttrs T)(slot:Slot T name id)(hty:typeOf (.builtin id)=pure (.type "method_descriptor"))(hm:MtR X id r)(ho:PE X o to)
 (hbase:attributeBase o name X.env (eval o X.env)=eval o X.env:=by rfl) (hline:(apos.endLine == cpos.line)=true:=by rfl):PE X (.Call (.Attribute o name apos) [] [] cpos) (tBM0 X.K T r to):=by
 intro pins s σ H Q I h
 refine wpAny_Call_method0_late hbase hline (thn (ho pins s σ H _ I h) fun v s1 ⟨x,H1,I1,r1,ty,q1⟩=>?_)
 obtain⟨h1,h2⟩:=ZmD I1 r1 ty
 exact⟨T,id,pa,slot,hty,h1,h2,Calls.callWith_builtin rfl (PySem.evalArgs_none (hm pins s1 σ H1 x [] v [] Q I1 r1 .nil q1))⟩
theorem ZnH(pa:PlainAttrs T)(slot:Slot T name id)(hty:typeOf (.builtin id)=pure (.type "method_descriptor"))(hm:MtR X id r)(ho:PE X o to)(ha:PA X (e :: es) t)
 (hbase:attributeBase o name X.env (eval o X.env)=eval o X.env:=by rfl)
 (hfew:((backTo cpos (starEach (e :: es) X.env)).all (fun x=>!x.1)&&(backToKw cpos (keywordEach [] X.env)).all (fun x=>x.1.isSome)
   && decide ((e :: es).length+([]:List Keyword).length+(if ([]:List Keyword).isEmpty then 0 else 1)<30))=true:=by rfl)
 (hline:(apos.endLine == cpos.line)=true:=by rfl) (hs:starEach (e :: es) X.env=(false,eval e X.env) :: starEach es X.env:=by rfl) (hplain:(backTo cpos (starEach es X.env)).any (·.1)=false:=by rfl) :
 PE X (.Call (.Attribute o name apos) (e :: es) [] cpos) (tBM X.K T r to t):=by
 intro pins s σ H Q I h
 refine wpAny_Call_method_late hbase hfew hline rfl (thn (ho pins s σ H _ I h) fun v s1 ⟨x,H1,I1,r1,ty,q1⟩=>?_)
 obtain⟨h1,h2⟩:=ZmD I1 r1 ty
 refine⟨T,id,pa,slot,hty,h1,h2,?_⟩
 have hA:=ha cpos pins s1 σ H1 _ I1 q1
 rw[hs] at hA ⊢
 refine Calls.callWith_builtin (by show(false || (backTo cpos (starEach es X.env)).any (·.1))=false;rw[hplain]<;>rfl) (Calls.evalArgs_plain ?_)
 exact thn hA fun us s2 ⟨vs,H2,I2,r2,q2⟩=>hm pins s2 σ H2 x vs v us Q I2 r1 r2 q2
/- xs.append(e), list.index on a module's tuple .. are MtR facts of 06m -/
end
end L2
namespace L2
open PySem PySem.Spec PyProof.Rows
def MtM(X:Cx)(id:String)(r:V->List V->Hp->VK->Prop):Prop:=
 ∀(pins:List (Addr×Obj)) (s:Shared) (σ:St) (H:Hp) (x:V) (xs:List V) (v:Value) (us:List Value) (Q:VK),Inv X pins σ H s->RelV x v->Vals xs us->r x xs H Q ->
  wpAny (model X.prog X.w) X.A (call (.builtin id) (v :: us)) (EP X pins σ Q) X.xe s
theorem Vals.one:∀{x:V}{us:List Value},Vals [x] us -> ∃u,us=[u]/\RelV x u
 | _,_,.cons r .nil=>⟨_,rfl,r⟩
section
variable{X:Cx}{pins:List (Addr×Obj)}{σ:St}{H:Hp}{s:Shared}{l b:Addr}{xs ys zs:List V}
theorem Inv.lset{its its':List Value}{n:Nat}{f:Array Value->Array Value}{t':Nat}(I:Inv X pins σ H s)(hH:H l=some (.lst xs))
 (e:s.heap.get? l=some { cls:=.type "list",data:=.seq its.toArray n }) (hf:f its.toArray=its'.toArray) (hv:Vals ys its') (hz:ys.length<=sizeLine) :
 Inv X pins σ (upd H l (.lst ys)) { s with heap:=s.heap.update l (Obj.mapSeq f),toks:=t' }:=by
 have q:=PySem.IsL.update e f
 rw[hf] at q
 refine I.write (x:=l) (e:=l) (by rw[hH];exact trivial) (.inl rfl) (fun b' u hb hu=>(Heap.get?_update_other s.heap (Obj.mapSeq f) (Ne.symm hb)).trans hu) ⟨_,q⟩ ?_
 exact⟨hz,its',_,hv,q⟩
theorem Inv.lnew{its:List Value}{t':Nat}(I:Inv X pins σ H s)(hv:Vals ys its)(hz:ys.length<=sizeLine) :
 Inv X pins σ (upd H s.heap.objs.size (.lst ys)) { s with heap:=s.heap.push { cls:=.type "list",data:=.seq its.toArray },toks:=t' }:=
 I.laid (fun _ _ q=>Heap.get?_push_of_some _ q) (Nat.le_refl _) ⟨hz,its,0,hv,Heap.get?_push_size _ rfl⟩
theorem Inv.fresh(I:Inv X pins σ H s):H s.heap.objs.size=none:=I.hok.fresh (Nat.le_refl _)
theorem Inv.lstM(I:Inv X pins σ H s)(hH:H l=some (.lst xs)):xs.length<=sizeLine /\ ∃(its:List Value) (n:Nat),Vals xs its/\xs.length=its.length/\s.heap.get? l=some { cls:=.type "list",data:=.seq its.toArray n }:=by
 obtain⟨z,its,n,r,e⟩:=I.hok l _ hH
 exact⟨z,its,n,r,r.length,e⟩
theorem ZqC{n:Nat}(h:n<=sizeLine):Builtin.List.listTooLong n=false:=by
 unfold Builtin.List.listTooLong
 exact decide_eq_false (by omega)
end
section
variable{X:Cx}
def ZgH:V->List V->Hp->VK->Prop:=fun x vs H Q=>∃l xs y,x=.ref l/\vs=[y]/\H l=some (.lst xs)/\xs.length<sizeLine/\Q .non (upd H l (.lst (xs++[y])))
theorem ZjP:MtM X "list.append" ZgH:=by
 intro pins s σ H x vs v us Q I rx rv h
 obtain⟨l,xs,y,rfl,rfl,hH,hz,q⟩:=h
 cases rx
 obtain⟨u,rfl,ru⟩:=rv.one
 obtain⟨z,its,n,r,hl,e⟩:=I.lstM hH
 refine call_meets F.slot_list_append ⟨_,e,rfl⟩ F.entry_list_append (F.args_list_append_2 _ _) (PySem.list_append l its.toArray n u (by rw[List.size_toArray];omega)) ⟨e,?_⟩
 refine⟨.non,_,I.lset (its':=its++[u]) hH e (by simp) (r.append (.cons ru .nil)) ?_,rfl,q⟩
 rw[List.length_append,List.length_singleton]
 omega
def rCat:R2:=fun x y H Q=>∃l b xs zs,x=.ref l/\y=.ref b/\H l=some (.lst xs)/\H b=some (.lst zs)/\xs.length+zs.length<=sizeLine /\ ∀p,H p=none->Q (.ref p) (upd H p (.lst (xs++zs)))
theorem Zhm:OpR X (binaryOp .Add) rCat:=by
 intro pins s σ H x y v u Q I rx ry h
 obtain⟨l,b,xs,zs,rfl,rfl,hH,hB,hz,q⟩:=h
 cases rx
 cases ry
 obtain⟨z,its,n,r,hl,e⟩:=I.lstM hH
 obtain⟨z2,its2,n2,r2,hl2,e2⟩:=I.lstM hB
 refine PySem.P.add_list e e2 ?_ (by rw[List.size_toArray,List.size_toArray];omega)
 have ea:its.toArray++its2.toArray=(its++its2).toArray:=by simp
 rw[ea]
 exact⟨.ref _,_,I.lnew (t':=s.toks) (r.append r2) (by rw[List.length_append];omega),rfl,q _ I.fresh⟩
end
section
variable{prog:Program}{w:World}{A:Around}{E:Value->Shared->Prop}{s:Shared}
set_option maxRecDepth 100000 in
end
section
variable{X:Cx}
end
end L2
namespace Att
open PySem PySem.W PySem.Calls PyProof.Rows
theorem ZfO{P:Params}{h:Heap}:∀(ns:List Int) (vs:List Value),WellAll P h vs (ns.map WData.int)->IntsAre vs ns:=by
 intro ns
 induction ns with
 | nil=>
  intro vs w
  rw[List.map_nil] at w
  cases w
  exact .nil
 | cons n ns ih=>
  intro vs w
  rw[List.map_cons] at w
  cases w with
  | cons a b=>
   cases a
   exact .cons _ _ (ih _ b)
theorem ZjQ{l:OpenLaw}{n:Nat}(hn:l.most=some n){P:Params}{h:Heap}{args:List WData}{vals:List Value}
 (hpre:l.row.toRowW.claim.pre args=true) (hwl:WellAll P h vals args) :
 ∃a vs ns,vals=[Value.ref a]/\args=[WData.list (ns.map WData.int)]/\h.get? a=some { cls:=.type "list",data:=.seq vs.toArray }/\IntsAre vs ns/\ns.length<=n:=by
 have hsh:WShape.hasAll [] args [.list .int]=true:=(pre_splitW hpre).1
 have hc:l.pre.holds [] { args:=args }=true:=(pre_splitW hpre).2
 obtain⟨d,r,rfl,h1,h2⟩:=hasAllW_cons hsh
 obtain rfl:=hasAllW_nil h2
 obtain⟨xs,rfl,h3⟩:=hasW_list h1
 obtain⟨ns,rfl⟩:=items_int h3
 have hlen:ns.length<=n:=by
  unfold OpenLaw.pre at hc
  have h4:(WTm.not (.lt (.lit (.int (n:Int))) (.len (.arg 0)))).holds [] { args:=[.list (ns.map .int)] }=true:=by
   have h4:=(holds_andW hc).1
   rw[hn] at h4
   exact h4
  have h5:=condW_of h4 (w_not (w_lt w_lit (w_len_list (w_arg rfl))))
  rw[List.length_map] at h5
  refine Nat.le_of_not_lt fun q=>?_
  have q':(n:Int)<((ns.length:Nat):Int):=by omega
  first
   | (rw[decide_eq_true q'] at h5;exact absurd h5 (by decide))
   | (simp at h5;omega)
 cases hwl with
 | cons w1 w2=>
  cases w2
  cases w1 with
  | list ho hall=>exact⟨_,_,ns,rfl,rfl,ho,ZfO ns _ hall,hlen⟩
theorem ZjR(l:OpenLaw)(args:List WData):l.row.toRowW.claim.post args (.bool true) args=true:=
 postW_of (r:=l.row.toRowW) (X:=(true == true))
  (show WShape.has [] (.bool true) .bool=true by first | rfl | decide | simp[WShape.has,WShape.arms,WShape.armsAll])
  (show(WTm.eq .res (.lit (.bool true))).value [] { args:=args,res:=some (.bool true),after:=args }=some (.bool (true == true)) from w_eq_bool (w_res rfl) w_lit) rfl
theorem attach_call{l:OpenLaw}{n:Nat}{q:Program}{loose:List Str}{XP:(Str->Option Value)->Heap->Prop}{YP:World->Heap->Prop}{d:DefRec}
 (hn:l.most=some n) (hdf:d.params.defaults=[])
 (call:∀(w:World) (s₀ s₁:Shared) (mg mb:Str->Option Value) (fa:Addr) (o:Obj) (pm cd doc:Value) (a:Addr) (vs:List Value) (ns:List Int),
   Ground q loose [] XP w s₀ mg mb s₁.heap->YP w s₁.heap ->
   s₁.heap.get? fa=some o->o.data=.func (docDef d.name d.params d.body d.scope pm cd doc)->s₁.heap.CodeRec cd d.name->mg d.name=some (.ref fa) ->
   s₁.heap.get? a=some { cls:=.type "list",data:=.seq vs.toArray }->IntsAre vs ns->ns.length<=n->s₁.gens=#[] ->
   codeAny (model l.prog w) callerA (.call (.ref fa) ⟨[.ref a],[]⟩) (fun r s'=>r=.ok (.ret (.bool true))/\OldK s₁.heap s'.heap/\s'.os=s₁.os/\AllBare s'.gens) s₁) :
 WalkO q loose XP YP l.row.toRowW d [] (fun f vs=>PySem.call f vs):=by
 intro w s₀ s₁ mg mb G Y fa o pm cd doc dV kV ho hd hcd hD hmg hg args vals as hpre hlay hrd hwl hlo
 obtain rfl:dV=.none:=Dflts.none hD hdf
 obtain rfl:kV=.none:=Dflts.noKw hD
 obtain⟨a,vs,ns,rfl,rfl,hobj,hints,hlen⟩:=ZjQ hn hpre hwl
 refine enter_call (codeAny_mono (call w s₀ s₁ mg mb fa o pm cd doc a vs ns G Y ho (fd_plain hd) hcd hmg hobj hints hlen hg) fun r s' hq=>?_)
 obtain⟨rfl,h2,h3,h4⟩:=hq
 exact⟨.inl ⟨.bool true,.bool true,[],rfl,fun _=>rfl,.bool true,ZjR l _,fun _=>⟨List.Pairwise.nil,fun _ hm=>(nomatch hm)⟩⟩,h2,h3,h4⟩
section
variable{prog:Program}{w:World}{A:Around}{E:Value->Shared->Prop}{s:Shared}{K:Frag}
def Zrd(h:Heap)(L d:Addr):List (Addr×Obj):=(List.range h.objs.size).filterMap fun a=>if a=L\/a=d then none else(h.get? a).map fun o=>(a,o)
end
end Att
namespace L2
open PySem PySem.Spec PyProof.Rows
theorem Zhn:∀{vs:List Value}{ns:List Int},IntsAre vs ns->Vals (ns.map V.int) vs
 | _,_,.nil=>.nil
 | _,_,.cons n t h=>.cons ⟨t,rfl⟩ (Zhn h)
def Only(H:Hp):Prop:=∀b,H b=none \/ ∃o xs,H b=some (.frz o (.lst xs))
theorem ZlJ{P:Program}{w:World}{K:PySem.W.Frag}{mg mb:Str->Option Value}{CX:CXT}{k:Nat}{fa a:Addr}{fd:FuncData}{x:Str}{sp:Sp}{s₁:Shared}{vs:List Value}{ns:List Int}
 (KX:K.In s₁.heap) (hns:s₁.heap.Ns mainGlobals mg) (hb:s₁.heap.Ns builtinsNs mb) (hbb:∀x:Str,x≠"__name__"->mb x=bootBuiltins x) (hlim:s₁.heap.NoLimit) (hg:s₁.gens=#[])
 (ha:s₁.heap.get? a=some { cls:=.type "list",data:=.seq vs.toArray }) (hi:IntsAre vs ns) (hl:ns.length<=sizeLine) (hr:Room k callerA)
 (F:∀base:Heap,K.In base->base.Ns mainGlobals mg->FnOk P w K mg base CX k fa fd [x] sp) (hbind:∀(s:Shared) (u:Value),BindsTo s fd ⟨[u],[]⟩ [(x,u)])
 (hsp:∀H:Hp,Only H->SqL K H a (ns.map V.int)->sp [.ref a] H (fun v _=>v=.bl true) fun _ _ _=>False)
 (hCX:∀H e s',CX [] H s₁ (fun _ _ _=>False) e s'->False) :
 codeAny (model P w) callerA (.call (.ref fa) ⟨[.ref a],[]⟩) (fun r s'=>r=.ok (.ret (.bool true))/\OldK s₁.heap s'.heap/\s'.os=s₁.os/\AllBare s'.gens) s₁:=by
 have rv:=Zhn hi
 have lenV:=hi.length
 -- from an abstract heap in which nothing but the script may be tracked
 have core:∀H:Hp,Only H->SqL K H a (ns.map V.int)->HOk P w H s₁.heap->(∀b,H b≠none->b=a)->(H a≠none->K.lookup a=none) ->
  codeAny (model P w) callerA (.call (.ref fa) ⟨[.ref a],[]⟩) (fun r s'=>r=.ok (.ret (.bool true))/\OldK s₁.heap s'.heap/\s'.os=s₁.os/\AllBare s'.gens) s₁:=by
  intro H hO hS hok hA hK
  have base_of:∀{b:Addr}{o:Obj},s₁.heap.get? b=some o->H b=none->(hidT s₁.heap H).get? b=some o:=fun e n=>Zlu e n
  have noA:∀{b:Addr}{o:Obj}{es:Array DictEntry}{ep:Nat},s₁.heap.get? b=some o->o.data=.dict es ep->H b=none:=fun {b o es ep} e d=>by
   cases q:H b with
   | none=>rfl
   | some u=>
    have e':b=a:=hA b (by rw[q];simp)
    subst e'
    rw[ha] at e;cases e
    have d':Data.seq vs.toArray _=Data.dict es ep:=d
    cases d'
  have nsK:∀{b:Addr}{m:Str->Option Value},s₁.heap.Ns b m->(hidT s₁.heap H).Ns b m:=fun {b m} ⟨o,es,ep,e,d,r⟩=>⟨o,es,ep,base_of e (noA e d),d,r⟩
  have hKb:K.In (hidT s₁.heap H):=fun b o e=>base_of (KX b o e) (by
   cases q:H b with
   | none=>rfl
   | some u=>
    have e':b=a:=hA b (by rw[q];simp)
    subst e'
    rw[hK (by rw[q];simp)] at e;cases e)
  have hM:Mod K mg (hidT s₁.heap H):=⟨hKb,nsK hns,⟨mb,nsK hb,hbb⟩,let ⟨mc,h1,h2⟩:=hlim;⟨mc,nsK h1,h2⟩⟩
  have e0:Env0 P w K mg (hidT s₁.heap H) callerA [] s₁ H:=⟨rfl,hM,fun b o e=>Znl e,Nat.le_of_eq (Zjv _ _),trivial,fun b hb=>absurd (show b∈([]:List Addr) from hb) (by simp),hok,.of_eq hg⟩
  refine codeAny_mono ((F _ hKb (nsK hns)).run callerA [] s₁ H ⟨[.ref a],[]⟩ [.ref a] [.ref a] _ _ hr e0 (hbind s₁ (.ref a)) (.cons rfl .nil) (hsp H hO hS)) fun r s' h=>?_
  cases r with
  | error e=>exact(hCX H e s' h).elim
  | ok fl=>
   cases fl with
   | next=>exact False.elim h
   | brk=>exact False.elim h
   | cont=>exact False.elim h
   | ret u=>
    obtain⟨v,H',os,bare,un,hok',r',q⟩:=h
    have q':v=.bl true:=q
    subst q'
    obtain rfl:u=Value.bool true:=r'
    refine⟨rfl,OldK.of_keep fun b o e=>?_,os,bare⟩
    cases q:H b with
    | none=>exact un.keep b o e q (by intro z;exact absurd (show b∈([]:List Addr) from z) (by simp)) (by simp)
    | some u=>
     rcases hO b with z | ⟨ob,xs,z⟩
     · rw[q] at z;cases z
     · have z2:=un.frzs b ob _ z
       obtain⟨e1,_⟩:=hok b _ z
       obtain⟨e2,_⟩:=hok' b _ z2
       rw[e] at e1;cases e1
       exact e2
 cases hk:K.lookup a with
 | some o=>
  -- the script is one of the module's own objects
  have e:=KX a o hk
  rw[ha] at e
  cases e
  refine core (fun _=>none) (fun _=>.inl rfl) (.inr ⟨_,vs.toArray,_,hk,rfl,rfl,rfl,by rw[List.size_toArray,lenV];exact hl,by simpa using rv⟩) (fun b u z=>by have z':(none:Option HO)=some u:=z;cases z') (fun b z=>absurd rfl z) fun z=>absurd rfl z
 | none=>
  refine core (fun b=>if b=a then some (.frz { cls:=.type "list",data:=.seq vs.toArray } (.lst (ns.map V.int))) else none) (fun b=>?_) (.inl (.inr ⟨{ cls:=.type "list",data:=.seq vs.toArray },if_pos rfl⟩)) (fun b u z=>?_) (fun b z=>?_) fun _=>hk
  · by_cases hb:b=a
    · exact .inr ⟨_,_,if_pos hb⟩
    · exact .inl (if_neg hb)
  · by_cases hb:b=a
    · have z':=(if_pos hb).symm.trans z
      cases z'
      subst hb
      exact⟨ha,by rw[List.length_map];exact hl,vs,_,rv,ha⟩
    · have z':=(if_neg hb).symm.trans z
      cases z'
  · by_cases hb:b=a
    · exact hb
    · exact absurd (if_neg hb) z
end L2
namespace L2
open PySem PySem.Spec PyProof.Rows
abbrev KOf{K:PySem.W.Frag}{h:Heap}(_:K.In h):PySem.W.Frag:=K
theorem walk_of{l:PySem.W.OpenLaw}{n k:Nat}{q:Program}{loose:List Str}{XP:(Str->Option Value)->Heap->Prop}{YP:World->Heap->Prop}{d:DefRec}{K:Params->PySem.W.Frag}{CX:World->CXT}{sp:World->Sp}{x:Str}
 (hn:l.most=some n) (hn2:n<=sizeLine) (hdf:d.params.defaults=[]) (hr:Room k callerA)
 (hY:∀(w:World) (h:Heap),YP w h->(K w.params).In h)
 (F:∀(w:World) (mg:Str->Option Value) (fa:Addr) (h:Heap),(K w.params).In h->h.Ns mainGlobals mg->mg d.name=some (.ref fa) ->
   ∃fd:FuncData,(∀(s:Shared) (u:Value),BindsTo s fd ⟨[u],[]⟩ [(x,u)]) /\
    ∀base:Heap,(K w.params).In base->base.Ns mainGlobals mg->FnOk l.prog w (K w.params) mg base (CX w) k fa fd [x] (sp w))
 (hsp:∀(w:World) (H:Hp) (a:Addr) (ns:List Int),ns.length<=n->Only H->SqL (K w.params) H a (ns.map V.int)->sp w [.ref a] H (fun v _=>v=.bl true) fun _ _ _=>False)
 (hCX:∀(w:World) (H:Hp) (s:Shared) (e:Value) (s':Shared),CX w [] H s (fun _ _ _=>False) e s'->False) :
 PySem.W.WalkO q loose XP YP l.row.toRowW d [] (fun f vs=>PySem.call f vs):=by
 refine Att.attach_call hn hdf fun w s₀ s₁ mg mb fa o pm cd doc a vs ns G Y ho hd hcd hmg hobj hints hlen hg=>?_
 have KX:=hY w _ Y
 obtain⟨fd,hb,hF⟩:=F w mg fa _ KX G.T.g hmg
 exact ZlJ KX G.T.g G.T.b G.T.builtins G.T.nolimit hg hobj hints (Nat.le_trans hlen hn2) hr hF hb (fun H hO hS=>hsp w H a ns hlen hO hS) fun H e s'=>hCX w H s₁ e s'
end L2
/- THE LAST THEOREM (shape; LID, My.* are yours):
 My.Adr: a structure of the addresses that your layer names (classes, functions); My.Txt K t: a structure (Prop) of the equations over K;
 My.txt_mk : {K} {implicit addresses ..} (e1 : nsIn K mainGlobals "law" = some (some (.ref f))) (e2 : K.lookup f = some ⟨oc, od, .func (fnOf "law" "law" params body scope dV kV doc pm an cdv ct), sl⟩) (e3 : codeIn K cdv "law" = true) .. : ∃ t, My.Txt K t
set_option maxRecDepth 100000 in
set_option maxHeartbeats 0 in
theorem PySem.Challenge.cw_LID_holds : PySem.Challenge.rw_LID.Holds := by
 w_on; o_law; k_head; (case hw => w_witness2)
 k_fill
 refine L2.walk_of (l := PySem.Challenge.rw_LID) (n := 63) (k := 40) (x := "script") (CX := fun w => ..) (sp := fun _ => My.sp_law) rfl (by decide) rfl ⟨rfl, by decide, by decide⟩ (fun w h Y => PySem.W.kIn_of Y) ?F ?S ?C
 case F =>
  intro w mg fa h KX G hmg
  have T : ∃ t, My.Txt (L2.KOf KX) t := by
   dsimp only [L2.KOf]                          -- K must stand as «<heap const> w.params» for k_is
   refine' My.txt_mk ?e1 ?e2 ?e3 ..
   (case e1 => PySem.W.k_is)                    -- in the order: a name -> its address -> its object -> its parts
   (case e2 => PySem.W.k_is)
   ..
  obtain ⟨t, T⟩ := T
  have e0 := hmg.symm.trans (PySem.W.mg_of KX G T.law)
  cases e0                                       -- fa is the law's own address
  exact ⟨_, fun s u => .of_eq rfl, fun base kb nb => My.law_fn T kb nb⟩     -- if «.of_eq rfl» comes too early: refine' ⟨_, ?b, fun base kb nb => My.law_fn T kb nb⟩; exact fun s u => .of_eq rfl
 case S => exact fun w H a ns hl hO hS => ..
 case C => exact ..
(the tactic k_is has no namespace: write k_is) -/
namespace L2
open PySem PySem.Spec PyProof.Rows
def ZcE(s:Stmt)(j:Nat):Stmt:=match s with
 | .ClassDef _ _ _ body _ _ _ _ _ _ _=>body.getD j (.Pass ⟨0,0,0,0⟩)
 | _=>.Pass ⟨0,0,0,0⟩
def ZdV(s:Stmt):Arguments:=match s with
 | .FunctionDef _ a _ _ _ _ _ _ _ _=>a
 | _=>{ posonlyargs:=[],args:=[],vararg:=none,kwonlyargs:=[],kw_defaults:=[],kwarg:=none,defaults:=[] }
def ZbT(s:Stmt):List Stmt:=match s with
 | .FunctionDef _ _ b _ _ _ _ _ _ _=>b
 | _=>[]
def Zal(s:Stmt):Scope:=match s with
 | .FunctionDef _ _ _ _ _ _ sc _ _ _=>sc
 | _=>{ kind:=.function,names:=[],isGenerator:=false,isCoroutine:=false }
abbrev CX0:CXT:=fun _ _ _ _ _ _=>False
abbrev E0:XK:=fun _ _ _=>False
structure Fun(K:PySem.W.Frag)(x qual:Str)(st:Stmt)(f:Addr)(fd:FuncData):Prop where
 ex:∃(oc:Value) (od:Option Addr) (kV doc pm:Value) (an:Option Addr) (cdv ct:Value) (osl:Array (Option Value)),
  fd=PySem.W.fnOf x qual (ZdV st) (ZbT st) (Zal st) .none kV doc pm an cdv ct/\K.lookup f=some ⟨oc,od,.func fd,osl⟩/\PySem.W.codeIn K cdv qual=true
 kp:PySem.W.keepIn K (.ref f)=true
section
variable{P:Program}{w:World}{K:PySem.W.Frag}{mg:Str->Option Value}{base:Heap}
theorem Fun.ok{x qual:Str}{st:Stmt}{f:Addr}{fd:FuncData}{N ps:List Str}{k:Nat}{sp:Sp}(F:Fun K x qual st f fd)(S:FnScope N ps (Zal st))(len:∀vs H Q E,sp vs H Q E->vs.length=ps.length)
 (hbody:∀(cdv:Value) (A:Around) (outer:List Env) (s:Shared) (H:Hp) (vs:List V) (Q:VK) (E:XK),Room k (A.deeper (envOfC qual (Zal st) s.heap.objs.size f cdv))->sp vs H Q E ->
   ∃t,PSs (cxOf CX0 P w K mg base N qual (Zal st) f cdv A outer s H E).nox (ZbT st) t/\t { nx:=fun _ H'=>Q .non H',rt:=Q } (start N vs) H):FnOk P w K mg base CX0 (k+1) f fd ps sp:=by
 obtain⟨oc,od,kV,doc,pm,an,cdv,ct,osl,rfl,lk,hcd⟩:=F.ex
 refine ZnB lk hcd S len fun A outer s H vs Q E hr hsp=>?_
 obtain⟨t,h,q⟩:=hbody cdv A outer s H vs Q E hr hsp
 exact⟨t,h.nox,q⟩
theorem Fun.binds{x qual:Str}{st:Stmt}{f:Addr}{fd:FuncData}{ps:List Str}(F:Fun K x qual st f fd)
 (h:∀(kV doc pm:Value) (an:Option Addr) (cdv ct:Value) (us:List Value),us.length=ps.length->bindArgs (PySem.W.fnOf x qual (ZdV st) (ZbT st) (Zal st) .none kV doc pm an cdv ct) ⟨us,[]⟩=pure (ps.zip us)):Binds K fd ps []:=by
 obtain⟨oc,od,kV,doc,pm,an,cdv,ct,osl,rfl,lk,hcd⟩:=F.ex
 exact .all (h kV doc pm an cdv ct)
theorem ZmE{x qual:Str}{st:Stmt}{f:Addr}{oc:Value}{od an:Option Addr}{osl:Array (Option Value)}{kV doc pm cdv ct:Value}(l:K.lookup f=some ⟨oc,od,.func (PySem.W.fnOf x qual (ZdV st) (ZbT st) (Zal st) .none kV doc pm an cdv ct),osl⟩)
 (c:PySem.W.codeIn K cdv qual=true) (k:PySem.W.keepIn K (.ref f)=true):Fun K x qual st f (PySem.W.fnOf x qual (ZdV st) (ZbT st) (Zal st) .none kV doc pm an cdv ct):=⟨⟨oc,od,kV,doc,pm,an,cdv,ct,osl,rfl,l,c⟩,k⟩
end
theorem Zho{A:Around}{k:Nat}(hr:Room k A):A.units+1<cLine:=Nat.lt_of_le_of_lt (Nat.add_le_add_left (by decide:1<=64) _) hr.units
theorem Zhp{n:Nat}(h:n<=1000):n<sizeLine:=Nat.lt_of_le_of_lt h (by decide)
section
variable{X:Cx}
end
def Same(H H':Hp):Prop:=∀b o,H b=some o->H' b=some o
theorem Same.refl(H:Hp):Same H H:=fun _ _ h=>h
theorem Same.trans{H H1 H2:Hp}(a:Same H H1)(b:Same H1 H2):Same H H2:=fun c o h=>b c o (a c o h)
theorem Same.free{H H':Hp}(e:Same H H'){l:Addr}(h:H' l=Option.none):H l=Option.none:=by
 cases q:H l with
 | none=>rfl
 | some o=>
  rw[e l o q] at h
  cases h
theorem Same.seq{K:PySem.W.Frag}{H H':Hp}{a:Addr}{xs:List V}(e:Same H H')(h:SqL K H a xs):SqL K H' a xs:=by
 rcases h with(h | ⟨o,h⟩) | h
 · exact .inl (.inl (e _ _ h))
 · exact .inl (.inr ⟨o,e _ _ h⟩)
 · exact .inr h
end L2
set_option maxHeartbeats 4000000
namespace L2
open PySem PySem.Spec PyProof.Rows
section
variable{X:Cx}
theorem Zh2:ZcD X (.builtin "isinstance") (fun xs H Q=>∃x c t b,xs=[x,.ty c]/\TyOf X.K H x t/\PySem.W.kitOne X.K t (.type c)=some b/\Q (.bl b) H):=by
 intro pins s σ H xs us Q I r h
 obtain⟨x,c,t,b,rfl,ty,e,q⟩:=h
 obtain⟨u1,u2,rfl,r1,r2⟩:=ZlA r
 cases(show u2=Value.type c from r2)
 exact ZjH I r1 ty e fun tk=>⟨.bl b,H,I.tok tk,rfl,q⟩
end
def Itz(K:PySem.W.Frag)(a b:Addr):It:=
 ⟨fun i H=>∃xs ys x y,SqL K H a xs/\SqL K H b ys/\xs[i]? = some x/\ys[i]? = some y,
  fun i H v H'=>∃T x y,H T=none/\v=.ref T/\H'=upd H T (.tup [x,y])/\(∀xs,SqL K H a xs->xs[i]? = some x)/\(∀ys,SqL K H b ys->ys[i]? = some y),
  fun i H=>∃xs ys,SqL K H a xs/\SqL K H b ys/\(xs.length<=i\/ys.length<=i)⟩
def ZipSt(a b z TI TO i1 i2:Addr)(i:Nat)(h:Heap):Prop:=
 IsZip h z TI TO .none/\IsPair h TI (.ref i1) (.ref i2)/\(∃x y,IsPair h TO x y)/\h.IsListIter i1 a i/\h.IsListIter i2 b i
theorem ZjS{h:Heap}{a b:Addr}{o u:Obj}(h1:h.get? a=some o)(h2:h.get? b=some u)(d:o.cls≠u.cls):a≠b:=by
 rintro rfl;rw[h1] at h2;cases h2;exact d rfl
theorem ZipSt.apart{a b z TI TO i1 i2:Addr}{i:Nat}{h:Heap}{xs ys:Array Value}(st:ZipSt a b z TI TO i1 i2 i h)(n1:TI≠TO)(n2:i1≠i2)(l1:h.IsList a xs)(l2:h.IsList b ys):ZipApart z TI TO i1 i2 a b:=by
 obtain⟨hz,hTI,⟨x,y,hTO⟩,⟨o1,e1,c1,d1⟩,⟨o2,e2,c2,d2⟩⟩:=st
 obtain⟨oa,ea,ca,_⟩:=l1
 obtain⟨ob,eb,cb,_⟩:=l2
 have k:∀{c d:Addr}{o u:Obj}{m n:String},h.get? c=some o->h.get? d=some u->o.cls=.type m->u.cls=.type n->m≠n->c≠d:=fun h1 h2 e1 e2 d=>ZjS h1 h2 (by rw[e1,e2];intro q;injection q with q;exact d q)
 exact⟨k hTI hz rfl rfl (by decide),k hTO hz rfl rfl (by decide),k e1 hz c1 rfl (by decide),k e2 hz c2 rfl (by decide),n1,k hTI e1 rfl c1 (by decide),k hTI e2 rfl c2 (by decide),
  k hTO e1 rfl c1 (by decide),k hTO e2 rfl c2 (by decide),n2,k ea hz ca rfl (by decide),k ea hTO ca rfl (by decide),k ea e1 ca c1 (by decide),k ea e2 ca c2 (by decide),
  k eb hz cb rfl (by decide),k eb hTO cb rfl (by decide),k eb e1 cb c1 (by decide),k eb e2 cb c2 (by decide)⟩
theorem Inv.turnedL{X:Cx}{pins:List (Addr×Obj)}{σ:St}{H:Hp}{s:Shared}{h':Heap}{t':Nat}{ch:List Addr}(I:Inv X pins σ H s)(k:∀b o,b∉ch->s.heap.get? b=some o->h'.get? b=some o)(hf:∀b∈ch,FpOk X pins H b) :
 Inv X pins σ H { s with heap:=h',toks:=t' }:=by
 have nit:∀b u,H b=some u->b∉ch:=fun b u e z=>by have:=(hf b z).1;rw[this] at e;cases e
 refine I.step (g':=s.gens) (d':=s.drawn) (ch:=ch) (fun b hb=>?_) (fun b o _ _ hc e _=>k b o hc e) (fun b o _ _ hc e _=>⟨o.slots,k b o hc e⟩) (fun _ _ _ _ n=>n)
  (fun b o hc e=>⟨o,k b o hc e⟩) (fun _ _ e=>e) (fun _ _ _ e=>e) (fun b ps e=>⟨#[],by rw[e];simp⟩) (fun m hm=>?_) (fun b u e=>?_) I.bare
 · obtain⟨f0,f1,f2,f3,f4,f5⟩:=hf b hb
   exact⟨f3,f1,f4,f5⟩
 · exact hm.at' fun o e=>k _ o (fun z=>(hf _ z).2.1 rfl) e
 · refine(I.hok b u e).stay (fun c v hc q=>k c v ?_ q) (fun _ q=>q) fun _ _ q=>q
   rcases hc with rfl | hc
   · exact nit _ _ e
   · exact nit _ _ hc
theorem ZlK{P:Program}{w:World}{K:PySem.W.Frag}{es:List Expr}{kk:Nat}{tp:Pos}(a b z TI TO i1 i2:Addr)(n1:TI≠TO)(n2:i1≠i2) :
 Turn P w K (.Tuple es kk tp) (Itz K a b) [z,TI,TO,i1,i2] z (ZipSt a b z TI TO i1 i2) where
 mem:=by simp
 obj:=fun i h st c hc=>by
  obtain⟨hz,hTI,⟨x,y,hTO⟩,⟨o1,e1,c1,d1⟩,⟨o2,e2,c2,d2⟩⟩:=st
  have:c=z\/c=TI\/c=TO\/c=i1\/c=i2:=by simpa using hc
  rcases this with rfl | rfl | rfl | rfl | rfl
  · exact⟨_,hz,fun v q=>by cases(show Data.fields _=Data.cell v from q)⟩
  · exact⟨_,hTI,fun v q=>by cases(show Data.seq _ _=Data.cell v from q)⟩
  · exact⟨_,hTO,fun v q=>by cases(show Data.seq _ _=Data.cell v from q)⟩
  · exact⟨_,e1,fun v q=>by rw[d1] at q;cases q⟩
  · exact⟨_,e2,fun v q=>by rw[d2] at q;cases q⟩
 keep:=fun i h h' st k=>by
  obtain⟨hz,hTI,⟨x,y,hTO⟩,h1,h2⟩:=st
  exact⟨k z (by simp) _ hz,k TI (by simp) _ hTI,⟨x,y,k TO (by simp) _ hTO⟩,h1.at fun o e=>k i1 (by simp) o e,h2.at fun o e=>k i2 (by simp) o e⟩
 item:=by
  intro X hP hw hK hc i pins s σ H E I hf st hg
  subst hP hw hK
  obtain⟨xs,ys,x,y,hq,hq2,hx,hy⟩:=hg
  obtain⟨its,rv,p,hz1⟩:=I.list hq
  obtain⟨its2,rv2,p2,hz2⟩:=I.list hq2
  obtain⟨u,hu,ru⟩:=rv.get hx
  obtain⟨u2,hu2,ru2⟩:=rv2.get hy
  have D:=st.apart n1 n2 p.isList p2.isList
  obtain⟨hz,hTI,⟨v1,v2,hTO⟩,h1,h2⟩:=id st
  refine wpAny_pyNext_zip_item D hz hTI hTO h1 h2 p.isList p2.isList (x:=u) (y:=u2) (by simpa using hu) (by simpa using hu2) fun h' a1 a2 a3 a4 a5 a6 a7=>?_
  refine⟨_,rfl,wpAny_letOwnedTupleGo_zip a1 fun h'' b1 b2=>?_⟩
  have up:∀c o,c≠z->h'.get? c=some o->h''.get? c=some o:=fun c o hc e=>b2.extBut c o hc e
  have zlt:z<s.heap.objs.size:=Heap.lt_size hz
  have TIs:IsPair h'' TI (.ref i1) (.ref i2):=up _ _ D.TIz (a7 _ _ D.TIz D.TITO D.TIi1 D.TIi2 hTI)
  have TOs:IsPair h'' TO u u2:=up _ _ D.TOz a2
  have I1s:h''.IsListIter i1 a (i+1):=a3.at fun o e=>up _ o D.i1z e
  have I2s:h''.IsListIter i2 b (i+1):=a4.at fun o e=>up _ o D.i2z e
  have I1:Inv X pins σ H { s with heap:=h'' }:=by
   refine I.turnedL (t':=s.toks) (ch:=[z,TI,TO,i1,i2]) (fun c o hc e=>?_) hf
   have hc':c≠z/\c≠TI/\c≠TO/\c≠i1/\c≠i2:=by simpa using hc
   exact up c o hc'.1 (a7 c o hc'.1 hc'.2.2.1 hc'.2.2.2.1 hc'.2.2.2.2 e)
  have fresh:H s.heap.objs.size=none:=I.hok.fresh (Nat.le_refl _)
  have newT:h''.get? s.heap.objs.size=some _:=up _ _ (Nat.ne_of_gt zlt) a5
  have I2:Inv X pins σ (upd H s.heap.objs.size (.tup [x,y])) { s with heap:=h'' }:=by
   have un:Un X.fs [z,TI,TO,i1,i2] H (upd H s.heap.objs.size (.tup [x,y])) s.heap h'':=by
    refine⟨fun c o e n _ hx=>?_,fun c o e n _ hx=>⟨o.slots,?_⟩,fun c o e n _=>?_,fun c o e hx=>⟨o,?_⟩,fun c zs e=>?_,fun c o zs e=>?_,fun c ps e=>⟨#[],?_⟩⟩
    · have hc':c≠z/\c≠TI/\c≠TO/\c≠i1/\c≠i2:=by simpa using hx
      exact up c o hc'.1 (a7 c o hc'.1 hc'.2.2.1 hc'.2.2.2.1 hc'.2.2.2.2 e)
    · have hc':c≠z/\c≠TI/\c≠TO/\c≠i1/\c≠i2:=by simpa using hx
      exact up c o hc'.1 (a7 c o hc'.1 hc'.2.2.1 hc'.2.2.2.1 hc'.2.2.2.2 e)
    · rw[Zan (Nat.ne_of_lt (Heap.lt_size e))];exact n
    · have hc':c≠z/\c≠TI/\c≠TO/\c≠i1/\c≠i2:=by simpa using hx
      exact up c o hc'.1 (a7 c o hc'.1 hc'.2.2.1 hc'.2.2.2.1 hc'.2.2.2.2 e)
    · rw[Zan (Zak e fresh)];exact e
    · rw[Zan (Zak e fresh)];exact e
    · rw[Zan (Zak e fresh),e];simp
   have ok2:HOk X.prog X.w (upd H s.heap.objs.size (.tup [x,y])) h'':=fun c o e=>by
    by_cases hc:c=s.heap.objs.size
    · subst hc
      rw[ZaA] at e;cases e
      exact⟨by show 2<=sizeLine;decide,[u,u2],.cons ru (.cons ru2 .nil),⟨_,newT,rfl,_,rfl⟩⟩
    · rw[Zan hc] at e
      exact(I1.hok c o e).stay (fun _ _ _ q=>q) (fun d q=>by rw[Zan (Zak q fresh)];exact q) fun d zs q=>by rw[Zan (Zak q fresh)];exact q
   refine I.call' (s':={ s with heap:=h'' }) (ch:=[z,TI,TO,i1,i2]) rfl (un.mono (fun c hc=>?_) fun c hc=>hc) ok2 I.bare fun c hc=>?_
   · rcases I.ok.stk with e | ⟨e,hfr⟩
     · rw[e];exact hc
     · rw[e]
       unfold frs
       rw[List.filterMap_cons,hfr]
       exact List.mem_cons_of_mem _ hc
   · obtain⟨f0,f1,f2,f3,f4,f5⟩:=hf c hc
     exact⟨f3,f1,f4,f5⟩
  refine⟨.ref s.heap.objs.size,_,I2,rfl,⟨_,x,y,fresh,rfl,rfl,fun xs' h=>by rw[I.list_inj h hq];exact hx,fun ys' h=>by rw[I.list_inj h hq2];exact hy⟩,⟨b1,TIs,⟨_,_,TOs⟩,I1s,I2s⟩,fun c hc=>?_⟩
  rw[Zan ?_]
  · exact(hf c hc).1
  · have hc':c=z\/c=TI\/c=TO\/c=i1\/c=i2:=by simpa using hc
    rcases hc' with rfl | rfl | rfl | rfl | rfl
    · exact Nat.ne_of_lt zlt
    · exact Nat.ne_of_lt (Heap.lt_size hTI)
    · exact Nat.ne_of_lt (Heap.lt_size hTO)
    · obtain⟨o,e,_⟩:=h1;exact Nat.ne_of_lt (Heap.lt_size e)
    · obtain⟨o,e,_⟩:=h2;exact Nat.ne_of_lt (Heap.lt_size e)
 done:=by
  intro X hP hw hK hc i pins s σ H E I hf st hg
  subst hP hw hK
  obtain⟨xs,ys,hq,hq2,hx⟩:=hg
  obtain⟨its,rv,p,hz1⟩:=I.list hq
  obtain⟨its2,rv2,p2,hz2⟩:=I.list hq2
  have D:=st.apart n1 n2 p.isList p2.isList
  obtain⟨hz,hTI,⟨v1,v2,hTO⟩,h1,h2⟩:=id st
  have l1:=rv.length
  have l2:=rv2.length
  refine wpAny_pyNext_zip_end (I.ok.hd hc) D hz hTI hTO h1 h2 p.isList p2.isList ?_ fun h' hk=>⟨rfl,?_⟩
  · rcases hx with hx | hx
    · left;simp;omega
    · right;simp;omega
  · refine I.turnedL (t':=s.toks) (ch:=[z,TI,TO,i1,i2]) (fun c o hc e=>?_) hf
    have hc':c≠z/\c≠TI/\c≠TO/\c≠i1/\c≠i2:=by simpa using hc
    exact hk c o hc'.1 hc'.2.2.1 hc'.2.2.2.1 hc'.2.2.2.2 e
 self:=fun _ _ _ _ _ st h=>wpAny_pyIter_zip st.1 h
section
variable{X:Cx}{es:List Expr}{kk:Nat}{tp:Pos}
end
end L2
namespace L2
open PySem PySem.Spec PyProof.Rows
@[reducible] def blk(X:Cx)(scope:Scope)(cl:List (Str×Addr))(N:List Str)(C:Addr)(s₀:Shared)(H₀:Hp)(ex:List Addr):Cx where
 prog:=X.prog
 w:=X.w
 K:=X.K
 mg:=X.mg
 base:=X.base
 A:=X.A
 N:=N
 s₀:=s₀
 H₀:=H₀
 env:=compEnvC scope cl C X.env
 outer:=X.stack
 stack:=X.stack
 ex:=ex
 fn:=fun _=>false
 calm:=X.calm
 pn:=[]
 xe:=fun _ _=>False
inductive CapOk(X:Cx)(sc:Scope)(cl:List (Str×Addr)):List Str->List (Option Nat)->Prop
 | nil:CapOk X sc cl [] []
 | own {x:Str}{N:List Str}{caps:List (Option Nat)}:CapOk X sc cl N caps->CapOk X sc cl (x :: N) (none :: caps)
 | cap {x:Str}{N:List Str}{caps:List (Option Nat)}{j:Nat} (h1:X.N[j]? = some x) (h2:X.env.kindOf x=some .cell\/X.env.kindOf x=some .free)
  (h3:(relabel sc X.env).names.lookup x=some .cell\/(relabel sc X.env).names.lookup x=some .free) (h4:∃c,cl.lookup x=some c):CapOk X sc cl N caps->CapOk X sc cl (x :: N) (some j :: caps)
inductive ClOk(X:Cx):List (Str×Addr)->Prop
 | nil:ClOk X []
 | cons {x:Str}{c:Addr}{cl:List (Str×Addr)} (h:X.env.cells.lookup x=some c):ClOk X cl->ClOk X ((x,c) :: cl)
theorem ClOk.get{X:Cx}:∀{cl:List (Str×Addr)},ClOk X cl -> ∀x c,cl.lookup x=some c->X.env.cells.lookup x=some c
 | _,.nil,_,_,h=>by simp at h
 | _,.cons (x:=n) (c:=d) h r,x,c,e=>by
  rw[List.lookup_cons] at e
  cases q:x == n with
  | true=>
   rw[q] at e
   have e1:x=n:=eq_of_beq q
   have e2:d=c:=Option.some.inj e
   rw[e1,<- e2];exact h
  | false=>
   rw[q] at e
   exact ClOk.get r x c e
def capt(σ:St)(caps:List (Option Nat)):St:=caps.map fun o=>o.bind fun j=>(σ[j]?).join
theorem CapOk.len{X:Cx}{sc:Scope}{cl:List (Str×Addr)}{N:List Str}{caps:List (Option Nat)}(h:CapOk X sc cl N caps):caps.length=N.length:=by
 induction h with
 | nil=>rfl
 | own _ ih=>simp[ih]
 | cap _ _ _ _ _ ih=>simp[ih]
theorem CapOk.look{X:Cx}{sc:Scope}{cl:List (Str×Addr)}{N:List Str}{caps:List (Option Nat)}{σ:St}(h:CapOk X sc cl N caps):∀(i:Nat) (x:Str) (v:V),N[i]? = some x->(capt σ caps)[i]? = some (some v) ->
 ∃j:Nat,X.N[j]? = some x/\σ[j]? = some (some v)/\(X.env.kindOf x=some .cell\/X.env.kindOf x=some .free)/\((relabel sc X.env).names.lookup x=some .cell\/(relabel sc X.env).names.lookup x=some .free) /\ ∃c,cl.lookup x=some c:=by
 induction h with
 | nil=>intro i x v e;simp at e
 | own _ ih=>
  intro i x v e1 e2
  cases i with
  | zero=>
   have e2':(none:Option V)=some v:=by simpa[capt] using e2
   cases e2'
  | succ i=>exact ih i x v (by simpa using e1) (by simpa[capt] using e2)
 | @cap y N caps j h1 h2 h3 h4 _ ih=>
  intro i x v e1 e2
  cases i with
  | zero=>
   have e1':y=x:=by simpa using e1
   subst e1'
   have e2':(σ[j]?).join=some v:=by simpa[capt] using e2
   refine⟨j,h1,?_,h2,h3,h4⟩
   cases q:σ[j]? with
   | none=>rw[q] at e2';cases e2'
   | some o=>
    rw[q] at e2'
    have:o=some v:=e2'
    rw[this]
  | succ i=>exact ih i x v (by simpa using e1) (by simpa[capt] using e2)
section
variable{X:Cx}{pins:List (Addr×Obj)}{σ:St}{H:Hp}{s:Shared}{scope:Scope}{cl:List (Str×Addr)}{N:List Str}{caps:List (Option Nat)}{ex:List Addr}
theorem Inv.block{h1:Heap}{tk:Nat}(I:Inv X pins σ H s)(hkind:scope.kind=.function)(hcap:CapOk X scope cl N caps)(hcl:ClOk X cl)(hhas:∀x,((relabel scope X.env).names.lookup x=some .cell\/(relabel scope X.env).names.lookup x=some .free) -> ∃c,cl.lookup x=some c)
 (hex:∀b∈ex,FpOk X pins H b/\b<s.heap.objs.size)
 (hns:∃m,h1.Ns s.heap.objs.size m) (hk:∀b o,s.heap.get? b=some o->h1.get? b=some o) (hsz:s.heap.objs.size<h1.objs.size) :
 Inv (blk X scope cl N s.heap.objs.size s H ex) [] (capt σ caps) H { s with heap:=h1,toks:=tk }:=by
 have exfs:∀b∈ex,b∉frs X.stack:=fun b hb z=>by
  obtain⟨⟨f0,f1,f2,f3,f4,f5⟩,_⟩:=hex b hb
  rcases List.mem_cons.mp (I.stkSub b z) with e | e
  · exact f1 e
  · exact f2 e
 have ok:(blk X scope cl N s.heap.objs.size s H ex).Ok:=by
  refine⟨I.ok.mod,hkind,I.ok.glob,I.ok.blt,Nat.le_refl _,fun x y c e1 e2=>I.ok.inj x y c (hcl.get x c e1) (hcl.get y c e2),fun x hx=>hhas x hx,fun x c hx=>(by cases hx),I.ok.hd,I.ok.frames,.inl rfl,
   fun b hb=>?_,I.bs,Nat.le_trans I.ok.bsz I.sz,fun b o e hb=>?_,exfs,I.stack,I.stkFree⟩
  · obtain⟨⟨f0,f1,f2,f3,f4,f5⟩,hlt⟩:=hex b hb
    exact⟨Nat.ne_of_lt hlt,fun x c e=>f4 x c (hcl.get x c e)⟩
  · obtain⟨⟨f0,f1,f2,f3,f4,f5⟩,hlt⟩:=hex b hb
    rcases f3 with f3 | f3
    · exact I.ok.noex b o e f3
    · exact absurd (Nat.lt_of_lt_of_le (Heap.lt_size e) (Nat.le_trans I.ok.bsz f3)) (Nat.lt_irrefl _)
 obtain⟨m1,hm1⟩:=hns
 obtain⟨m,hn,hl⟩:=I.loc
 refine⟨ok,rfl,I.bare,Un.kept hk,⟨m1,hm1,fun i x v e1 e2 e3=>?_⟩,fun x c e=>?_,I.hok.fresh (Nat.le_refl _),fun x c e=>I.freeC x c (hcl.get x c e),fun p hp=>?_,I.hok.kept hk,?_⟩
 · obtain⟨j,q1,q2,q3,q4,c,q5⟩:=hcap.look i x v e1 e2
   have vis:Vis X.env.scope x:=q3.elim (fun z=>.inr (.inl z)) fun z=>.inr (.inr z)
   obtain⟨u,r,l⟩:=hl j x v q1 q2 vis
   refine⟨u,r,.inr ⟨q4,c,q5,?_⟩⟩
   rcases l with⟨k1,_⟩ | ⟨_,c',k2,k3⟩
   · rcases q3 with q3 | q3<;>· rw[q3] at k1;cases k1
   · rw[hcl.get x c q5] at k2
     cases k2
     obtain⟨o,k4,k5⟩:=k3
     exact⟨o,hk _ _ k4,k5⟩
 · obtain⟨v,o,k4,k5⟩:=I.cell x c (hcl.get x c e)
   exact⟨v,o,hk _ _ k4,k5⟩
 · exact absurd (show p∈([]:List (Addr×Obj)) from hp) (by simp)
 · show(capt σ caps).length=N.length
   unfold capt
   rw[List.length_map,hcap.len]
end
def PIfs(Y:Cx)(ifs:List Expr)(t:TT):Prop:=
 ∀(pins:List (Addr×Obj)) (s:Shared) (σ:St) (H:Hp) (Q:Bool->Hp->Prop),Inv Y pins σ H s->t σ H Q ->
  wpAny (model Y.prog Y.w) Y.A (forIn ifs true fun c r=>if r=true then do let ok <- isTrue c Y.env (eval c Y.env);pure (ForInStep.yield ok) else pure (ForInStep.yield r)) (TP Y pins σ Q) Y.xe s
def ZnI:TT:=fun _ H Q=>Q true H
theorem ZbU{Y:Cx}:PIfs Y [] ZnI:=fun _ _ _ H _ I h=>wpAny_tests_nil ⟨H,I,h⟩
theorem Zep{Y:Cx}{c:Expr}{t:TT}(h:PT Y c t):PIfs Y [c] t:=fun pins s σ H Q I hw=>wpAny_tests_one (h pins s σ H Q I hw)
def Zhq(wi:TI)(caps:List (Option Nat))(g:TG)(tt:TT)(te:TE):TE:=fun σ H Q=>wi σ H fun J H1=>∃W:Nat->Nat->St->Hp->List V->Prop,(∃m,W 0 m (capt σ caps) H1 []) /\ ∀i m σ' H' ys,W i m σ' H' ys ->
 (J.stop i H'/\ys.length<=sizeLine /\ ∀p,H' p=none->Q (.ref p) (upd H' p (.lst ys))) \/
 (J.go i H' /\ ∃Nn:St->Hp->List V->Prop,(∀σ4 H4 ys4,Nn σ4 H4 ys4 -> ∃m',m'<m/\W (i+1) m' σ4 H4 ys4) /\ ∀x H2,J.yld i H' x H2->g x σ' H2 fun σ3 H3=>tt σ3 H3 fun b H4=>if b=true then te σ3 H4 fun y H5=>ys.length<sizeLine/\Nn σ3 H5 (ys++[y]) else Nn σ3 H4 ys)
theorem HOk.track{P:Program}{w:World}{H:Hp}{h:Heap}{a:Addr}{o:HO}(ok:HOk P w H h)(hn:H a=none)(new:ObjOk P w (upd H a o) h a o):HOk P w (upd H a o) h:=fun b u e=>by
 by_cases hb:b=a
 · subst hb;rw[ZaA] at e;cases e;exact new
 · rw[Zan hb] at e
   exact(ok b u e).stay (fun c v _ q=>q) (fun c q=>by rw[Zan (Zak q hn)];exact q) fun c xs q=>by rw[Zan (Zak q hn)];exact q
section
variable{X:Cx}{tg elt iter:Expr}{ifs:List Expr}{scope:Scope}{cl:List (Str×Addr)}{N:List Str}{caps:List (Option Nat)}{wi:TI}{g:TG}{tt:TT}{te:TE}{pos:Pos}
theorem Zpj{C D:Addr}{s₀:Shared}{H₀:Hp}{fp:List Addr}{H':Hp}{o:Obj}(hDf:D∉fp)(hb:∀b∈D :: fp,b≠C/\b∉frs X.stack /\ ∀x c,cl.lookup x=some c->c≠b)(hn:∀b∈D :: fp,H' b=none) :
 ∀b∈fp,FpOk (blk X scope cl N C s₀ H₀ (D :: fp)) [(D,o)] H' b:=fun b h=>
 have h':=List.mem_cons_of_mem D h
 ⟨hn b h',(hb b h').1,(hb b h').2.1,.inl h',(hb b h').2.2,fun p hp=>by
  have e:p=(D,o):=by simpa using(show p∈([(D,o)]:List (Addr×Obj)) from hp)
  rw[e]
  rintro rfl
  exact hDf h⟩
theorem ZjT{C D it:Addr}{s₀:Shared}{H₀:Hp}{fp:List Addr}{tn:Nat->Heap->Prop}{J:It}{R:Result->Shared->Prop}{s:Shared}{σ₁:St}{H₁:Hp}{W:Nat->Nat->St->Hp->List V->Prop}{EndP:Hp->List V->Prop}{m0:Nat}
 (hc:X.calm=true) (T:Turn X.prog X.w X.K tg J fp it tn) (hDf:D∉fp)
 (hb:∀b∈D :: fp,b≠C/\b∉frs X.stack /\ ∀x c,cl.lookup x=some c->c≠b)
 (hg:∀C s₀ H₀ ex,PG (blk X scope cl N C s₀ H₀ ex) tg g) (ht:∀C s₀ H₀ ex,PIfs (blk X scope cl N C s₀ H₀ ex) ifs tt) (he:∀C s₀ H₀ ex,PE (blk X scope cl N C s₀ H₀ ex) elt te)
 (turn:∀i m σ' H' ys,W i m σ' H' ys->(J.stop i H'/\EndP H' ys) \/
   (J.go i H' /\ ∃Nn:St->Hp->List V->Prop,(∀σ4 H4 ys4,Nn σ4 H4 ys4 -> ∃m',m'<m/\W (i+1) m' σ4 H4 ys4) /\ ∀x H2,J.yld i H' x H2->g x σ' H2 fun σ3 H3=>tt σ3 H3 fun b H4=>if b=true then te σ3 H4 fun y H5=>ys.length<sizeLine/\Nn σ3 H5 (ys++[y]) else Nn σ3 H4 ys))
 (I:Inv (blk X scope cl N C s₀ H₀ (D :: fp)) [] σ₁ H₁ s) (st:tn 0 s.heap) (fr:∀b∈D :: fp,H₁ b=none) (hD:s.heap.get? D=some { cls:=.type "list",data:=.seq ([]:List Value).toArray }) (w0:W 0 m0 σ₁ H₁ [])
 (hR:∀σ' H' ys its nn s',Inv (blk X scope cl N C s₀ H₀ (D :: fp)) [] σ' H' s'->H' D=none->s'.heap.get? D=some { cls:=.type "list",data:=.seq (List.toArray its) nn }->Vals ys its->EndP H' ys->R (.ok .next) s') :
 codeAny (model X.prog X.w) X.A (.compLoop (.ListComp elt [⟨tg,iter,ifs,0⟩] scope pos) 0 (.ref it) (.ref D) (compEnvC scope cl C X.env)) R s:=by
 have pinD:∀{σ':St}{H':Hp}{s':Shared}{its:List Value}{nn:Nat},Inv (blk X scope cl N C s₀ H₀ (D :: fp)) [] σ' H' s'->H' D=none->s'.heap.get? D=some { cls:=.type "list",data:=.seq (List.toArray its) nn } ->
  Inv (blk X scope cl N C s₀ H₀ (D :: fp)) [(D,{ cls:=.type "list",data:=.seq (List.toArray its) nn })] σ' H' s':=fun I' hn e=>by
  refine I'.pins_of fun p hp=>?_
  obtain rfl:=List.mem_singleton.mp hp
  exact⟨e,hn,(hb D (.head _)).1,(hb D (.head _)).2.1,fun v q=>by cases(show Data.seq _ _=Data.cell v from q)⟩
 refine codeAny_loop rfl (fun n s'=>∃i σ' H' ys its nn,Inv (blk X scope cl N C s₀ H₀ (D :: fp)) [(D,{ cls:=.type "list",data:=.seq (List.toArray its) nn })] σ' H' s'/\tn i s'.heap/\(∀b∈D :: fp,H' b=none) /\
  Vals ys its/\ys.length<=sizeLine/\W i n σ' H' ys) (fun n s' hI=>?_) m0 ⟨0,σ₁,H₁,[],[],0,pinD I (fr D (.head _)) hD,st,fr,.nil,Nat.zero_le _,w0⟩
 obtain⟨i,σ',H',ys,its,nn,I',st',fr',rv,hz,w'⟩:=hI
 show wpAny _ X.A ((compTurn (.ListComp elt [⟨tg,iter,ifs,0⟩] scope pos) 0 (.ref it) (.ref D) (compEnvC scope cl C X.env)).onRaise (fun x=>do noteFrame x (compEnvC scope cl C X.env);theTreesLotGoes x)) _ _ s'
 refine wpAny_noted ?_
 rw[compTurn_list]
 refine wpAny_bind (wpAny_standAt (wpAny_bind ?_))
 have fps:∀{H:Hp}{o:Obj},(∀b∈D :: fp,H b=none) -> ∀b∈fp,FpOk (blk X scope cl N C s₀ H₀ (D :: fp)) [(D,o)] H b:=fun hn=>Zpj hDf hb hn
 rcases turn i n σ' H' ys w' with⟨stop,qe⟩ | ⟨go,Nn,hNn,step⟩
 · refine thn (T.done (blk X scope cl N C s₀ H₀ (D :: fp)) rfl rfl rfl hc i _ s' σ' H' _ I' (fps fr') st' stop) fun r s4 ⟨hr,I4⟩=>?_
   subst hr
   exact wpAny_pure (hR σ' H' ys its nn s4 (I4.pins_of fun p hp=>absurd hp (by simp)) (fr' D (.head _)) (I4.pin (D,{ cls:=.type "list",data:=.seq (List.toArray its) nn }) (List.mem_append_right _ (.head _))).1 rv qe)
 · refine thn (T.item (blk X scope cl N C s₀ H₀ (D :: fp)) rfl rfl rfl hc i _ s' σ' H' _ I' (fps fr') st' go) fun r s4 ⟨u,hr,h4⟩=>?_
   subst hr
   refine wpAny_bind (thn h4 fun _ s5 ⟨x,H5,I5,r5,y5,st5,fr5⟩=>?_)
   have D5:H5 D=none:=(I5.pin (D,{ cls:=.type "list",data:=.seq (List.toArray its) nn }) (List.mem_append_right _ (.head _))).2.1
   have fr5':∀b∈D :: fp,H5 b=none:=fun b hb=>(List.mem_cons.mp hb).elim (fun e=>by rw[e];exact D5) (fr5 b)
   have I5':=I5.pinned (fps fr5') (T.obj _ _ st5)
   refine wpAny_bind (wpAny_mono (hg _ _ _ _ _ s5 σ' H5 x u _ I5' r5 (step x H5 y5)) (fun _ s6 ⟨σ6,H6,I6,q6⟩=>?_) fun _ _ z=>False.elim z)
   refine wpAny_bind (wpAny_mono (ht _ _ _ _ _ s6 σ6 H6 _ I6 q6) (fun ok s7 ⟨H7,I7,q7⟩=>?_) fun _ _ z=>False.elim z)
   have fin:∀{H8:Hp}{s8:Shared},Inv (blk X scope cl N C s₀ H₀ (D :: fp)) ([(D,{ cls:=.type "list",data:=.seq (List.toArray its) nn })]++Zg9 fp s5.heap) σ6 H8 s8 ->
    tn (i+1) s8.heap/\(∀b∈D :: fp,H8 b=none)/\s8.heap.get? D=some { cls:=.type "list",data:=.seq (List.toArray its) nn }:=fun {H8 s8} I8=>by
    refine⟨T.keep _ _ _ st5 fun b hb o e=>(I8.pin (b,o) (List.mem_append_right _ (List.mem_append_right _ (Zea hb e)))).1,fun b hb=>?_,(I8.pin (D,{ cls:=.type "list",data:=.seq (List.toArray its) nn }) (List.mem_append_right _ (List.mem_append_left _ (.head _)))).1⟩
    rcases List.mem_cons.mp hb with e | hb
    · rw[e];exact(I8.pin (D,{ cls:=.type "list",data:=.seq (List.toArray its) nn }) (List.mem_append_right _ (List.mem_append_left _ (.head _)))).2.1
    · obtain⟨o,e,d⟩:=T.obj _ _ st5 b hb
      exact(I8.pin (b,o) (List.mem_append_right _ (List.mem_append_right _ (Zea hb e)))).2.1
   cases ok with
   | false=>
    obtain⟨m',hm,w7⟩:=hNn _ _ _ q7
    obtain⟨t7,f7,d7⟩:=fin I7
    exact wpAny_pure ⟨rfl,m',hm,i+1,σ6,H7,ys,its,nn,I7.unpinned,t7,f7,rv,hz,w7⟩
   | true=>
    refine wpAny_bind (wpAny_bind (wpAny_mono (he _ _ _ _ _ s7 σ6 H7 _ I7 q7) (fun yv s8 ⟨y,H8,I8,r8,hz8,w8'⟩=>?_) fun _ _ z=>False.elim z))
    obtain⟨m',hm,w8⟩:=hNn _ _ _ w8'
    obtain⟨t8,f8,d8⟩:=fin I8
    have hl:=rv.length
    refine wpAny_bind (call_meets F.slot_list_append ⟨_,d8,rfl⟩ F.entry_list_append (F.args_list_append_2 _ _) (PySem.list_append D its.toArray nn yv (by rw[List.size_toArray];omega)) ⟨d8,?_⟩)
    have q8:=PySem.IsL.update d8 (·.push yv)
    have I9:Inv (blk X scope cl N C s₀ H₀ (D :: fp)) [] σ6 H8 { s8 with heap:=s8.heap.update D (Obj.mapSeq (·.push yv)) }:=by
     refine(I8.pins_of (pins':=[]) fun p hp=>absurd hp (by simp)).turned (it:=D) (t':=s8.toks) (fun b o hb e=>(Heap.get?_update_other s8.heap (Obj.mapSeq (·.push yv)) (Ne.symm hb)).trans e) (f8 D (.head _)) (hb D (.head _)).1 (.inl (.head _)) (hb D (.head _)).2.2 ?_
     intro p hp
     exact absurd (show p∈([]:List (Addr×Obj)) from hp) (by simp)
    have ea:its.toArray.push yv=(its++[yv]).toArray:=by simp
    rw[ea] at q8
    refine wpAny_pure (wpAny_pure ⟨rfl,m',hm,i+1,σ6,H8,ys++[y],its++[yv],_,pinD I9 (f8 D (.head _)) q8,?_,f8,rv.append (.cons r8 .nil),?_,w8⟩)
    · refine T.keep _ _ _ t8 fun b hb' o e=>(Heap.get?_update_other s8.heap (Obj.mapSeq (·.push yv)) ?_).trans e
      rintro rfl
      exact hDf hb'
    · rw[List.length_append,List.length_singleton];omega
theorem Zhr{pins:List (Addr×Obj)}{s:Shared}{σ:St}{H:Hp}{use:Option (Value->Sem Unit)}{Q':Value->Shared->Prop}{EndP:Hp->List V->Prop}{cpos:Pos}
 (hc:X.calm=true) (hi:PI X tg iter wi) (hclos:closureFor scope X.env=pure cl) (hcl:ClOk X cl) (hcap:CapOk X scope cl N caps)
 (hhas:∀x,((relabel scope X.env).names.lookup x=some .cell\/(relabel scope X.env).names.lookup x=some .free) -> ∃c,cl.lookup x=some c)
 (hcell:∀y∈scope.names,y.2≠.cell) (hkind:scope.kind=.function) (hnames:∀y∈scope.names,y.2=.local->scope.names.lookup y.1=some .local)
 (hg:∀C s₀ H₀ ex,PG (blk X scope cl N C s₀ H₀ ex) tg g) (ht:∀C s₀ H₀ ex,PIfs (blk X scope cl N C s₀ H₀ ex) ifs tt) (he:∀C s₀ H₀ ex,PE (blk X scope cl N C s₀ H₀ ex) elt te)
 (hs:∀x,foldedSetIterable iter X.env x=pure x) (I:Inv X pins σ H s)
 (h:wi σ H fun J H1=>∃W:Nat->Nat->St->Hp->List V->Prop,(∃m,W 0 m (capt σ caps) H1 []) /\ ∀i m σ' H' ys,W i m σ' H' ys ->
   (J.stop i H'/\EndP H' ys) \/
   (J.go i H' /\ ∃Nn:St->Hp->List V->Prop,(∀σ4 H4 ys4,Nn σ4 H4 ys4 -> ∃m',m'<m/\W (i+1) m' σ4 H4 ys4) /\ ∀x H2,J.yld i H' x H2->g x σ' H2 fun σ3 H3=>tt σ3 H3 fun b H4=>if b=true then te σ3 H4 fun y H5=>ys.length<sizeLine/\Nn σ3 H5 (ys++[y]) else Nn σ3 H4 ys))
 (hz:∀H' ys,EndP H' ys->ys.length<=sizeLine)
 (hfin:∀D C s' H' ys m',Inv X pins σ (upd H' D (.lst ys)) s'->s'.heap.Ns C m'->FpOk X pins (upd H' D (.lst ys)) C->H' D=none->EndP H' ys->compPost (model X.prog X.w) X.A X.xe use Q' (.ref D) C (.ok .next) s') :
 wpAny (model X.prog X.w) X.A (comprehension (.ListComp elt [⟨tg,iter,ifs,0⟩] scope pos) scope X.env cpos (newList []) false (eval iter X.env) use) Q' X.xe s:=by
 refine wpAny_comprehension_free (use:=use) rfl hs hclos hkind hnames (thn (hi pins s σ H _ I h) fun v s1 h1=>thn h1 fun itv s2 h2=>?_)
 obtain⟨it,fp,tn,J,H2,rfl,I2,T,st2,f2,W,⟨m0,w0⟩,turn⟩:=h2
 refine wpAny_newObj_type (wpAny_newFunctionEnv hcell (by intro y hy;simp at hy) (fun h₁ hns₁ hsb₁=>?_) hkind)
 dsimp only at hns₁ hsb₁ ⊢
 generalize hH2:s2.heap.push { cls:=.type "list",dict:=none,data:=.seq ([]:List Value).toArray }=P2 at hns₁ hsb₁ ⊢
 have hC:P2.objs.size=s2.heap.objs.size+1:=by rw[<- hH2,Heap.size_push]
 have I3:Inv X pins σ H2 { s2 with heap:=P2 }:=by
  rw[<- hH2]
  exact I2.kept (t':=s2.toks) fun b o e=>Heap.get?_push_of_some _ e
 have hD0:P2.get? s2.heap.objs.size=some { cls:=.type "list",data:=.seq ([]:List Value).toArray }:=by rw[<- hH2];exact Heap.get?_push_size _ rfl
 have fD:FpOk X pins H2 s2.heap.objs.size:=I2.fpOk (Nat.le_refl _) (I2.hok.fresh (Nat.le_refl _))
 have hex:∀b∈s2.heap.objs.size :: fp,FpOk X pins H2 b/\b<P2.objs.size:=fun b hb=>by
  rcases List.mem_cons.mp hb with e | hb
  · rw[e];exact⟨fD,by rw[hC];exact Nat.lt_succ_self _⟩
  · obtain⟨o,e,_⟩:=T.obj _ _ st2 b hb
    exact⟨f2 b hb,by rw[hC];exact Nat.lt_succ_of_lt (Heap.lt_size e)⟩
 have up1:∀b o,P2.get? b=some o->h₁.get? b=some o:=fun b o e=>hsb₁.extBut b o (Nat.ne_of_lt (Heap.lt_size e)) (Heap.get?_push_of_some _ e)
 have IB:=I3.block (h1:=h₁) (tk:=s2.toks+([]:List (Str×Value)).length) (ex:=s2.heap.objs.size :: fp) hkind hcap hcl hhas hex ⟨_,hns₁⟩ up1 hns₁.lt
 have hDf:s2.heap.objs.size∉fp:=fun hm=>by
  obtain⟨o,e,_⟩:=T.obj _ _ st2 _ hm
  exact absurd (Heap.lt_size e) (Nat.lt_irrefl _)
 have hb:∀b∈s2.heap.objs.size :: fp,b≠P2.objs.size/\b∉frs X.stack /\ ∀x c,cl.lookup x=some c->c≠b:=fun b hb=>by
  obtain⟨⟨f0,f1,f2,f3,f4,f5⟩,hlt⟩:=hex b hb
  refine⟨Nat.ne_of_lt hlt,fun z=>?_,fun x c e=>f4 x c (hcl.get x c e)⟩
  rcases List.mem_cons.mp (I3.stkSub b z) with e | e
  · exact f1 e
  · exact f2 e
 have st4:tn 0 h₁:=T.keep _ _ _ st2 fun b hb o e=>up1 b o (by rw[<- hH2];exact Heap.get?_push_of_some _ e)
 have loop:=ZjT (pos:=pos) (iter:=iter) (R:=compPost (model X.prog X.w) X.A X.xe use Q' (.ref s2.heap.objs.size) P2.objs.size) (EndP:=EndP)
  hc T hDf hb hg ht he turn IB st4 (fun b hb=>(hex b hb).1.1) (up1 _ _ hD0) w0 ?_
 · exact codeAny_compStart_list loop (T.self _ 0 _ _ _ st4 loop)
 · intro σ' H' ys its nn s' I' hn hl rv hq
   obtain⟨m',hm',_⟩:=id I'.loc
   have hCn:H' P2.objs.size=none:=I'.free
   have hDC:s2.heap.objs.size≠P2.objs.size:=(hb _ (.head _)).1
   have un0:Un (frs X.stack) (s2.heap.objs.size :: fp) H2 H' P2 s'.heap:=I'.base
   have un1:Un (frs X.stack) (s2.heap.objs.size :: fp) H2 (upd H' s2.heap.objs.size (.lst ys)) P2 s'.heap:=by
    have nD:∀{b},b∉s2.heap.objs.size :: fp->b≠s2.heap.objs.size:=fun h e=>h (by rw[e];exact .head _)
    have fD2:H2 s2.heap.objs.size=none:=fD.1
    refine⟨un0.keep,un0.slot,fun b o e n hx=>?_,un0.there,fun b zs e=>?_,fun b o zs e=>?_,fun b ps e=>?_⟩
    · rw[Zan (nD hx)];exact un0.free b o e n hx
    · rw[Zan (Zak e fD2)];exact un0.tups b zs e
    · rw[Zan (Zak e fD2)];exact un0.frzs b o zs e
    · rw[Zan (Zak e fD2)];exact un0.tbls b ps e
   have ok1:HOk X.prog X.w (upd H' s2.heap.objs.size (.lst ys)) s'.heap:=HOk.track I'.hok hn ⟨hz _ _ hq,its,nn,rv,hl⟩
   have I9:=I3.call' (s':=s') (ch:=s2.heap.objs.size :: fp) I'.os un1 ok1 I'.bare fun b hb=>by
    obtain⟨⟨f0,f1,f2,f3,f4,f5⟩,hlt⟩:=hex b hb
    exact⟨f3,f1,f4,f5⟩
   exact hfin _ _ _ _ _ _ I9 hm' (I3.fpOk (Nat.le_refl _) (by rw[Zan hDC.symm];exact hCn)) hn hq
theorem ZnJ(hc:X.calm=true)(hi:PI X tg iter wi)(hclos:closureFor scope X.env=pure cl)(hcl:ClOk X cl)(hcap:CapOk X scope cl N caps)
 (hhas:∀x,((relabel scope X.env).names.lookup x=some .cell\/(relabel scope X.env).names.lookup x=some .free) -> ∃c,cl.lookup x=some c)
 (hcell:∀y∈scope.names,y.2≠.cell) (hkind:scope.kind=.function) (hnames:∀y∈scope.names,y.2=.local->scope.names.lookup y.1=some .local)
 (hg:∀C s₀ H₀ ex,PG (blk X scope cl N C s₀ H₀ ex) tg g) (ht:∀C s₀ H₀ ex,PIfs (blk X scope cl N C s₀ H₀ ex) ifs tt) (he:∀C s₀ H₀ ex,PE (blk X scope cl N C s₀ H₀ ex) elt te)
 (hs:∀x,foldedSetIterable iter X.env x=pure x:=by intro _;rfl) :
 PE X (.ListComp elt [⟨tg,iter,ifs,0⟩] scope pos) (Zhq wi caps g tt te):=by
 intro pins s σ H Q I h
 rw[eval_ListComp]
 refine Zhr (EndP:=fun H' ys=>ys.length<=sizeLine /\ ∀p,H' p=none->Q (.ref p) (upd H' p (.lst ys))) hc hi hclos hcl hcap hhas hcell hkind hnames hg ht he hs I h (fun _ _ q=>q.1) ?_
 intro D C s' H' ys m' I' hn hf hD hq
 refine⟨m',hn,fun h' hs'=>⟨.ref D,_,?_,rfl,hq.2 D hD⟩⟩
 exact I'.turnedL (t':=s'.toks) (ch:=[C]) (fun b o hb e=>hs'.extBut b o (fun z=>hb (by simp[z])) e) fun b hb=>by
  obtain rfl:=List.mem_singleton.mp hb
  exact hf
theorem Zi8{i:Nat}{y:Str}{py spos:Pos}(hN:X.N.Nodup)(hiN:X.N[i]? = some y)(hy:X.env.scope.names.lookup y=some .local)
 (hc:X.calm=true) (hi:PI X tg iter wi) (hclos:closureFor scope X.env=pure cl) (hcl:ClOk X cl) (hcap:CapOk X scope cl N caps)
 (hhas:∀x,((relabel scope X.env).names.lookup x=some .cell\/(relabel scope X.env).names.lookup x=some .free) -> ∃c,cl.lookup x=some c)
 (hcell:∀y∈scope.names,y.2≠.cell) (hkind:scope.kind=.function) (hnames:∀y∈scope.names,y.2=.local->scope.names.lookup y.1=some .local)
 (hg:∀C s₀ H₀ ex,PG (blk X scope cl N C s₀ H₀ ex) tg g) (ht:∀C s₀ H₀ ex,PIfs (blk X scope cl N C s₀ H₀ ex) ifs tt) (he:∀C s₀ H₀ ex,PE (blk X scope cl N C s₀ H₀ ex) elt te)
 (hsw:swapsWith (.ListComp elt [⟨tg,iter,ifs,0⟩] scope pos) (some (.Name y py)) spos.line X.env=pure true:=by rfl)
 (hs:∀x,foldedSetIterable iter X.env x=pure x:=by intro _;rfl) :
 PS X (.Assign [.Name y py] (.ListComp elt [⟨tg,iter,ifs,0⟩] scope pos) spos) (tAsg (Zhq wi caps g tt te) (ZgF i)):=by
 intro pins s σ H D I h
 rw[exec_Assign_Name_used _ _ _ _ hsw]
 refine wpAny_bind (wpAny_standAt (wpAny_bind ?_))
 show wpAny _ X.A (do let _ <- comprehension (.ListComp elt [⟨tg,iter,ifs,0⟩] scope pos) scope X.env _ (newList []) false (eval iter X.env) (some (assign (.Name y py) X.env))) _ _ s
 refine wpAny_bind (thn (Zhr (Q':=fun _ s'=>SP X pins D .next s') (EndP:=fun H' ys=>ys.length<=sizeLine /\ ∀p,H' p=none->ZgF i (.ref p) σ (upd H' p (.lst ys)) D.nx) hc hi hclos hcl hcap hhas hcell hkind hnames hg ht he hs I h (fun _ _ q=>q.1) ?_)
  fun _ s' hq=>wpAny_pure (wpAny_pure hq))
 intro Dl C s' H' ys m' I' hn hf hD hq
 show wpAny _ X.A (assign (.Name y py) X.env (.ref Dl)) _ _ _
 refine wpAny_assign_Name (Zg8 I' hN hiN (.inl hy) (show RelV (.ref Dl) (.ref Dl) from rfl) (fun s2 I2 ⟨a,hs2,ha⟩=>?_) (.inr hy))
 obtain⟨f0,f1,f2,f3,f4,f5⟩:=hf
 have haC:C≠a:=by
  rintro rfl
  rcases ha with e | e
  · exact f1 e
  · exact f4 _ _ e rfl
 refine⟨m',hn.sameBut hs2 haC,fun h3 hs3=>⟨_,_,?_,hq.2 Dl hD⟩⟩
 exact I2.turnedL (t':=s2.toks) (ch:=[C]) (fun b o hb e=>hs3.extBut b o (fun z=>hb (by simp[z])) e) fun b hb=>by
  obtain rfl:=List.mem_singleton.mp hb
  exact⟨f0,f1,f2,f3,f4,f5⟩
end
section
variable{K:PySem.W.Frag}{g:TG}{tt:TT}{te:TE}{σ:St}{H:Hp}{Q:VK}
end
section
variable{X:Cx}
end
end L2
namespace L2
open PySem PySem.Spec PyProof.Rows
structure TF(K:PySem.W.Frag)(mg:Str->Option Value)(x:Str)(st:Stmt)(ps:List Str):Prop where
 ex:∃(f:Addr) (fd:FuncData),Fun K x x st f fd/\mg x=some (.ref f)/\Binds K fd ps []
structure Cal(P:Program)(w:World)(K:PySem.W.Frag)(mg:Str->Option Value)(base:Heap)(x:Str)(k:Nat)(ps:List Str)(sp:Sp):Prop where
 ex:∃(f:Addr) (fd:FuncData),FnOk P w K mg base CX0 k f fd ps sp/\mg x=some (.ref f)/\PySem.W.keepIn K (.ref f)=true/\Binds K fd ps []
theorem TF.ok{P:Program}{w:World}{K:PySem.W.Frag}{mg:Str->Option Value}{base:Heap}{x:Str}{st:Stmt}{ps N:List Str}{k:Nat}{sp:Sp}(T:TF K mg x st ps)(S:FnScope N ps (Zal st))(len:∀vs H Q E,sp vs H Q E->vs.length=ps.length)
 (hbody:∀(f:Addr) (cdv:Value) (A:Around) (outer:List Env) (s:Shared) (H:Hp) (vs:List V) (Q:VK) (E:XK),Room k (A.deeper (envOfC x (Zal st) s.heap.objs.size f cdv))->sp vs H Q E ->
   ∃t,PSs (cxOf CX0 P w K mg base N x (Zal st) f cdv A outer s H E).nox (ZbT st) t/\t { nx:=fun _ H'=>Q .non H',rt:=Q } (start N vs) H):Cal P w K mg base x (k+1) ps sp:=by
 obtain⟨f,fd,F,m,b⟩:=T.ex
 exact⟨f,fd,F.ok S len (hbody f),m,F.kp,b⟩
section
variable{X:Cx}{x:Str}{k:Nat}{ps:List Str}{sp:Sp}{p pos:Pos}{e:Expr}{es:List Expr}{t:TA}
end
def hasB(names:List (Str×NameKind))(cl:List (Str×Addr)):Bool:=names.all fun y=>(!(y.2 == .cell) && !(y.2 == .free)) || (cl.lookup y.1).isSome
def ZnK(names:List (Str×NameKind)):Bool:=names.all fun y=>!(y.2 == .cell)
def locB(names:List (Str×NameKind)):Bool:=names.all fun y=>!(y.2 == .local) || (names.lookup y.1 == some .local)
theorem Zcr{α β:Type}[BEq α][LawfulBEq α]{x:α}{v:β}:∀{l:List (α×β)},l.lookup x=some v->(x,v)∈l
 | [],h=>by simp at h
 | (a,b) :: r,h=>by
  rw[List.lookup_cons] at h
  cases q:x == a with
  | true=>
   rw[q] at h
   have e1:x=a:=eq_of_beq q
   have e2:b=v:=Option.some.inj h
   rw[e1,e2];exact .head _
  | false=>
   rw[q] at h
   exact .tail _ (Zcr h)
theorem ZjU{names:List (Str×NameKind)}{cl:List (Str×Addr)}(h:hasB names cl=true):∀x,(names.lookup x=some .cell\/names.lookup x=some .free) -> ∃c,cl.lookup x=some c:=by
 intro x hx
 have key:∀k,names.lookup x=some k->(k=.cell\/k=.free) -> ∃c,cl.lookup x=some c:=fun k hk hc=>by
  have:=List.all_eq_true.mp h _ (Zcr hk)
  simp only[Bool.or_eq_true,Bool.and_eq_true,Bool.not_eq_true',beq_eq_false_iff_ne] at this
  rcases this with⟨h1,h2⟩ | h1
  · rcases hc with hc | hc
    · exact absurd hc h1
    · exact absurd hc h2
  · exact Option.isSome_iff_exists.mp h1
 rcases hx with hx | hx
 · exact key _ hx (.inl rfl)
 · exact key _ hx (.inr rfl)
theorem Ziw{names:List (Str×NameKind)}(h:ZnK names=true):∀y∈names,y.2≠.cell:=fun y hy e=>by
 have:=List.all_eq_true.mp h _ hy
 simp[e] at this
theorem ZjV{names:List (Str×NameKind)}(h:locB names=true):∀y∈names,y.2=.local->names.lookup y.1=some .local:=fun y hy e=>by
 have:=List.all_eq_true.mp h _ hy
 simpa[e] using this
section
variable{X:Cx}{tg elt iter:Expr}{ifs:List Expr}{scope:Scope}{cl:List (Str×Addr)}{N:List Str}{caps:List (Option Nat)}{wi:TI}{g:TG}{tt:TT}{te:TE}{pos:Pos}
theorem ZeC(hi:PI X tg iter wi)(hcl:ClOk X cl)(hcap:CapOk X scope cl N caps)
 (hg:∀C s₀ H₀ ex,PG (blk X scope cl N C s₀ H₀ ex) tg g) (ht:∀C s₀ H₀ ex,PIfs (blk X scope cl N C s₀ H₀ ex) ifs tt) (he:∀C s₀ H₀ ex,PE (blk X scope cl N C s₀ H₀ ex) elt te)
 (hclos:closureFor scope X.env=pure cl:=by rfl) (hhas:hasB (relabel scope X.env).names cl=true:=by rfl) (hcell:ZnK scope.names=true:=by rfl) (hloc:locB scope.names=true:=by rfl)
 (hkind:scope.kind=.function:=by rfl) (hc:X.calm=true:=by rfl)
 (hs:∀x,foldedSetIterable iter X.env x=pure x:=by intro _;rfl) :
 PE X (.ListComp elt [⟨tg,iter,ifs,0⟩] scope pos) (Zhq wi caps g tt te):=ZnJ hc hi hclos hcl hcap (ZjU hhas) (Ziw hcell) hkind (ZjV hloc) hg ht he hs
theorem ZgI{i:Nat}{y:Str}{py spos:Pos}(hN:X.N.Nodup)(hiN:X.N[i]? = some y)(hi:PI X tg iter wi)(hcl:ClOk X cl)(hcap:CapOk X scope cl N caps)
 (hg:∀C s₀ H₀ ex,PG (blk X scope cl N C s₀ H₀ ex) tg g) (ht:∀C s₀ H₀ ex,PIfs (blk X scope cl N C s₀ H₀ ex) ifs tt) (he:∀C s₀ H₀ ex,PE (blk X scope cl N C s₀ H₀ ex) elt te)
 (hy:X.env.scope.names.lookup y=some .local:=by rfl)
 (hclos:closureFor scope X.env=pure cl:=by rfl) (hhas:hasB (relabel scope X.env).names cl=true:=by rfl) (hcell:ZnK scope.names=true:=by rfl) (hloc:locB scope.names=true:=by rfl)
 (hkind:scope.kind=.function:=by rfl) (hc:X.calm=true:=by rfl)
 (hsw:swapsWith (.ListComp elt [⟨tg,iter,ifs,0⟩] scope pos) (some (.Name y py)) spos.line X.env=pure true:=by rfl)
 (hs:∀x,foldedSetIterable iter X.env x=pure x:=by intro _;rfl) :
 PS X (.Assign [.Name y py] (.ListComp elt [⟨tg,iter,ifs,0⟩] scope pos) spos) (tAsg (Zhq wi caps g tt te) (ZgF i)):=Zi8 hN hiN hy hc hi hclos hcl hcap (ZjU hhas) (Ziw hcell) hkind (ZjV hloc) hg ht he hsw hs
end
section
variable{X:Cx}{st:Stmt}{rest:List Stmt}{t u:TS}
def tCut(t u:TS):TS:=fun D σ H=>∃Pm:St->Hp->Prop,t { D with nx:=Pm } σ H /\ ∀σ' H',Pm σ' H'->u D σ' H'
theorem cut{t u:TS}{D:Ends}{σ:St}{H:Hp}(Pm:St->Hp->Prop)(h:t { D with nx:=Pm } σ H)(hP:∀σ' H',Pm σ' H'->u D σ' H'):tCut t u D σ H:=⟨Pm,h,hP⟩
end
def ZjW(J:It)(g:TG)(tt:TT)(te:TE)(Q:VK)(σ:St)(H1:Hp):Prop:=∃W:Nat->Nat->St->Hp->List V->Prop,(∃m,W 0 m σ H1 []) /\ ∀i m σ' H' ys,W i m σ' H' ys ->
 (J.stop i H'/\ys.length<=sizeLine /\ ∀p,H' p=none->Q (.ref p) (upd H' p (.lst ys))) \/
 (J.go i H' /\ ∃Nn:St->Hp->List V->Prop,(∀σ4 H4 ys4,Nn σ4 H4 ys4 -> ∃m',m'<m/\W (i+1) m' σ4 H4 ys4) /\ ∀x H2,J.yld i H' x H2->g x σ' H2 fun σ3 H3=>tt σ3 H3 fun b H4=>if b=true then te σ3 H4 fun y H5=>ys.length<sizeLine/\Nn σ3 H5 (ys++[y]) else Nn σ3 H4 ys)
theorem ZlL{wi:TI}{caps:List (Option Nat)}{g:TG}{tt:TT}{te:TE}{σ:St}{H:Hp}{Q:VK}:Zhq wi caps g tt te σ H Q=wi σ H fun J H1=>ZjW J g tt te Q (capt σ caps) H1:=rfl
theorem Zpk{wi:TI}{caps:List (Option Nat)}{g:TG}{tt:TT}{te:TE}{σ:St}{H:Hp}{Q:VK}(h:wi σ H fun J H1=>ZjW J g tt te Q (capt σ caps) H1):Zhq wi caps g tt te σ H Q:=h
section
variable{K:PySem.W.Frag}{g:TG}{tt:TT}{te:TE}{σ:St}{H:Hp}{Q:VK}
end
end L2
namespace L2
open PySem PySem.Spec PyProof.Rows
section
variable{X:Cx}
def CHug(i j:Int):Prop:=i.natAbs<2 ^ 10000/\j.natAbs<2 ^ 10000
theorem Zix{i:Int}(h:i.natAbs<2 ^ 10000):Builtin.Int.intBits i<=2 ^ 20:=Nat.le_trans (PyProof.Rows.intBits_le h) (by decide)
def ZnL(i j:Int):Prop:=CMul i j\/CHug i j
theorem Zeq:OpR X (binaryOp .Mult) (rI ZnL fun i j=>.int (i*j)):=opI fun _ _ _ _ _ _ _ hc q=>mul_int q (hc.elim (fun h=>h.ok) fun h=>.of_bits (Zix h.1) (Zix h.2))
theorem ZjX(hc:X.calm=true):ZcD X (.builtin "sum") (fun vs H Q=>∃(l:Addr) (xs:List Int),vs=[.ref l]/\SqL X.K H l (xs.map V.int)/\Q (.int xs.sum) H):=by
 intro pins s σ H vs us Q I r h
 obtain⟨l,ns,rfl,hS,q⟩:=h
 obtain⟨u,rfl,ru⟩:=ZeU r
 cases(show u=Value.ref l from ru)
 obtain⟨its,rv,p,hz⟩:=I.list hS
 have hi:=Zi6 rv
 obtain⟨xs,e⟩:=hi.allInts.items
 have hns:ns=xs.toList.map (·.1):=by rw[<- hi.numsOf,<- nums_intItems,<- e]
 have hl:=p.isList
 rw[e] at hl
 refine sum_intListG (I.ok.hd hc) hl fun h' tk t' hk=>?_
 refine⟨.int _,H,I.kept hk,⟨t',?_⟩,q⟩
 rw[preSum_eq,List.take_of_length_le (by simp),<- hns]
end
section
variable{prog:Program}{w:World}{A:Around}{E:Value->Shared->Prop}{s:Shared}
theorem Zhs{it l:Addr}{items:Array Value}(hne:l≠it):∀(n i:Nat) (s:Shared) (Q:List Value->Shared->Prop),s.heap.IsListIter it l i->s.heap.IsList l items->i+n<=items.size ->
 (∀h',h'.IsListIter it l (i+n)->Heap.SameBut it s.heap h'->Q ((items.toList.drop i).take n) { s with heap:=h' })->wpAny (model prog w) A (draw (.ref it) n) Q E s
 | 0,i,s,Q,hit,_,_,hQ=>by
  show wpAny _ _ (pure []) Q E s
  exact wpAny_pure (by simpa using hQ s.heap hit (Heap.SameBut.refl ..))
 | n+1,i,s,Q,hit,ht,hle,hQ=>by
  have hlt:i<items.size:=by omega
  show wpAny _ _ (pyNext (.ref it) >>= _) Q E s
  refine wpAny_bind (wpAny_pyNext_list_item hit ht (x:=items[i]) (by simp[hlt]) fun h₁ hit₁ hs₁=>?_)
  refine wpAny_bind (wpAny_holding (Zhs hne n (i+1) _ _ hit₁ (ht.extBut hs₁.extBut hne) (by omega) fun h₂ hit₂ hs₂=>wpAny_pure ?_))
  have hd:items.toList.drop i=items[i] :: items.toList.drop (i+1):=by simp[List.drop_eq_getElem_cons,hlt]
  have q:=hQ h₂ (by rw[show i+(n+1)=i+1+n by omega];exact hit₂) (hs₁.trans hs₂)
  rw[hd,List.take_succ_cons] at q
  exact q
theorem Zfl{l:Addr}{items:Array Value}{Q:List Value->Shared->Prop}(hh:A.handled=none)(hl:s.heap.IsList l items)
 (hQ:∀h',Heap.ExtBut s.heap.objs.size s.heap h'->Q items.toList { s with heap:=h' }):wpAny (model prog w) A (unpackItems (.ref l) items.size none) Q E s:=by
 have hlt:l≠s.heap.objs.size:=by obtain⟨o,ho,_⟩:=hl;exact Nat.ne_of_lt (Heap.lt_size ho)
 unfold unpackItems
 refine wpAny_bind ?_
 unfold notIterableAtAll
 refine wpAny_bind (wpAny_specialOf hl.typeIs slot_list_iter.lookup ?_)
 refine wpAny_pure ?_
 simp only[Bool.false_eq_true,if_false]
 refine wpAny_bind (wpAny_holding (wpAny_pyIter_list hl ?_))
 refine wpAny_bind (wpAny_holding (Zhs hlt items.size 0 _ _ ⟨_,Heap.get?_push_size _ rfl,rfl,rfl⟩ (hl.push _) (by omega) fun h₁ hit₁ hs₁=>?_))
 have hall:List.take items.size (List.drop 0 items.toList)=items.toList:=by
  rw[List.drop_zero];exact List.take_of_length_le (by simp)
 rw[hall]
 rw[if_neg (by simp)]
 have ht₁:h₁.IsList l items:=(hl.push _).extBut hs₁.extBut hlt
 refine wpAny_bind (wpAny_holding (wpAny_pyNext_list_end hh hit₁ ht₁ (by simp) fun h₂ he₂=>?_))
 simp only[Option.isSome_none,Bool.false_eq_true,if_false]
 exact wpAny_pure (hQ h₂ fun b o hb e=>he₂ b o hb (hs₁.extBut b o hb (Heap.get?_push_of_some _ e)))
end
section
variable{X:Cx}{pos:Pos}
def ZnM(K:PySem.W.Frag)(n:Nat)(t:TGs):TG:=fun v σ H Q=>∃a xs,v=.ref a/\SqL K H a xs/\xs.length=n/\t xs σ H Q
theorem ZnN{es:List Expr}{k:Nat}{t:TGs}{n:Nat}(hc:X.calm=true)(h:PGs X es t)
 (hn:(assignEach es X.env).length=n:=by rfl) (hst:(assignEach es X.env).findIdx? (·.1)=none:=by rfl):PG X (.Tuple es k pos) (ZnM X.K n t):=by
 intro pins s σ H v u Q I r hw
 obtain⟨a,xs,e1,hq,hl,hw⟩:=hw
 subst e1
 cases r
 obtain⟨its,rv,ht,hz⟩:=I.list hq
 rw[assign_Tuple]
 refine wpAny_bind (wpAny_standAt ?_)
 unfold unpack
 rw[hn,hst]
 have hlen:n=its.toArray.size:=by rw[List.size_toArray,<- rv.length,hl]
 rw[hlen]
 refine wpAny_bind (wpAny_holding (Zfl (I.ok.hd hc) ht.isList fun h' hx=>?_))
 have I1:Inv X pins σ H { s with heap:=h' }:=I.kept (t':=s.toks) fun b o e=>hx b o (Nat.ne_of_lt (Heap.lt_size e)) e
 exact h pins _ σ H xs _ Q I1 (by simpa using rv) hw
end
section
variable{X:Cx}
def ZnO(xs:List V):Prop:=∀x∈xs,∃i,x=V.int i
theorem Zht(ns:List Int):ZnO (ns.map V.int):=fun x hx=>by
 obtain⟨i,_,rfl⟩:=List.mem_map.mp hx
 exact⟨i,rfl⟩
def CmpOk(xs ys:List V):Prop:=xs=[]\/ys=[]\/(ZnO xs/\ZnO ys)
theorem CmpOk.ints(ns ms:List Int):CmpOk (ns.map V.int) (ms.map V.int):=.inr (.inr ⟨Zht ns,Zht ms⟩)
theorem Ziy{A:Around}{s:Shared}{xs ys:List V}{its its2:List Value}(r:Vals xs its)(r2:Vals ys its2)(hc:CmpOk xs ys)(j:Nat)(h1:j<its.toArray.size)(h2:j<its2.toArray.size) :
 SeqAt.EqAt A s its.toArray[j] its2.toArray[j] (decide (xs[j]? = ys[j]?)):=by
 have l1:=r.length
 have l2:=r2.length
 have h1':j<its.length:=by simpa using h1
 have h2':j<its2.length:=by simpa using h2
 rcases hc with e | e | ⟨c1,c2⟩
 · rw[e] at l1;simp at l1;omega
 · rw[e] at l2;simp at l2;omega
 · have q1:xs[j]? = some xs[j]:=by simp
   have q2:ys[j]? = some ys[j]:=by simp
   obtain⟨u,e1,ru⟩:=r.get q1
   obtain⟨u2,e2,ru2⟩:=r2.get q2
   obtain⟨i1,g1⟩:=c1 xs[j] (List.getElem_mem _)
   obtain⟨i2,g2⟩:=c2 ys[j] (List.getElem_mem _)
   rw[g1] at ru
   rw[g2] at ru2
   obtain⟨t1,rfl⟩:=ru
   obtain⟨t2,rfl⟩:=ru2
   have e3:its.toArray[j]=Value.int i1 t1:=by
    rw[List.getElem?_eq_getElem h1'] at e1
    simpa using Option.some.inj e1
   have e4:its2.toArray[j]=Value.int i2 t2:=by
    rw[List.getElem?_eq_getElem h2'] at e2
    simpa using Option.some.inj e2
   rw[e3,e4,q1,q2,g1,g2]
   intro prog w E Q hq
   refine wpAny_eqBool_int ?_
   have:(i1 == i2)=decide (some (V.int i1)=some (V.int i2)):=by rw[Bool.eq_iff_iff];simp
   rw[this];exact hq
theorem ZmF{xs ys:List V}{n:Nat}(h1:xs.length=n)(h2:ys.length=n):((List.range n).all fun j=>decide (xs[j]? = ys[j]?))=decide (xs=ys):=by
 rw[Bool.eq_iff_iff]
 simp only[List.all_eq_true,List.mem_range,decide_eq_true_eq]
 constructor
 · intro h
   apply List.ext_getElem?
   intro j
   by_cases hj:j<n
   · exact h j hj
   · rw[List.getElem?_eq_none (by omega),List.getElem?_eq_none (by omega)]
 · rintro rfl j _;rfl
def rEqA(K:PySem.W.Frag):R2:=fun x y H Q=>∃(a b:Addr),x=.ref a/\y=.ref b /\ ∃xs ys,SqL K H a xs/\SqL K H b ys/\CmpOk xs ys/\Q (.bl (decide (xs=ys))) H
def rNeA(K:PySem.W.Frag):R2:=fun x y H Q=>∃(a b:Addr),x=.ref a/\y=.ref b /\ ∃xs ys,SqL K H a xs/\SqL K H b ys/\CmpOk xs ys/\Q (.bl (!decide (xs=ys))) H
theorem Zpl(hu:X.A.units<cLine):OpR X (compareOp .Eq) (rEqA X.K):=by
 intro pins s σ H x y v u Q I rx ry h
 obtain⟨a,b,rfl,rfl,xs,ys,h1,h2,hc,q⟩:=h
 cases rx
 cases ry
 obtain⟨its,r,p,hz⟩:=I.list h1
 obtain⟨its2,r2,p2,hz2⟩:=I.list h2
 have l1:=r.length
 have l2:=r2.length
 by_cases hl:its.length=its2.length
 · refine SeqAt.eq_listAt (e:=fun j=>decide (xs[j]? = ys[j]?)) p.isList p2.isList (by simpa using hl) hu (Ziy r r2 hc) ⟨.bl (decide (xs=ys)),H,I,?_,q⟩
   rw[List.size_toArray,ZmF l1 (by omega)];rfl
 · refine SeqAt.eq_list_lengthsAt p.isList p2.isList (by simpa using hl) hu ⟨.bl (decide (xs=ys)),H,I,?_,q⟩
   rw[decide_eq_false (by rintro rfl;omega)];rfl
theorem Zpm(hu:X.A.units<cLine):OpR X (compareOp .NotEq) (rNeA X.K):=by
 intro pins s σ H x y v u Q I rx ry h
 obtain⟨a,b,rfl,rfl,xs,ys,h1,h2,hc,q⟩:=h
 cases rx
 cases ry
 obtain⟨its,r,p,hz⟩:=I.list h1
 obtain⟨its2,r2,p2,hz2⟩:=I.list h2
 have l1:=r.length
 have l2:=r2.length
 by_cases hl:its.length=its2.length
 · refine SeqAt.RcNeAt.lists (e:=fun j=>decide (xs[j]? = ys[j]?)) p.isList p2.isList (by simpa using hl) hu (Ziy r r2 hc) _ _ _ _ ⟨.bl (!decide (xs=ys)),H,I,?_,q⟩
   rw[List.size_toArray,ZmF l1 (by omega)];rfl
 · refine SeqAt.RcNeAt.lists_lengths p.isList p2.isList (by simpa using hl) hu _ _ _ _ ⟨.bl (!decide (xs=ys)),H,I,?_,q⟩
   rw[decide_eq_false (by rintro rfl;omega)];rfl
end
end L2
namespace L2
open PySem PySem.Spec PyProof.Rows
section
variable{X:Cx}{e st:Expr}{te ts:TE}{pos p2:Pos}
end
end L2
namespace L2
open PySem PySem.Spec PyProof.Rows
section
variable{X:Cx}{K:PySem.W.Frag}
theorem ZlM(h:X.K=K):SlR X (rSlL K):=h▸ZnG
theorem Zi9(h:X.K=K)(hc:X.calm=true):ZcD X (.builtin "sum") (fun vs H Q=>∃(l:Addr) (xs:List Int),vs=[.ref l]/\SqL K H l (xs.map V.int)/\Q (.int xs.sum) H):=h▸ZjX hc
theorem ZnP(h:X.K=K)(hu:X.A.units<cLine):OpR X (compareOp .Eq) (rEqA K):=h▸Zpl hu
theorem Za1{tg l:Expr}{tl:TE}(h:X.K=K)(hl:PE X l tl):PI X tg l (Znq K tl):=h▸Znr hl
theorem ZeV{pos:Pos}{es:List Expr}{k:Nat}{t:TGs}{n:Nat}(h:X.K=K)(hc:X.calm=true)(hh:PGs X es t)(hn:(assignEach es X.env).length=n:=by rfl)(hst:(assignEach es X.env).findIdx? (·.1)=none:=by rfl):PG X (.Tuple es k pos) (gTup K n t):=h▸Zo7 hc hh hn hst
end
section
variable{K:PySem.W.Frag}{g:TG}{tt:TT}{te:TE}{σ:St}{H:Hp}{Q:VK}
end
def Zhu:Expr->Option Int
 | .Constant (.int i) _ _=>some i
 | .UnaryOp .USub (.Constant (.int i) _ _) _=>some (-i)
 | _=>none
def ZgJ:List Expr->Option (List Int)
 | []=>some []
 | e :: r=>match Zhu e,ZgJ r with
  | some i,some ns=>some (i :: ns)
  | _,_=>none
def ZnQ(ns:List Int):TA:=fun _ H Q=>Q (ns.map V.int) H
section
variable{X:Cx}
theorem ZjY{e:Expr}{i:Int}(h:Zhu e=some i):PE X e (tC (.int i)):=by
 unfold Zhu at h
 split at h
 · cases h;exact Zar
 · cases h
   intro pins s σ H Q I q
   exact Zns ZjA Zar pins s σ H Q I ⟨_,rfl,q⟩
 · cases h
theorem Zh3{e:Expr}{i:Int}(h:Zhu e=some i)(es:List Expr)(env:Env):starEach (e :: es) env=(false,eval e env) :: starEach es env:=by
 unfold Zhu at h
 split at h
 · rfl
 · rfl
 · cases h
theorem Zgu:∀{es:List Expr}{ns:List Int},ZgJ es=some ns->PA X es (ZnQ ns)
 | [],ns,h=>by
  cases(show some []=some ns from h)
  exact Zae
 | e :: r,ns,h=>by
  unfold ZgJ at h
  split at h
  · rename_i i ms h1 h2
    cases h
    have:=Zaa (ZjY (X:=X) h1) (Zgu h2) (Zh3 h1 r X.env)
    exact this
  · cases h
theorem Zer{es:List Expr}{pos:Pos}{ns:List Int}(h:ZgJ es=some ns):PE X (.List es pos) (tLst (ZnQ ns)):=Zbj (Zgu h)
end
end L2
namespace L2
open PySem PySem.Spec PyProof.Rows
def Ite(K:PySem.W.Frag)(a:Addr):It:=
 ⟨fun i H=>∃xs x,SqL K H a xs/\xs[i]? = some x,
  fun i H v H'=>∃T x,H T=none/\v=.ref T/\H'=upd H T (.tup [V.int (i:Int),x])/\(∀xs,SqL K H a xs->xs[i]? = some x),
  fun i H=>∃xs,SqL K H a xs/\xs.length<=i⟩
def Zpn(a e it:Addr)(i:Nat)(h:Heap):Prop:=(∃old,IsEnum h e it (i:Int) old)/\h.IsListIter it a i
theorem ZjZ{P:Program}{w:World}{K:PySem.W.Frag}{es:List Expr}{kk:Nat}{tp:Pos}(a e it:Addr) :
 Turn P w K (.Tuple es kk tp) (Ite K a) [e,it] e (Zpn a e it) where
 mem:=by simp
 obj:=fun i h st c hc=>by
  obtain⟨⟨old,he⟩,⟨o1,e1,c1,d1⟩⟩:=st
  have:c=e\/c=it:=by simpa using hc
  rcases this with rfl | rfl
  · exact⟨_,he,fun v q=>by cases(show Data.fields _=Data.cell v from q)⟩
  · exact⟨_,e1,fun v q=>by rw[d1] at q;cases q⟩
 keep:=fun i h h' st k=>by
  obtain⟨⟨old,he⟩,h1⟩:=st
  exact⟨⟨old,k e (by simp) _ he⟩,h1.at fun o q=>k it (by simp) o q⟩
 item:=by
  intro X hP hw hK hc i pins s σ H E I hf st hg
  subst hP hw hK
  obtain⟨xs,x,hq,hx⟩:=hg
  obtain⟨its,rv,p,hz1⟩:=I.list hq
  obtain⟨u,hu,ru⟩:=rv.get hx
  obtain⟨⟨old,he⟩,h1⟩:=id st
  have k:∀{c d:Addr}{o u:Obj}{m n:String},s.heap.get? c=some o->s.heap.get? d=some u->o.cls=.type m->u.cls=.type n->m≠n->c≠d:=fun h1 h2 e1 e2 d=>ZjS h1 h2 (by rw[e1,e2];intro q;injection q with q;exact d q)
  have hei:e≠it:=by
   obtain⟨o1,e1,c1,d1⟩:=h1
   exact k he e1 rfl c1 (by decide)
  have hle:a≠e:=by
   obtain⟨oa,ea,ca,_⟩:=p.isList
   exact k ea he ca rfl (by decide)
  have hli:a≠it:=by
   obtain⟨oa,ea,ca,_⟩:=p.isList
   obtain⟨o1,e1,c1,d1⟩:=h1
   exact k ea e1 ca c1 (by decide)
  refine wpAny_pyNext_enum_item he h1 p.isList (x:=u) (by simpa using hu) hei fun h' a1 a2 a3 a4 a5=>?_
  refine⟨_,rfl,wpAny_letOwnedTupleGo_enum a1 fun h'' b1 b2=>?_⟩
  replace b2:Heap.SameBut e h' h'':=b2
  have up:∀c o,c≠e->h'.get? c=some o->h''.get? c=some o:=fun c o hc q=>b2.extBut c o hc q
  have zlt:e<s.heap.objs.size:=Heap.lt_size he
  have I1s:h''.IsListIter it a (i+1):=a2.at fun o q=>up _ o hei.symm q
  have I1:Inv X pins σ H { s with heap:=h'',toks:=s.toks+1 }:=by
   refine I.turnedL (t':=s.toks+1) (ch:=[e,it]) (fun c o hc q=>?_) hf
   have hc':c≠e/\c≠it:=by simpa using hc
   exact up c o hc'.1 (a5 c o hc'.1 hc'.2 q)
  have fresh:H s.heap.objs.size=none:=I.hok.fresh (Nat.le_refl _)
  have newT:h''.get? s.heap.objs.size=some _:=up _ _ (Nat.ne_of_gt zlt) a3
  have I2:Inv X pins σ (upd H s.heap.objs.size (.tup [V.int (i:Int),x])) { s with heap:=h'',toks:=s.toks+1 }:=by
   have un:Un X.fs [e,it] H (upd H s.heap.objs.size (.tup [V.int (i:Int),x])) s.heap h'':=by
    refine⟨fun c o q n _ hx=>?_,fun c o q n _ hx=>⟨o.slots,?_⟩,fun c o q n _=>?_,fun c o q hx=>⟨o,?_⟩,fun c zs q=>?_,fun c o zs q=>?_,fun c ps q=>⟨#[],?_⟩⟩
    · have hc':c≠e/\c≠it:=by simpa using hx
      exact up c o hc'.1 (a5 c o hc'.1 hc'.2 q)
    · have hc':c≠e/\c≠it:=by simpa using hx
      exact up c o hc'.1 (a5 c o hc'.1 hc'.2 q)
    · rw[Zan (Nat.ne_of_lt (Heap.lt_size q))];exact n
    · have hc':c≠e/\c≠it:=by simpa using hx
      exact up c o hc'.1 (a5 c o hc'.1 hc'.2 q)
    · rw[Zan (Zak q fresh)];exact q
    · rw[Zan (Zak q fresh)];exact q
    · rw[Zan (Zak q fresh),q];simp
   have ok2:HOk X.prog X.w (upd H s.heap.objs.size (.tup [V.int (i:Int),x])) h'':=fun c o q=>by
    by_cases hc:c=s.heap.objs.size
    · subst hc
      rw[ZaA] at q;cases q
      exact⟨by show 2<=sizeLine;decide,[Value.int i s.toks,u],.cons ⟨_,rfl⟩ (.cons ru .nil),⟨_,newT,rfl,_,rfl⟩⟩
    · rw[Zan hc] at q
      exact(I1.hok c o q).stay (fun _ _ _ q=>q) (fun d q=>by rw[Zan (Zak q fresh)];exact q) fun d zs q=>by rw[Zan (Zak q fresh)];exact q
   refine I.call' (s':={ s with heap:=h'',toks:=s.toks+1 }) (ch:=[e,it]) rfl (un.mono (fun c hc=>?_) fun c hc=>hc) ok2 I.bare fun c hc=>?_
   · rcases I.ok.stk with q | ⟨q,hfr⟩
     · rw[q];exact hc
     · rw[q]
       unfold frs
       rw[List.filterMap_cons,hfr]
       exact List.mem_cons_of_mem _ hc
   · obtain⟨f0,f1,f2,f3,f4,f5⟩:=hf c hc
     exact⟨f3,f1,f4,f5⟩
  have b1':IsEnum h'' e it ((i+1:Nat):Int) u:=by
   have:((i+1:Nat):Int)=(i:Int)+1:=by push_cast;rfl
   rw[this];exact b1
  refine⟨.ref s.heap.objs.size,_,I2,rfl,⟨_,x,fresh,rfl,rfl,fun xs' h=>by rw[I.list_inj h hq];exact hx⟩,⟨⟨_,b1'⟩,I1s⟩,fun c hc=>?_⟩
  rw[Zan ?_]
  · exact(hf c hc).1
  · have hc':c=e\/c=it:=by simpa using hc
    rcases hc' with rfl | rfl
    · exact Nat.ne_of_lt zlt
    · obtain⟨o,q,_⟩:=h1;exact Nat.ne_of_lt (Heap.lt_size q)
 done:=by
  intro X hP hw hK hc i pins s σ H E I hf st hg
  subst hP hw hK
  obtain⟨xs,hq,hx⟩:=hg
  obtain⟨its,rv,p,hz1⟩:=I.list hq
  obtain⟨⟨old,he⟩,h1⟩:=id st
  have l1:=rv.length
  refine wpAny_pyNext_enum_end (I.ok.hd hc) he h1 p.isList (by simp;omega) fun h' hk=>⟨rfl,?_⟩
  refine I.turnedL (t':=s.toks) (ch:=[e,it]) (fun c o hc q=>?_) hf
  have hc':c≠e/\c≠it:=by simpa using hc
  exact hk c o hc'.2 q
 self:=fun _ _ _ _ _ st h=>by
  obtain⟨⟨old,he⟩,_⟩:=st
  exact wpAny_pyIter_enum he h
section
variable{X:Cx}{es:List Expr}{kk:Nat}{tp:Pos}
def ZnR(K:PySem.W.Frag)(ta:TA):TI:=fun σ H R=>ta σ H fun vs H1=>∃p,vs=[.ref p]/\(∃xs,SqL K H1 p xs)/\R (Ite K p) H1
theorem ZnS{a:Expr}{ta:TA}{p pos:Pos}(hg:Gl X "enumerate")(hm:X.mg "enumerate"=none)(ha:PA X [a] ta)(hs:starEach [a] X.env=[(false,eval a X.env)]:=by rfl) :
 PI X (.Tuple es kk tp) (.Call (.Name "enumerate" p) [a] [] pos) (ZnR X.K ta):=by
 intro pins s σ H R I h
 refine Call_ (Zgq I hg hm boot_enumerate (PyProof.Rows.callWith_type1 (thn (ha pos pins s σ H _ I h) fun us s1 ⟨vs,H1,I1,r1,q1⟩=>?_) (by rw[hs];rfl) (by rfl)))
 obtain⟨a1,e,⟨xs,hx⟩,q⟩:=q1
 subst e
 obtain⟨u1,rfl,r⟩:=ZeU r1
 cases(show u1=Value.ref a1 from r)
 obtain⟨its,rv,p1,hz1⟩:=I1.list hx
 refine call_enumerate_list p1.isList fun h' z1 z2 z3 z4=>?_
 refine wpAny_pyIter_enum z1 ?_
 have I2:Inv X pins σ H1 { s1 with heap:=h' }:=I1.kept (t':=s1.toks) z4
 refine⟨s1.heap.objs.size+1,[s1.heap.objs.size+1,s1.heap.objs.size],_,_,H1,rfl,I2,ZjZ a1 _ _,⟨⟨_,z1⟩,z2⟩,fun c hc=>?_,q⟩
 have hc':s1.heap.objs.size<=c:=by
  have:c=s1.heap.objs.size+1\/c=s1.heap.objs.size:=by simpa using hc
  rcases this with e | e
  · rw[e];exact Nat.le_add_right _ _
  · rw[e];exact Nat.le_refl _
 exact I1.fpOk hc' (I1.hok.fresh hc')
theorem ZlN{K:PySem.W.Frag}{a:Expr}{ta:TA}{p pos:Pos}(h:X.K=K)(hg:Gl X "enumerate")(hm:X.mg "enumerate"=none)(ha:PA X [a] ta)(hs:starEach [a] X.env=[(false,eval a X.env)]:=by rfl) :
 PI X (.Tuple es kk tp) (.Call (.Name "enumerate" p) [a] [] pos) (ZnR K ta):=h▸ZnS hg hm ha hs
end
section
variable{K:PySem.W.Frag}{g:TG}{tt:TT}{te:TE}{σ:St}{H:Hp}{Q:VK}
end
end L2
namespace L2
open PySem PySem.Spec PyProof.Rows
section
variable{X:Cx}{pins:List (Addr×Obj)}{σ:St}{H:Hp}{s:Shared}
@[reducible] def in2(X:Cx):Cx:={ X with A:=X.A.in1.in1,xe:=fun _ _=>False }
end
section
variable{X:Cx}{pins:List (Addr×Obj)}{σ:St}{H:Hp}{E:Value->Shared->Prop}
end
section
variable{X:Cx}{x:Str}{k:Nat}{ps:List Str}{sp:Sp}{p pf pc pos kp1 kp2:Pos}{e:Expr}{te:TE}{j:Nat}
end
end L2
namespace L2
open PySem PySem.Spec PyProof.Rows
section
variable{X:Cx}
theorem Zj0(hc:X.calm=true):ZcD X (.builtin "any") (fun vs H Q=>∃(l:Addr) (bs:List Bool),vs=[.ref l]/\SqL X.K H l (bs.map V.bl)/\Q (.bl (bs.any id)) H):=by
 intro pins s σ H vs us Q I r h
 obtain⟨l,bs,rfl,hS,q⟩:=h
 obtain⟨u,rfl,ru⟩:=ZeU r
 cases(show u=Value.ref l from ru)
 obtain⟨its,rv,p,hz⟩:=I.list hS
 have hlt:l≠s.heap.objs.size:=by obtain⟨o,ho,_⟩:=p.isList;exact Nat.ne_of_lt (Heap.lt_size ho)
 have lv:=rv.length
 rw[List.length_map] at lv
 refine call_any_walk (wpAny_pyIter_list p.isList ?_)
 refine⟨s.heap.objs.size,_,_,_,_,_,fun i=>bs.getD i false,rfl,Walks.list (A:=X.A.in1) (I.ok.hd hc) s.heap.objs.size l hlt its.toArray,⟨⟨_,Heap.get?_push_size _ rfl,rfl,rfl⟩,p.isList.push _⟩,fun i v s' Q' E' hv hq=>?_,fun h' tk hk=>?_⟩
 · have hv':its[i]? = some v:=by simpa using hv
   have hi:i<bs.length:=by rw[lv];exact(List.getElem?_eq_some_iff.mp hv').1
   obtain⟨w,hw,rw'⟩:=rv.get (show(bs.map V.bl)[i]? = some (V.bl bs[i]) by rw[List.getElem?_map,List.getElem?_eq_getElem hi];rfl)
   obtain rfl:v=w:=Option.some.inj (hv'.symm.trans hw)
   cases(show v=Value.bool bs[i] from rw')
   refine wpAny_truthy_bool ?_
   have e:bs.getD i false=bs[i]:=by rw[List.getD_eq_getElem?_getD,List.getElem?_eq_getElem hi];rfl
   rw[<- e];exact hq
 · have e:(List.range its.toArray.size).any (fun i=>bs.getD i false)=bs.any id:=by
    rw[List.size_toArray,<- lv,Bool.eq_iff_iff,List.any_eq_true,List.any_eq_true]
    constructor
    · rintro⟨i,hi,h⟩
      have hi':=List.mem_range.mp hi
      refine⟨bs[i],List.getElem_mem _,?_⟩
      rw[List.getD_eq_getElem?_getD,List.getElem?_eq_getElem hi'] at h
      exact h
    · rintro⟨b,hb,h⟩
      obtain⟨i,hi,e⟩:=List.getElem_of_mem hb
      refine⟨i,List.mem_range.mpr hi,?_⟩
      rw[List.getD_eq_getElem?_getD,List.getElem?_eq_getElem hi,e]
      exact h
   rw[e]
   refine⟨.bl _,H,I.kept (t':=tk) fun b o q=>hk b o ?_ (Heap.get?_push_of_some _ q),rfl,q⟩
   have:b≠s.heap.objs.size:=Nat.ne_of_lt (Heap.lt_size q)
   simpa using this
theorem Zja{K:PySem.W.Frag}(h:X.K=K)(hc:X.calm=true):ZcD X (.builtin "any") (fun vs H Q=>∃(l:Addr) (bs:List Bool),vs=[.ref l]/\SqL K H l (bs.map V.bl)/\Q (.bl (bs.any id)) H):=h▸Zj0 hc
end
end L2
namespace L2
open PySem PySem.Spec PyProof.Rows
section
variable{X:Cx}
end
end L2
namespace L2
open PySem PySem.Spec PyProof.Rows
end L2
namespace L2
open PySem PySem.Spec PyProof.Rows
section
variable{M:Model}{A:Around}{E:Value->Shared->Prop}{s:Shared}
end
@[reducible] def blkC(X:Cx)(scope:Scope)(x0:Str)(c0:Addr)(cl:List (Str×Addr))(N:List Str)(C:Addr)(s₀:Shared)(H₀:Hp)(ex:List Addr):Cx where
 prog:=X.prog
 w:=X.w
 K:=X.K
 mg:=X.mg
 base:=X.base
 A:=X.A
 N:=N
 s₀:=s₀
 H₀:=H₀
 env:=compEnvC scope ((x0,c0) :: cl) C X.env
 outer:=X.stack
 stack:=X.stack
 ex:=ex
 fn:=fun y=>y == x0
 calm:=X.calm
 pn:=[]
 xe:=fun _ _=>False
section
variable{X:Cx}{pins:List (Addr×Obj)}{σ:St}{H:Hp}{s:Shared}{scope:Scope}{cl:List (Str×Addr)}{N:List Str}{caps:List (Option Nat)}{ex:List Addr}{x0:Str}{c0:Addr}
end
section
variable{X:Cx}{tg elt iter:Expr}{ifs:List Expr}{scope:Scope}{cl:List (Str×Addr)}{N:List Str}{caps:List (Option Nat)}{wi:TI}{g:TG}{tt:TT}{te:TE}{pos:Pos}{x0:Str}{c0:Addr}
end
end L2
namespace L2
open PySem PySem.Spec PyProof.Rows
section
variable{X:Cx}
end
end L2
namespace L2
open PySem PySem.Spec PyProof.Rows
def okV(N:List Str)(sc:Scope)(i:Nat)(x:Str):Bool:=
 (N[i]? == some x)&&(match sc.names.lookup x with | some .local=>true | some .cell=>true | some .free=>true | _=>false) && !(x == ("__debug__":Str)) && !(x == ("__classdict__":Str))
def okL(N:List Str)(sc:Scope)(i:Nat)(x:Str)(fn:Bool):Bool:=
 (N[i]? == some x)&&(match sc.names.lookup x with | some .local=>true | some .cell=>fn | _=>false)
section
variable{X:Cx}{pos:Pos}
theorem pvB(i:Nat){x:Str}(h:okV X.N X.env.scope i x=true:=by rfl):PE X (.Name x pos) (tVar i):=by
 unfold okV at h
 simp only[Bool.and_eq_true,beq_iff_eq,Bool.not_eq_true'] at h
 obtain⟨⟨⟨h1,h2⟩,h3⟩,h4⟩:=h
 refine Zo2 h1 ?_ h3 h4
 unfold Vis
 split at h2
 · rename_i e;exact .inl e
 · rename_i e;exact .inr (.inl e)
 · rename_i e;exact .inr (.inr e)
 · cases h2
theorem ZeW{i:Nat}{x:Str}(h:okL X.N X.env.scope i x (X.fn x)=true):X.N[i]? = some x/\Loc X.env.scope x/\(X.fn x=true\/X.env.scope.names.lookup x=some .local):=by
 unfold okL at h
 simp only[Bool.and_eq_true,beq_iff_eq] at h
 obtain⟨h1,h2⟩:=h
 split at h2
 · rename_i e;exact⟨h1,.inl e,.inr e⟩
 · rename_i e;exact⟨h1,.inr e,.inl h2⟩
 · cases h2
theorem Zas{i:Nat}{x:Str}(hN:X.N.Nodup)(h:okL X.N X.env.scope i x (X.fn x)=true:=by rfl):PG X (.Name x pos) (ZgF i):=
 Znp hN (ZeW h).1 (ZeW h).2.1 (ZeW h).2.2
theorem Zaz{i:Nat}{x:Str}{e:Expr}{te:TE}{pos':Pos}(hN:X.N.Nodup)(he:PE X e te)(h:okL X.N X.env.scope i x (X.fn x)=true:=by rfl)(hs:swapsWith e (some (.Name x pos')) pos.line X.env=pure false:=by rfl) :
 PS X (.Assign [.Name x pos'] e pos) (tAsg te (ZgF i)):=Zo9 hN (ZeW h).1 (ZeW h).2.1 he hs (ZeW h).2.2
end
end L2
namespace L2
open PySem PySem.Spec PyProof.Rows
def Zhv(z:Str):Bool:=z.cps.all (· < 128)
def Its(z:Str):It:=⟨fun i _=>i<z.cps.size,fun i H x H'=>H'=H /\ ∃c,z.cps[i]? = some c/\x=.str ⟨#[c]⟩,fun i _=>z.cps.size<=i⟩
theorem ZlO{P:Program}{w:World}{K:PySem.W.Frag}{tg:Expr}(it:Addr)(z:Str)(t:Tok):Turn P w K tg (Its z) [it] it (fun i h=>h.IsStrIter it "str_ascii_iterator" z t i) where
 mem:=by simp
 obj:=fun i h st b hb=>by
  have e:b=it:=by simpa using hb
  subst e
  obtain⟨o,e,c,d⟩:=st
  exact⟨o,e,fun v z=>by rw[d] at z;cases z⟩
 keep:=fun i h h' st k=>by
  obtain⟨o,e,r⟩:=st
  exact⟨o,k it (by simp) o e,r⟩
 item:=by
  intro X hP hw hK hc i pins s σ H E I hf st hg
  subst hP hw hK
  have hi:i<z.cps.size:=hg
  obtain⟨f0,f1,f2,f3,f4,f5⟩:=hf it (by simp)
  refine wpAny_pyNext_ascii_item st (c:=z.cps[i]) (by simp[hi]) fun h' st' sb=>?_
  have I1:Inv X pins σ H { s with heap:=h',toks:=s.toks+1 }:=I.turned (t':=s.toks+1) (fun b o hb e=>(sb.2 b hb).trans e) f0 f1 f3 f4 f5
  obtain⟨o,e,c,d⟩:=id st'
  exact⟨_,rfl,Zlx (s:={ s with heap:=h',toks:=s.toks+1 }) e c d (by decide) ⟨.str ⟨#[z.cps[i]]⟩,H,I1,⟨_,rfl⟩,⟨rfl,_,by simp[hi],rfl⟩,st',fun b hb=>(hf b hb).1⟩⟩
 done:=by
  intro X hP hw hK hc i pins s σ H E I hf st hg
  subst hP hw hK
  have hi:z.cps.size<=i:=hg
  obtain⟨f0,f1,f2,f3,f4,f5⟩:=hf it (by simp)
  exact wpAny_pyNext_ascii_end (I.ok.hd hc) st (by simp[hi]) fun h' eb=>⟨rfl,I.turned (t':=s.toks) (fun b o hb e=>eb b o hb e) f0 f1 f3 f4 f5⟩
 self:=fun _ _ _ _ _ st h=>wpAny_pyIter_striter_ascii st h
section
variable{X:Cx}{tg:Expr}
def iStr(tl:TE):TI:=fun σ H R=>tl σ H fun x H1=>∃z,x=.str z/\Zhv z=true/\R (Its z) H1
theorem Zpo{l:Expr}{tl:TE}(hl:PE X l tl):PI X tg l (iStr tl):=by
 intro pins s σ H R I h
 refine thn (hl pins s σ H _ I h) fun v s1 ⟨x,H1,I1,r1,q1⟩=>?_
 obtain⟨z,e,hz,q⟩:=q1
 subst e
 obtain⟨t,rfl⟩:=r1
 refine wpAny_pyIter_ascii hz ?_
 refine⟨s1.heap.objs.size,[s1.heap.objs.size],_,_,H1,rfl,I1.kept (t':=s1.toks) fun b o e=>Heap.get?_push_of_some _ e,ZlO _ z t,⟨_,Heap.get?_push_size _ rfl,rfl,rfl⟩,fun b hb=>?_,q⟩
 have e:b=s1.heap.objs.size:=by simpa using hb
 subst e
 exact I1.fpOk (Nat.le_refl _) (I1.hok.fresh (Nat.le_refl _))
theorem Zj1(hc:X.calm=true):ZcD X (.builtin "all") (fun vs H Q=>∃(l:Addr) (bs:List Bool),vs=[.ref l]/\SqL X.K H l (bs.map V.bl)/\Q (.bl (bs.all id)) H):=by
 intro pins s σ H vs us Q I r h
 obtain⟨l,bs,rfl,hS,q⟩:=h
 obtain⟨u,rfl,ru⟩:=ZeU r
 cases(show u=Value.ref l from ru)
 obtain⟨its,rv,p,hz⟩:=I.list hS
 have hlt:l≠s.heap.objs.size:=by obtain⟨o,ho,_⟩:=p.isList;exact Nat.ne_of_lt (Heap.lt_size ho)
 have lv:=rv.length
 rw[List.length_map] at lv
 refine call_all_walk (wpAny_pyIter_list p.isList ?_)
 refine⟨s.heap.objs.size,_,_,_,_,_,fun i=>bs.getD i false,rfl,Walks.list (A:=X.A.in1) (I.ok.hd hc) s.heap.objs.size l hlt its.toArray,⟨⟨_,Heap.get?_push_size _ rfl,rfl,rfl⟩,p.isList.push _⟩,fun i v s' Q' E' hv hq=>?_,fun h' tk hk=>?_⟩
 · have hv':its[i]? = some v:=by simpa using hv
   have hi:i<bs.length:=by rw[lv];exact(List.getElem?_eq_some_iff.mp hv').1
   obtain⟨w,hw,rw'⟩:=rv.get (show(bs.map V.bl)[i]? = some (V.bl bs[i]) by rw[List.getElem?_map,List.getElem?_eq_getElem hi];rfl)
   obtain rfl:v=w:=Option.some.inj (hv'.symm.trans hw)
   cases(show v=Value.bool bs[i] from rw')
   refine wpAny_truthy_bool ?_
   have e:bs.getD i false=bs[i]:=by rw[List.getD_eq_getElem?_getD,List.getElem?_eq_getElem hi];rfl
   rw[<- e];exact hq
 · have e:(List.range its.toArray.size).all (fun i=>bs.getD i false)=bs.all id:=by
    rw[Bool.eq_iff_iff]
    simp only[List.size_toArray,List.all_eq_true,List.mem_range,id]
    constructor
    · intro h b hb
      obtain⟨i,hi,rfl⟩:=List.getElem_of_mem hb
      have:=h i (by omega)
      rwa [List.getD_eq_getElem?_getD,List.getElem?_eq_getElem hi] at this
    · intro h i hi
      have hi':i<bs.length:=by omega
      rw[List.getD_eq_getElem?_getD,List.getElem?_eq_getElem hi']
      exact h _ (List.getElem_mem hi')
   rw[e]
   exact⟨.bl _,H,I.kept (t':=tk) fun b o eb=>hk b o (fun z=>by
    have:=List.mem_singleton.mp z
    subst this
    exact absurd (Heap.lt_size eb) (Nat.lt_irrefl _)) (Heap.get?_push_of_some _ eb),rfl,q⟩
def Zj2(K:PySem.W.Frag):V->List V->Hp->VK->Prop:=fun x vs H Q=>∃l xs y j,x=.ref l/\vs=[y]/\SqL K H l xs/\Zeo y=true/\xs.all Zeo=true/\xs.findIdx? (fun z=>eqV z y)=some j/\Q (.int (j:Nat)) H
theorem ZlP:MtM X "list.index" (Zj2 X.K):=by
 intro pins s σ H x vs v us Q I rx rv h
 obtain⟨l,xs,y,j,rfl,rfl,hS,fy,fs,hj,q⟩:=h
 cases rx
 obtain⟨u,rfl,ru⟩:=rv.one
 obtain⟨its,r,p,hz⟩:=I.list hS
 obtain⟨o,n,e,hc,hd,hdat⟩:=p
 have hl:=r.length
 obtain⟨hjl,hjt,hjn⟩:=List.findIdx?_eq_some_iff_getElem.mp hj
 have eqAll:∀z,z∈its.toArray->SeqAt.EqAt X.A.in1 s z u (eqU y z):=fun z hz=>by
  have hz':z∈its:=by simpa using hz
  obtain⟨i,hi,rfl⟩:=List.getElem_of_mem hz'
  have hx:xs[i]? = some xs[i]:=by simp[hl▸hi]
  obtain⟨w,hw,rw'⟩:=r.get hx
  rw[List.getElem?_eq_getElem hi] at hw
  cases hw
  have ff:Zeo xs[i]=true:=List.all_eq_true.mp fs _ (List.getElem_mem _)
  rw[Ziv rw' ff]
  exact ZmC rw' ru ff fy
 have at_:∀(i:Nat) (hi:i<its.length),eqU y its[i]=eqV (xs[i]'(by omega)) y:=fun i hi=>by
  have hx:xs[i]? = some (xs[i]'(by omega)):=by simp[hl▸hi]
  obtain⟨w,hw,rw'⟩:=r.get hx
  rw[List.getElem?_eq_getElem hi] at hw
  cases hw
  exact Ziv rw' (List.all_eq_true.mp fs _ (List.getElem_mem _))
 obtain⟨cl,dct,dat,sl⟩:=o
 dsimp only at hc hd hdat
 subst hc hd hdat
 refine call_meets F.slot_list_index ⟨_,e,rfl⟩ F.entry_list_index (F.args_list_index_2 _ _) (SeqAt.list_indexAt l its.toArray n none sl u (eqU y) j (by simp;omega) (by have h3:xs.length<=sizeLine:=hz;have h4:sizeLine=2 ^ 24:=rfl;omega) ?_ ?_) ⟨e,?_,?_⟩
 · have:=at_ j (by omega)
   simp only[List.getElem_toArray]
   rw[this];exact hjt
 · intro m hm hlt
   have:=at_ m (by simpa using hm)
   simp only[List.getElem_toArray]
   rw[this]
   have:=hjn m hlt
   simpa using this
 · intro z hz;exact eqAll z hz
 · exact⟨.int (j:Nat),H,I.tok _,⟨_,rfl⟩,q⟩
def ZlQ(K:PySem.W.Frag):V->List V->Hp->VK->Prop:=fun x vs H Q=>∃z l ys,x=.str z/\vs=[.ref l]/\SqL K H l (ys.map V.str)/\(ys.map (·.length)).sum+ys.length*z.length<=16777216/\Q (.str (Txt.join z ys)) H
theorem Zjb{ys:List Str}:∀{us:List Value},Vals (ys.map V.str) us->StrsAre us ys:=by
 induction ys with
 | nil=>
  intro us h
  cases h
  exact .nil
 | cons y ys ih=>
  intro us h
  cases h with
  | cons r t=>
   obtain⟨t',rfl⟩:=r
   exact .cons _ _ (ih t)
theorem ZnT:MtM X "str.join" (ZlQ X.K):=by
 intro pins s σ H x vs v us Q I rx rv h
 obtain⟨z,l,ys,rfl,rfl,hS,hz,q⟩:=h
 obtain⟨t,rfl⟩:=rx
 obtain⟨u,rfl,ru⟩:=rv.one
 cases(show u=Value.ref l from ru)
 obtain⟨its,r,p,hz2⟩:=I.list hS
 exact join_list p.isList (by simpa using Zjb r) hz fun t' k=>⟨.str _,H,I.tok k,⟨_,rfl⟩,q⟩
end
end L2
namespace L2
open PySem PySem.Spec PyProof.Rows
section
variable{κ:Type}[DecidableEq κ]
def valV(kvs:List (κ×V))(k:κ):Option V:=(kvs.find? fun kv=>decide (kv.1=k)).map (·.2)
def putK(kvs:List (κ×V))(k:κ)(v:V):List (κ×V):=
 if (kvs.any fun kv=>decide (kv.1=k))=true then kvs.map (fun kv=>if kv.1=k then(kv.1,v) else kv) else kvs++[(k,v)]
def Zre(kvs:List (κ×V))(k:κ):List (κ×V):=kvs.filter fun kv=>decide (kv.1≠k)
theorem Zfx{p:κ×V}{r:List (κ×V)}{k:κ}(e:p.1=k):valV (p :: r) k=some p.2:=by simp[valV,List.find?_cons,e]
theorem Zfy{p:κ×V}{r:List (κ×V)}{k:κ}(e:¬p.1=k):valV (p :: r) k=valV r k:=by simp[valV,List.find?_cons,e]
theorem Ziz(k:κ):∀kvs:List (κ×V),(kvs.any fun kv=>decide (kv.1=k))=(valV kvs k).isSome
 | []=>rfl
 | p :: r=>by
  rw[List.any_cons]
  by_cases e:p.1=k
  · simp only[Zfx e,decide_eq_true e,Bool.true_or,Option.isSome_some]
  · rw[Zfy e,decide_eq_false e,Bool.false_or];exact Ziz k r
theorem ZfP(kvs:List (κ×V))(k:κ)(v:V):(putK kvs k v).length<=kvs.length+1:=by
 unfold putK
 split
 · rw[List.length_map];omega
 · rw[List.length_append,List.length_cons,List.length_nil];omega
theorem RelO.isSome_eq{o:Option V}{u:Option Value}(r:RelO o u):o.isSome=u.isSome:=by
 cases o with
 | none=>cases u with
  | none=>rfl
  | some _=>exact(show False from r).elim
 | some _=>cases u with
  | none=>exact(show False from r).elim
  | some _=>rfl
theorem RelO.getD{o:Option V}{u:Option Value}{d:V}{d':Value}(r:RelO o u)(rd:RelV d d'):RelV (o.getD d) (u.getD d'):=by
 cases o with
 | none=>cases u with
  | none=>exact rd
  | some _=>exact(show False from r).elim
 | some _=>cases u with
  | none=>exact(show False from r).elim
  | some _=>exact r
theorem KV.val{kvs:List (κ×V)}{vs:List (κ×Value)}(r:KV kvs vs)(k:κ):RelO (valV kvs k) (valueAt vs k):=by
 unfold KV at r
 induction r with
 | nil=>exact True.intro
 | @cons p q ps qs h t ih=>
  obtain⟨h1,h2⟩:=h
  by_cases e:p.1=k
  · have e':q.1=k:=h1.symm.trans e
    have b:valueAt (q :: qs) k=some q.2:=by simp[valueAt,List.find?_cons,e']
    rw[Zfx e,b];exact h2
  · have e':¬q.1=k:=fun z=>e (h1.trans z)
    have b:valueAt (q :: qs) k=valueAt qs k:=by simp[valueAt,List.find?_cons,e']
    rw[Zfy e,b];exact ih
theorem KV.any{kvs:List (κ×V)}{vs:List (κ×Value)}(r:KV kvs vs)(k:κ):(kvs.any fun kv=>decide (kv.1=k))=vs.any fun kv=>decide (kv.1=k):=by
 unfold KV at r
 induction r with
 | nil=>rfl
 | cons h t ih=>rw[List.any_cons,List.any_cons,ih,h.1]
theorem KV.repl{kvs:List (κ×V)}{vs:List (κ×Value)}(r:KV kvs vs)(k:κ){y:V}{u:Value}(ry:RelV y u) :
 KV (kvs.map fun kv=>if kv.1=k then(kv.1,y) else kv) (vs.map fun kv=>if kv.1=k then(kv.1,u) else kv):=by
 unfold KV at r ⊢
 induction r with
 | nil=>exact .nil
 | @cons p q ps qs h t ih=>
  rw[List.map_cons,List.map_cons]
  refine .cons ?_ ih
  obtain⟨h1,h2⟩:=h
  by_cases e:p.1=k
  · rw[if_pos e,if_pos (h1.symm.trans e)];exact⟨h1,ry⟩
  · rw[if_neg e,if_neg (fun z=>e (h1.trans z))];exact⟨h1,h2⟩
theorem KV.put{kvs:List (κ×V)}{vs:List (κ×Value)}(r:KV kvs vs)(k:κ){y:V}{u:Value}(ry:RelV y u):KV (putK kvs k y) (stored vs k u):=by
 unfold putK stored
 rw[r.any k]
 by_cases e:(vs.any fun kv=>decide (kv.1=k))=true
 · rw[if_pos e,if_pos e];exact r.repl k ry
 · rw[if_neg e,if_neg e];exact Paired.snoc r ⟨rfl,ry⟩
theorem KV.length{kvs:List (κ×V)}{vs:List (κ×Value)}(r:KV kvs vs):kvs.length=vs.length:=Paired.length r
end
theorem ZlR{P:Program}{w:World}{k:Key}{u:Value}(r:RelV (kV k) u):(Zbg P w).is k u=true:=by
 cases k with
 | inl i=>obtain⟨t,e⟩:=(show ∃t,u=Value.int i t from r);subst e;exact ZhW P w i t
 | inr x=>obtain⟨t,e⟩:=(show ∃t,u=Value.str x t from r);subst e;exact ZhX P w x t
theorem Zhw{P:Program}{w:World}:∀{ks:List Key}{us:List Value},Vals (ks.map kV) us->ItemsAre (Zbg P w) ks us
 | [],_,r=>by rw[List.map_nil] at r;cases r;exact .nil
 | k :: ks,_,r=>by
  rw[List.map_cons] at r
  cases r with
  | cons h t=>exact .cons (ZlR h) (Zhw t)
abbrev KT(H:Hp):List (List Key×V)->List (List Key×Addr×Value)->Prop:=Paired fun p q=>p.1=q.1/\H q.2.1=some (.tup (p.1.map kV))/\RelV p.2 q.2.2
theorem KT.val{H:Hp}{kvs:List (List Key×V)}{xs:List (List Key×Addr×Value)}(r:KT H kvs xs)(k:List Key):RelO (valV kvs k) ((atKey xs k).map (·.2)):=by
 induction r with
 | nil=>exact True.intro
 | @cons p q ps qs h t ih=>
  obtain⟨h1,_,h2⟩:=h
  by_cases e:p.1=k
  · have e':q.1=k:=h1.symm.trans e
    have b:atKey (q :: qs) k=some q.2:=by simp[atKey,List.find?_cons,e']
    rw[Zfx e,b];exact h2
  · have e':¬q.1=k:=fun z=>e (h1.trans z)
    have b:atKey (q :: qs) k=atKey qs k:=by simp[atKey,List.find?_cons,e']
    rw[Zfy e,b];exact ih
theorem KT.repl{H:Hp}{kvs:List (List Key×V)}{xs:List (List Key×Addr×Value)}(r:KT H kvs xs)(k:List Key){y:V}{u:Value}(ry:RelV y u) :
 KT H (kvs.map fun kv=>if kv.1=k then(kv.1,y) else kv) (xs.map (putAt k u)):=by
 induction r with
 | nil=>exact .nil
 | @cons p q ps qs h t ih=>
  rw[List.map_cons,List.map_cons]
  refine .cons ?_ ih
  obtain⟨h1,h2,h3⟩:=h
  unfold putAt
  by_cases e:p.1=k
  · rw[if_pos e,if_pos (h1.symm.trans e)];exact⟨h1,h2,ry⟩
  · rw[if_neg e,if_neg (fun z=>e (h1.trans z))];exact⟨h1,h2,h3⟩
theorem KT.put{H:Hp}{kvs:List (List Key×V)}{xs:List (List Key×Addr×Value)}(r:KT H kvs xs)(k:List Key){b:Addr}{y:V}{u:Value}(hb:H b=some (.tup (k.map kV)))(ry:RelV y u) :
 KT H (putK kvs k y) (storedH xs k b u):=by
 have e:(kvs.any fun kv=>decide (kv.1=k))=(atKey xs k).isSome:=by
  rw[Ziz,(r.val k).isSome_eq,Option.isSome_map]
 unfold putK storedH
 rw[e]
 by_cases q:(atKey xs k).isSome=true
 · rw[if_pos q,if_pos q];exact r.repl k ry
 · rw[if_neg q,if_neg q];exact Paired.snoc r ⟨rfl,hb,ry⟩
theorem KT.keeps{H H':Hp}{kvs:List (List Key×V)}{xs:List (List Key×Addr×Value)}(r:KT H kvs xs)(ht:∀b ys,H b=some (.tup ys)->H' b=some (.tup ys)):KT H' kvs xs:=
 Paired.mapP r fun _ _ z=>⟨z.1,ht _ _ z.2.1,z.2.2⟩
section
variable{P:Program}{w:World}{H:Hp}{h:Heap}{a:Addr}
theorem Zpp{u:HO}(ok:HOk P w H h)(e:Rd H a u):ObjOk P w H h a u:=e.ok ok
theorem Zjc{kvs:List (Key×V)}(ok:HOk P w H h)(e:Rd H a (.dK kvs)):kvs.length<=sizeLine/\(a == sysModules)=false /\ ∃vs,KV kvs vs/\h.DictOf (Zbg P w) a vs:=
 show ObjOk P w H h a (.dK kvs) from Zpp ok e
theorem Zj3{kvs:List (Key×V)}(ok:HOk P w H h)(e:H a=some (.dK kvs)):kvs.length<=sizeLine/\(a == sysModules)=false /\ ∃vs,KV kvs vs/\h.DictOf (Zbg P w) a vs:=Zjc ok (.inl e)
theorem ZiA{ks:List Key}(ok:HOk P w H h)(e:H a=some (.tup (ks.map kV))):(tupleKind (Zbg P w)).is h ks a:=by
 obtain⟨_,its,r,o,h1,h2,n,h3⟩:=(show ObjOk P w H h a (.tup (ks.map kV)) from ok a _ e)
 exact⟨o,its.toArray,n,h1,h2,h3,by simpa using Zhw r⟩
theorem Zj4{kvs:List (List Key×V)}(ok:HOk P w H h)(e:Rd H a (.dT kvs)):kvs.length<=sizeLine/\(a == sysModules)=false /\
 ∃xs,KT H kvs xs/\h.DictOfH (tupleKind (Zbg P w)) a xs:=by
 obtain⟨z,y,xs,r,o,es,ep,h1,h2,h3,h4,h5⟩:=(show ObjOk P w H h a (.dT kvs) from Zpp ok e)
 refine⟨z,y,xs,r,o,es,ep,h1,h2,h3,h4,fun x hx=>?_,h5⟩
 have all:∀{l:List (List Key×V)}{m:List (List Key×Addr×Value)},KT H l m -> ∀x∈m,(tupleKind (Zbg P w)).is h x.1 x.2.1:=by
  intro l m q
  induction q with
  | nil=>intro x hx;exact nomatch hx
  | @cons p q ps qs hq t ih=>
   intro x hx
   rcases List.mem_cons.mp hx with e | hx
   · subst e
     exact ZiA ok (by rw[<- hq.1];exact hq.2.1)
   · exact ih x hx
 exact all r x hx
theorem ZqG{kvs:List (List Key×V)}(ok:HOk P w H h)(e:H a=some (.dT kvs)):kvs.length<=sizeLine/\(a == sysModules)=false /\
 ∃xs,KT H kvs xs/\h.DictOfH (tupleKind (Zbg P w)) a xs:=Zj4 ok (.inl e)
end
def DGet(H:Hp)(a:Addr)(y:V)(r:Option V):Prop:=
 (∃kvs k,Rd H a (.dK kvs)/\y=kV k/\r=valV kvs k) \/ ∃kvs k b,Rd H a (.dT kvs)/\y=.ref b/\H b=some (.tup (k.map kV))/\r=valV kvs k
def DPut(H:Hp)(a:Addr)(y v:V)(H':Hp):Prop:=
 (∃kvs k,H a=some (.dK kvs)/\y=kV k/\kvs.length<sizeLine/\H'=upd H a (.dK (putK kvs k v))) \/
 ∃kvs k b,H a=some (.dT kvs)/\y=.ref b/\H b=some (.tup (k.map kV))/\kvs.length<sizeLine/\H'=upd H a (.dT (putK kvs k v))
theorem DGet.k{H:Hp}{a:Addr}{kvs:List (Key×V)}{k:Key}(e:H a=some (.dK kvs)):DGet H a (kV k) (valV kvs k):=.inl ⟨kvs,k,.inl e,rfl,rfl⟩
theorem DGet.t{H:Hp}{a b:Addr}{kvs:List (List Key×V)}{k:List Key}(e:H a=some (.dT kvs))(eb:H b=some (.tup (k.map kV))):DGet H a (.ref b) (valV kvs k):=.inr ⟨kvs,k,b,.inl e,rfl,eb,rfl⟩
theorem DPut.k{H:Hp}{a:Addr}{kvs:List (Key×V)}{k:Key}{v:V}(e:H a=some (.dK kvs))(hl:kvs.length<sizeLine):DPut H a (kV k) v (upd H a (.dK (putK kvs k v))):=.inl ⟨kvs,k,e,rfl,hl,rfl⟩
theorem DPut.t{H:Hp}{a b:Addr}{kvs:List (List Key×V)}{k:List Key}{v:V}(e:H a=some (.dT kvs))(eb:H b=some (.tup (k.map kV)))(hl:kvs.length<sizeLine) :
 DPut H a (.ref b) v (upd H a (.dT (putK kvs k v))):=.inr ⟨kvs,k,b,e,rfl,eb,hl,rfl⟩
section
variable{X:Cx}{pins:List (Addr×Obj)}{σ:St}{H:Hp}{s:Shared}{a:Addr}{y v:V}{u r:Value}{o:Option V}{A:Around}{E:Value->Shared->Prop}
theorem Inv.big(I:Inv X pins σ H s):sysModules<s.heap.objs.size:=by
 have h:mainGlobals<s.heap.objs.size:=(I.mod.glob.keeps I.bk).lt
 exact Nat.lt_trans (by decide) h
theorem Zj5{Q:Value->Shared->Prop}(hu:A.units+1<cLine)(I:Inv X pins σ H s)(g:DGet H a y (some v))(ry:RelV y u)(h:∀w' s',Inv X pins σ H s'->RelV v w'->Q w' s') :
 wpAny (model X.prog X.w) A (getItem (.ref a) u) Q E s:=by
 rcases g with⟨kvs,k,e,ey,l⟩ | ⟨kvs,k,b,e,ey,eb,l⟩
 · subst ey
   obtain⟨z,hd,vs,rel,dd⟩:=Zjc I.hok e
   obtain⟨w',hw,rw'⟩:=RelO.some_of (v:=v) (o:=valueAt vs k) (by rw[l];exact rel.val k)
   exact wpAny_getItem_of (ZlR ry) dd.mapOf hw (h w' _ (I.tok _) rw')
 · subst ey
   cases(show u=Value.ref b from ry)
   obtain⟨z,hd,xs,rel,dd⟩:=Zj4 I.hok e
   obtain⟨w',hw,rw'⟩:=RelO.some_of (v:=v) (o:=(atKey xs k).map (·.2)) (by rw[l];exact rel.val k)
   obtain⟨p,hp,hp2⟩:=Option.map_eq_some_iff.mp hw
   refine wpAny_getItem_heap (tupleKind_room_in1 hu) (ZiA I.hok eb) dd hp ?_
   rw[hp2]
   exact h w' _ (I.tok _) rw'
theorem Zj6{h':Heap}{t':Nat}{ob:HO}(I:Inv X pins σ H s)(mu:Mut (H a))(hs:Heap.SameBut a s.heap h')(he:∃q,h'.get? a=some q)(new:ObjOk X.prog X.w (upd H a ob) h' a ob) :
 Inv X pins σ (upd H a ob) { s with heap:=h',toks:=t' }:=
 I.write (x:=a) (e:=a) mu (.inl rfl) (fun b q hb z=>(hs.2 b hb).trans z) he new
theorem ZmG{P:Program}{w:World}{H':Hp}{h':Heap}{kvs:List (Key×V)}{vs:List (Key×Value)}(z:kvs.length<=sizeLine)(hd:(a == sysModules)=false)(rel:KV kvs vs)(dd:h'.DictOf (Zbg P w) a vs) :
 ObjOk P w H' h' a (.dK kvs):=⟨z,hd,vs,rel,dd⟩
theorem Zj7{H':Hp}{Q:Unit->Shared->Prop}(hu:A.units+1<cLine)(I:Inv X pins σ H s)(g:DPut H a y v H')(ry:RelV y u)(rv:RelV v r)(h:∀s',Inv X pins σ H' s'->Q () s') :
 wpAny (model X.prog X.w) A (setItem (.ref a) u r) Q E s:=by
 rcases g with⟨kvs,k,e,ey,l,eH⟩ | ⟨kvs,k,b,e,ey,eb,l,eH⟩
 · subst ey eH
   obtain⟨z,hd,vs,rel,dd⟩:=Zj3 I.hok e
   have hz:vs.length<=sizeLine:=by rw[<- rel.length];exact z
   have hl:(putK kvs k v).length<=sizeLine:=by have:=ZfP kvs k v;omega
   refine wpAny_setItem_pairs (hsz:=hz) (ZlR ry) dd fun h' dd' hs=>h _ ?_
   have he:∃q,h'.get? a=some q:=let ⟨q,_,_,hq,_⟩:=dd';⟨q,hq⟩
   exact Zj6 I (by rw[e];exact True.intro) hs he (ZmG hl hd (rel.put k rv) dd')
 · subst ey eH
   cases(show u=Value.ref b from ry)
   obtain⟨z,hd,xs,rel,dd⟩:=ZqG I.hok e
   have hz:xs.length<=sizeLine:=by rw[<- Paired.length rel];exact z
   have hl:(putK kvs k v).length<=sizeLine:=by have:=ZfP kvs k v;omega
   refine wpAny_setItem_heap (hsz:=hz) (tupleKind_room_in1 hu) (ZiA I.hok eb) dd fun h' dd' hs=>h _ ?_
   obtain⟨q,es,ep,hq,h2,h3,h4,_,h5⟩:=dd'
   refine Zj6 I (by rw[e];exact True.intro) hs ⟨q,hq⟩ ⟨hl,hd,_,(rel.put k eb rv).keeps fun c ys ec=>?_,q,es,ep,hq,h2,h3,h4,h5⟩
   rw[Zan (ZqD ec e (fun z=>nomatch z))]
   exact ec
end
section
variable{X:Cx}{pins:List (Addr×Obj)}{σ:St}{H:Hp}{s:Shared}{a:Addr}{kvs:List (Key×V)}{k:Key}{u:Value}{A:Around}{E:Value->Shared->Prop}
end
def NoSl(i:Expr):Prop:=∀ov iv,subscripted i false ov iv=operate [ov,iv] (getItem ov iv)
theorem ZnU{prog:Program}{w:World}{A:Around}{E:Value->Shared->Prop}{s:Shared}{env:Env}{value slice:Expr}{pos:Pos}{T id:String}{Q:Value->Shared->Prop}
 (hl:typeLookup (.type T) "__getitem__"=pure (some (.builtin id))) (hs:NoSl slice)
 (h:wpAny (model prog w) A (eval value env) (fun o s₁=>wpAny (model prog w) A (eval slice env) (fun i s₂=>s₂.TypeIs o T/\wpAny (model prog w) A (getItem o i) Q E s₂) E s₁) E s) :
 wpAny (model prog w) A (eval (.Subscript value slice pos) env) Q E s:=by
 refine Subscript_ (wpAny_mono h (fun o s₁ h₁=>wpAny_mono h₁ (fun i s₂ h₂=>?_) fun _ _ x=>x) fun _ _ x=>x)
 obtain⟨hT,h₂⟩:=h₂
 unfold subscriptTail
 refine wpAny_bind ?_
 rw[getitemInPython_of_ne hT.not_modules]
 refine wpAny_bind (wpAny_specialOf hT hl ?_)
 have fin:wpAny (model prog w) A (subscripted slice false o i) (fun r s₃=>wpAny (model prog w) A (letTemporaryGo value o r >>= fun _=>pure r) Q E s₃) E s₂:=by
  rw[hs o i]
  exact wpAny_operating (wpAny_mono h₂ (fun r s₃ h₃=>wpAny_bind (wpAny_letTemporaryGo (wpAny_pure h₃))) fun _ _ x=>x)
 first
  | exact wpAny_pure (wpAny_bind fin)
  | exact wpAny_bind (wpAny_pure (wpAny_bind fin))
  | exact wpAny_bind fin
theorem Zh4{X:Cx}{pins:List (Addr×Obj)}{σ:St}{H:Hp}{s:Shared}{a:Addr}{y:V}{o:Option V}(I:Inv X pins σ H s)(g:DGet H a y o):s.TypeIs (.ref a) "dict":=by
 rcases g with⟨kvs,k,e,_,_⟩ | ⟨kvs,k,b,e,_,_,_⟩
 · obtain⟨_,_,vs,_,dd⟩:=Zjc I.hok e
   exact dd.typeIs
 · obtain⟨_,_,xs,_,dd⟩:=Zj4 I.hok e
   exact dd.typeIs
def Zpq(td ty:TE):TE:=fun σ H Q=>td σ H fun x H1=>ty σ H1 fun y H2=>∃a v,x=.ref a/\DGet H2 a y (some v)/\Q v H2
def sDPut(td ty tv:TE):TS:=fun D σ H=>tv σ H fun v H1=>td σ H1 fun x H2=>ty σ H2 fun y H3=>∃a H4,x=.ref a/\DPut H3 a y v H4/\D.nx σ H4
section
variable{X:Cx}{o i e value:Expr}{pos pos' tpos:Pos}{td ty tv:TE}
theorem ZnV(hu:X.A.units+1<cLine)(ho:PE X o td)(hi:PE X i ty)(hs:NoSl i):PE X (.Subscript o i pos) (Zpq td ty):=by
 intro pins s σ H Q I h
 refine ZnU PySem.F.slot_dict_getitem.lookup hs (thn (ho pins s σ H _ I h) fun u s1 ⟨x,H1,I1,rx,q1⟩=>thn (hi pins s1 σ H1 _ I1 q1) fun iv s2 ⟨y,H2,I2,ry,a,v,ex,g,q2⟩=>?_)
 subst ex
 obtain rfl:u=Value.ref a:=rx
 exact⟨Zh4 I2 g,Zj5 hu I2 g ry fun w' s3 I3 rw'=>⟨v,H2,I3,rw',q2⟩⟩
theorem Zh5(hu:X.A.units+1<cLine)(ho:PE X o td)(hi:PE X i ty)(hv:PE X value tv)(hs:swapsWith value (some (.Subscript o i pos')) pos.line X.env=pure false) :
 PS X (.Assign [.Subscript o i pos'] value pos) (sDPut td ty tv):=by
 intro pins s σ H D I h
 refine wpAny_Assign_Subscript (thn (hv pins s σ H _ I h) fun r s1 ⟨v,H1,I1,rv,q1⟩=>thn (ho pins s1 σ H1 _ I1 q1) fun u s2 ⟨x,H2,I2,rx,q2⟩=>thn (hi pins s2 σ H2 _ I2 q2) fun iv s3 ⟨y,H3,I3,ry,a,H4,ex,g,q3⟩=>?_) hs
 subst ex
 obtain rfl:u=Value.ref a:=rx
 exact Zj7 hu I3 g ry rv fun s4 I4=>⟨σ,H4,I4,q3⟩
end
theorem ZlS{P:Program}{w:World}{H:Hp}(h:Heap)(hb:sysModules<h.objs.size):ObjOk P w H (h.push { cls:=.type "dict",data:=.dict #[] }) h.objs.size (.dK []):=
 ⟨Nat.zero_le _,beq_eq_false_iff_ne.mpr (Ne.symm (Nat.ne_of_lt hb)),[],.nil,Heap.DictOf.new h⟩
def ZmH:TE:=fun _ H Q=>∀p,H p=none->Q (.ref p) (upd H p (.dK []))
section
variable{X:Cx}{pos:Pos}
theorem ZiB:PE X (.Dict [] [] pos) ZmH:=fun pins s σ H Q I h=>
 wpAny_Dict_empty ⟨.ref s.heap.objs.size,_,I.laid (a:=s.heap.objs.size) (o:=.dK []) (t':=s.toks) (fun _ _ q=>Heap.get?_push_of_some _ q) (Nat.le_refl _) (ZlS s.heap I.big),rfl,h _ (I.hok.fresh (Nat.le_refl _))⟩
end
abbrev VV:List (V×V)->List (Value×Value)->Prop:=Paired fun p q=>RelV p.1 q.1/\RelV p.2 q.2
structure M1(X:Cx)(o:Expr)(m:Str)(apos:Pos)(e:Expr)(cpos:Pos):Prop where
 base:attributeBase o m X.env (eval o X.env)=eval o X.env
 few:((backTo cpos (starEach [e] X.env)).all (fun x=>!x.1)&&(backToKw cpos (keywordEach [] X.env)).all (fun x=>x.1.isSome)
  && decide (([e]:List Expr).length+([]:List Keyword).length+(if ([]:List Keyword).isEmpty then 0 else 1)<30))=true
 line:(apos.endLine == cpos.line)=true
 trees:backTo cpos (starEach [e] X.env)=[(false,eval e X.env)]
structure M2(X:Cx)(o:Expr)(m:Str)(apos:Pos)(e f:Expr)(cpos:Pos):Prop where
 base:attributeBase o m X.env (eval o X.env)=eval o X.env
 few:((backTo cpos (starEach [e,f] X.env)).all (fun x=>!x.1)&&(backToKw cpos (keywordEach [] X.env)).all (fun x=>x.1.isSome)
  && decide (([e,f]:List Expr).length+([]:List Keyword).length+(if ([]:List Keyword).isEmpty then 0 else 1)<30))=true
 line:(apos.endLine == cpos.line)=true
 trees:backTo cpos (starEach [e,f] X.env)=[(false,eval e X.env),(false,eval f X.env)]
def IsD(H:Hp)(a:Addr):Prop:=(∃kvs,Rd H a (.dK kvs)) \/ ∃kvs,Rd H a (.dT kvs)
theorem Zpr{X:Cx}{pins:List (Addr×Obj)}{σ:St}{H:Hp}{s:Shared}{a:Addr}(I:Inv X pins σ H s)(d:IsD H a) :
 s.TypeIs (.ref a) "dict"/\(∀b,Value.ref a=.ref b -> ∃ob,s.heap.get? b=some ob/\ob.dict=none)/\(a == sysModules)=false:=by
 rcases d with⟨kvs,e⟩ | ⟨kvs,e⟩
 · obtain⟨_,hd,vs,_,dd⟩:=Zjc I.hok e
   refine⟨dd.typeIs,fun b q=>?_,hd⟩
   cases q
   obtain⟨ob,_,_,h1,h2,_⟩:=dd
   exact⟨ob,h1,h2.2.1⟩
 · obtain⟨_,hd,xs,_,dd⟩:=Zj4 I.hok e
   refine⟨dd.typeIs,fun b q=>?_,hd⟩
   cases q
   obtain⟨ob,_,_,h1,h2,_⟩:=dd
   exact⟨ob,h1,h2.2.1⟩
section
variable{X:Cx}{pins:List (Addr×Obj)}{σ:St}{H:Hp}{s:Shared}{a:Addr}{y d:V}{u r:Value}{o:Option V}{A:Around}{E:Value->Shared->Prop}
theorem Zps{Q:Value->Shared->Prop}(hu:A.units+1<cLine)(I:Inv X pins σ H s)(g:DGet H a y o)(ry:RelV y u)(rd:RelV d r)(h:∀w' s',Inv X pins σ H s'->RelV (o.getD d) w'->Q w' s') :
 wpAny (model X.prog X.w) A (call (.builtin "dict.get") [.ref a,u,r]) Q E s:=by
 rcases g with⟨kvs,k,e,ey,l⟩ | ⟨kvs,k,b,e,ey,eb,l⟩
 · subst ey
   obtain⟨z,hd,vs,rel,dd⟩:=Zjc I.hok e
   refine call_meetsIn PySem.F.slot_dict_get dd.typeIs PySem.F.entry_dict_get (PySem.F.args_dict_get_3 _ _ _) (meets_dict_get_default (Zbg X.prog X.w) a (ZlR ry) hd r) ⟨_,dd.mapOf,h _ _ (I.tok _) ?_⟩
   rw[l]
   exact(rel.val k).getD rd
 · subst ey
   cases(show u=Value.ref b from ry)
   obtain⟨z,hd,xs,rel,dd⟩:=Zj4 I.hok e
   refine call_meetsIn PySem.F.slot_dict_get dd.typeIs PySem.F.entry_dict_get (PySem.F.args_dict_get_3 _ _ _) (meetsH_dict_get_default (tupleKind (Zbg X.prog X.w)) a b hd r) ⟨tupleKind_room_in1 hu,k,xs,ZiA I.hok eb,dd,h _ _ (I.tok _) ?_⟩
   rw[l]
   exact(rel.val k).getD rd
end
def Zj8(td ty tx:TE):TE:=fun σ H Q=>td σ H fun x H1=>∃a,x=.ref a/\IsD H1 a/\ty σ H1 fun y H2=>tx σ H2 fun z H3=>∃o,DGet H3 a y o/\Q (o.getD z) H3
section
variable{X:Cx}{o e f:Expr}{apos cpos:Pos}{td ty tx:TE}
theorem ZlT(hu:X.A.units+1<cLine)(ho:PE X o td)(he:PE X e ty)(hf:PE X f tx)(m:M2 X o "get" apos e f cpos):PE X (.Call (.Attribute o "get" apos) [e,f] [] cpos) (Zj8 td ty tx):=by
 intro pins s σ H Q I h
 refine wpAny_Call_method m.base m.few m.line PySem.F.plainAttrs_dict PySem.F.slot_dict_get PySem.F.type_dict_get (thn (ho pins s σ H _ I h) fun u s1 ⟨x,H1,I1,rx,a,ex,d,q1⟩=>?_)
 subst ex
 obtain rfl:u=Value.ref a:=rx
 obtain⟨t1,t2,_⟩:=Zpr I1 d
 refine⟨t1,t2,?_⟩
 rw[m.trees]
 refine Calls.callWith_builtin rfl (Calls.evalArgs_plain (Calls.spliced_cons (thn (he pins s1 σ H1 _ I1 q1) fun iv s2 ⟨y,H2,I2,ry,q2⟩=>
  Calls.spliced_cons (thn (hf pins s2 σ H2 _ I2 q2) fun fv s3 ⟨z,H3,I3,rz,ov,g,q3⟩=>Calls.spliced_nil ?_))))
 exact Zps hu I3 g ry rz fun w' s4 I4 rw'=>⟨_,H3,I4,rw',q3⟩
end
section
variable{X:Cx}{pins:List (Addr×Obj)}{σ:St}{H:Hp}{s:Shared}{a:Addr}{kvs:List (Key×V)}{A:Around}{E:Value->Shared->Prop}
theorem ZlU{Q:Value->Shared->Prop}(I:Inv X pins σ H s)(e:Rd H a (.dK kvs))(h:∀p s',H p=none->Inv X pins σ (upd H p (.dK kvs)) s'->Q (.ref p) s'):wpAny (model X.prog X.w) A (call (.type "dict") [.ref a]) Q E s:=by
 obtain⟨z,hd,vs,rel,dd⟩:=Zjc I.hok e
 refine kt_call_dict hd dd (by rw[<- rel.length];exact z) fun h' dd' hs=>?_
 refine h _ _ (I.hok.fresh (Nat.le_refl _)) (I.laid (a:=s.heap.objs.size) (o:=.dK kvs) (t':=s.toks) (fun b q hq=>?_) (Nat.le_refl _) (ZmG z (beq_eq_false_iff_ne.mpr (Ne.symm (Nat.ne_of_lt I.big))) rel dd'))
 exact(hs.2 b (Nat.ne_of_lt (Heap.lt_size hq))).trans (Heap.get?_push_of_some _ hq)
end
section
variable{X:Cx}{pins:List (Addr×Obj)}{σ:St}{H:Hp}{s:Shared}{a:Addr}{y:V}{u:Value}{A:Around}{E:Value->Shared->Prop}
end
end L2
namespace L2
open PySem PySem.Spec PyProof.Rows PySem.W
section
variable{X:Cx}
theorem Zh6:∀{xs:List V}{us:List Value},us.length=xs.length->(∀(i:Nat) x u,xs[i]? = some x->us[i]? = some u->RelV x u)->Vals xs us
 | [],[],_,_=>.nil
 | [],_ :: _,e,_=>by simp at e
 | _ :: _,[],e,_=>by simp at e
 | x :: xs,u :: us,e,h=>.cons (h 0 x u rfl rfl) (Zh6 (by simpa using e) fun i y z a b=>h (i+1) y z (by simpa using a) (by simpa using b))
theorem Zpt{P:Program}{w:World}{k:Key}{u:Value}(h:(Zbg P w).is k u=true):RelV (kV k) u:=by
 rcases Zbf (show ZhV k u=true from h) with⟨i,t,rfl,rfl⟩ | ⟨x,t,rfl,rfl⟩
 · exact⟨t,rfl⟩
 · exact⟨t,rfl⟩
theorem Zpu{P:Program}{w:World}{h:Heap}{a:Addr}{vs:List (Key×Value)}(dd:h.DictOf (Zbg P w) a vs):∃ep,h.DictAt (Zbg P w) a vs ep:=by
 obtain⟨o,es,ep,r⟩:=dd
 exact⟨ep,o,es,r⟩
theorem Zj9:∀{kvs:List (Key×V)}{vs:List (Key×Value)},KV kvs vs -> ∀(i:Nat) k v k' u,kvs[i]? = some (k,v)->vs[i]? = some (k',u)->k=k'/\RelV v u:=by
 intro kvs vs r
 induction r with
 | nil=>intro i k v k' u e;simp at e
 | cons h t ih=>
  intro i k v k' u e e'
  cases i with
  | zero=>simp at e e';subst e e';exact h
  | succ i=>exact ih i k v k' u (by simpa using e) (by simpa using e')
theorem Zjd(hc:X.calm=true):ZcD X (.type "list") (fun xs H Q=>∃p kvs,xs=[.ref p]/\H p=some (.dK kvs) /\ ∀l,H l=none->Q (.ref l) (upd H l (.lst (kvs.map fun kv=>kV kv.1)))):=by
 intro pins s σ H xs us Q I r h
 obtain⟨p,kvs,rfl,hp,q⟩:=h
 obtain⟨u,rfl,rx⟩:=ZeU r
 cases rx
 obtain⟨z,hd,vs,rel,dd⟩:=Zj3 I.hok hp
 obtain⟨ep,da⟩:=Zpu dd
 refine kdl_call (kdl_dict hd) (I.ok.hd hc) da (by rw[<- rel.length];exact z) fun h' tk acc' c' kp e it=>?_
 refine⟨.ref s.heap.objs.size,_,I.laid (t':=tk) kp (Nat.le_refl _) (show ObjOk X.prog X.w _ h' _ (.lst (kvs.map fun kv=>kV kv.1)) from⟨by rw[List.length_map];exact z,acc'.toList,c',?_,by simpa using e⟩),rfl,q _ (I.hok.fresh (Nat.le_refl _))⟩
 refine Zh6 (by rw[List.length_map,Array.length_toList,rel.length];exact it.1) fun i x u hx hu=>?_
 rw[List.getElem?_map] at hx
 cases qk:kvs[i]? with
 | none=>rw[qk] at hx;cases hx
 | some kv=>
  rw[qk] at hx
  cases hx
  obtain⟨k',x',h1,h2⟩:=it.2 i u (by rw[<- Array.getElem?_toList];exact hu)
  obtain⟨e1,_⟩:=Zj9 rel i kv.1 kv.2 k' x' qk h1
  show RelV (kV kv.1) u
  rw[e1]
  exact Zpt h2
def Zje(p a:Addr):HO:=.ext fun h=>h.IsValuesView p a
def ZlV:V->List V->Hp->VK->Prop:=fun x vs H Q=>∃a kvs,x=.ref a/\vs=[]/\H a=some (.dK kvs) /\ ∀p,H p=none->Q (.ref p) (upd H p (Zje p a))
theorem Zka:MtM X "dict.values" ZlV:=by
 intro pins s σ H x vs v us Q I rx rv h
 obtain⟨a,kvs,rfl,rfl,ha,q⟩:=h
 cases rx
 cases rv
 obtain⟨z,hd,vs,rel,dd⟩:=Zj3 I.hok ha
 refine call_meetsIn PySem.F.slot_dict_values dd.typeIs PySem.F.entry_dict_values (PySem.F.args_dict_values_1 _) (meets_dict_values (Zbg X.prog X.w) a hd) ⟨⟨vs,dd⟩,?_⟩
 have hv:(s.heap.push { cls:=.type "dict_values",data:=.fields #[.ref a] }).IsValuesView s.heap.objs.size a:=⟨_,Heap.get?_push_size _ rfl,rfl,rfl⟩
 refine⟨.ref s.heap.objs.size,_,I.laid (t':=s.toks) (o:=Zje s.heap.objs.size a) (fun b o e=>Heap.get?_push_of_some _ e) (Nat.le_refl _) ⟨hv,⟨_,Heap.get?_push_size _ rfl⟩,fun h1 h2 ⟨o,e,r⟩ k=>⟨o,k o e,r⟩⟩,rfl,q _ (I.hok.fresh (Nat.le_refl _))⟩
theorem Zjf(hc:X.calm=true):ZcD X (.type "list") (fun xs H Q=>∃p a kvs,xs=[.ref p]/\H p=some (Zje p a)/\H a=some (.dK kvs) /\ ∀l,H l=none->Q (.ref l) (upd H l (.lst (kvs.map fun kv=>kv.2)))):=by
 intro pins s σ H xs us Q I r h
 obtain⟨p,a,kvs,rfl,hp,ha,q⟩:=h
 obtain⟨u,rfl,rx⟩:=ZeU r
 cases rx
 obtain⟨z,hd,vs,rel,dd⟩:=Zj3 I.hok ha
 obtain⟨ep,da⟩:=Zpu dd
 obtain⟨hv,_⟩:=I.hok p _ hp
 refine kdl_call kdl_values (I.ok.hd hc) ⟨hv,da⟩ (by rw[<- rel.length];exact z) fun h' tk acc' c' kp e it=>?_
 refine⟨.ref s.heap.objs.size,_,I.laid (t':=tk) kp (Nat.le_refl _) (show ObjOk X.prog X.w _ h' _ (.lst (kvs.map fun kv=>kv.2)) from⟨by rw[List.length_map];exact z,acc'.toList,c',?_,by simpa using e⟩),rfl,q _ (I.hok.fresh (Nat.le_refl _))⟩
 refine Zh6 (by rw[List.length_map,Array.length_toList,rel.length];exact it.1) fun i x u hx hu=>?_
 rw[List.getElem?_map] at hx
 cases qk:kvs[i]? with
 | none=>rw[qk] at hx;cases hx
 | some kv=>
  rw[qk] at hx
  cases hx
  obtain⟨k',h1⟩:=it.2 i u (by rw[<- Array.getElem?_toList];exact hu)
  exact(Zj9 rel i kv.1 kv.2 k' u qk h1).2
theorem Zpv{x:V}{u t:Value}{pins:List (Addr×Obj)}{σ:St}{H:Hp}{s:Shared}(I:Inv X pins σ H s)(rx:RelV x u)(ty:TyOf X.K H x t):∃G:Heap->Prop,PySem.W.KitX X.K u t G/\G s.heap/\u≠.builtin "__main__.__loader__#opaque":=by
 cases ty with
 | non=>cases(show u=Value.none from rx);exact⟨_,PySem.W.kitx_none,True.intro,fun z=>nomatch z⟩
 | bl y=>cases(show u=Value.bool y from rx);exact⟨_,PySem.W.kitx_bool,True.intro,fun z=>nomatch z⟩
 | int i=>obtain⟨t,q⟩:=(show ∃t,u=Value.int i t from rx);cases q;exact⟨_,PySem.W.kitx_int,True.intro,fun z=>nomatch z⟩
 | str y=>obtain⟨t,q⟩:=(show ∃t,u=Value.str y t from rx);cases q;exact⟨_,PySem.W.kitx_str,True.intro,fun z=>nomatch z⟩
 | flt y=>obtain⟨t,q⟩:=(show ∃t,u=Value.float y t from rx);cases q;exact⟨_,PySem.W.kitx_float,True.intro,fun z=>nomatch z⟩
 | @lst a xs ea=>
  cases(show u=Value.ref a from rx)
  obtain⟨_,_,n,_,h1⟩:=(show ObjOk X.prog X.w H s.heap a (.lst xs) from I.hok a _ ea)
  exact⟨_,PySem.W.kitx_list,⟨_,h1,rfl⟩,fun z=>nomatch z⟩
 | @frz a ob xs ea=>
  cases(show u=Value.ref a from rx)
  obtain⟨_,_,_,n,_,h1⟩:=(show ObjOk X.prog X.w H s.heap a (.frz ob (.lst xs)) from I.hok a _ ea)
  exact⟨_,PySem.W.kitx_list,⟨_,h1,rfl⟩,fun z=>nomatch z⟩
 | @tup a xs ea=>
  cases(show u=Value.ref a from rx)
  obtain⟨_,_,_,p⟩:=(show ObjOk X.prog X.w H s.heap a (.tup xs) from I.hok a _ ea)
  obtain⟨o,h1,h2,_⟩:=p
  exact⟨_,PySem.W.kitx_tuple,⟨o,h1,h2⟩,fun z=>nomatch z⟩
 | @dK a kvs ea=>
  cases(show u=Value.ref a from rx)
  obtain⟨_,_,vs,_,p⟩:=(show ObjOk X.prog X.w H s.heap a (.dK kvs) from I.hok a _ ea)
  obtain⟨o,es,ep,h1,h2,_⟩:=p
  exact⟨_,PySem.W.kitx_dict,⟨o,h1,h2.1⟩,fun z=>nomatch z⟩
 | @dT a kvs ea=>
  cases(show u=Value.ref a from rx)
  obtain⟨_,_,xs,_,o,es,ep,h1,h2,_⟩:=(show ObjOk X.prog X.w H s.heap a (.dT kvs) from I.hok a _ ea)
  exact⟨_,PySem.W.kitx_dict,⟨o,h1,h2.1⟩,fun z=>nomatch z⟩
 | @ins a C dx fs ea cl ha hn htk hm=>
  cases(show u=Value.ref a from rx)
  obtain⟨mA,O,_⟩:=ZfM I.hok ea
  obtain⟨od,J,_⟩:=O.look
  exact⟨_,PySem.W.kitx_own (cl.get _) cl.hd ha hn htk hm,J,fun z=>nomatch z⟩
theorem Zjg:ZcD X (.builtin "isinstance") (fun xs H Q=>∃x tp c d t b,xs=[x,.ref tp]/\H tp=some (.tup [.ty c,.ty d])/\TyOf X.K H x t/\PySem.W.kitAny X.K t [.type c,.type d]=some b/\Q (.bl b) H):=by
 intro pins s σ H xs us Q I r h
 obtain⟨x,tp,c,d,t,b,rfl,htp,ty,e,q⟩:=h
 obtain⟨u1,u2,rfl,r1,r2⟩:=ZlA r
 cases(show u2=Value.ref tp from r2)
 obtain⟨G,Z,g,hne⟩:=Zpv I r1 ty
 obtain⟨_,its,rv,o,h1,h2,hh⟩:=(show ObjOk X.prog X.w H s.heap tp (.tup _) from I.hok tp _ htp)
 obtain⟨w1,w2,rfl,q1,q2⟩:=ZlA rv
 cases(show w1=Value.type c from q1)
 cases(show w2=Value.type d from q2)
 obtain⟨oc,od,oda,osl⟩:=o
 obtain⟨n,hd⟩:=hh
 dsimp only at h2 hd
 subst h2 hd
 exact PySem.W.kia_tup Z I.kIn g h1 e hne fun tk=>⟨.bl b,H,I.tok tk,rfl,q⟩
end
end L2
namespace PySem.W
open PySem PySem.Spec PySem.Calls PyProof.Rows Builtin Builtin.ObjectAttr Builtin.Getset_descriptor
section
variable{prog:Program}{w:World}{A:Around}{E:Value->Shared->Prop}{s:Shared}{K:Frag}{x C:Addr}{name:Str}{R:Result->Shared->Prop}
def ClsAt(x C:Addr)(h:Heap):Prop:=∃o,h.get? x=some o/\o.cls=.ref C
theorem ClsAt.type{M:Model}{h:Heap}(I:ClsAt x C h):Looks M h (typeOf (.ref x)) (.ref C):=by
 obtain⟨o,h1,h2⟩:=I
 exact h2▸(Looks.ld h1).andThen .now
end
end PySem.W
namespace PySem
open Sem (wp)
open F
section
variable{prog:Program}{w:World}{A:Around}{E:Value->Shared->Prop}{s:Shared}
structure Inn(prog:Program)(w:World)(it l:Addr)(items:Array Value)(St:Nat->Heap->Prop):Prop where
 keep:∀(k:Nat) (h h':Heap),St k h->(∀c o,c=it\/c=l->h.get? c=some o->h'.get? c=some o)->St k h'
 item:∀(A:Around) (E:Value->Shared->Prop) (s:Shared) (k:Nat) (x:Value) (Q:Value->Shared->Prop),St k s.heap->items[k]? = some x ->
  (∀h',St (k+1) h'->Heap.SameBut it s.heap h'->Q x { s with heap:=h' })->wpAny (model prog w) A (Builtin.SmallTypes.nextOf (.ref it)) Q E s
 stop:∀(A:Around) (E:Value->Shared->Prop) (s:Shared) (k:Nat) (Q:Value->Shared->Prop),A.handled=none->St k s.heap->items[k]? = none ->
  (∀h' e,Heap.ExtBut it s.heap h'->(∃o,h'.get? e=some o/\o.cls=.type "StopIteration")->E (.ref e) { s with heap:=h' })->wpAny (model prog w) A (Builtin.SmallTypes.nextOf (.ref it)) Q E s
theorem Inn.but{it l b:Addr}{items:Array Value}{St:Nat->Heap->Prop}{k:Nat}{h h':Heap}(J:Inn prog w it l items St)(x:St k h)(hs:Heap.ExtBut b h h')(n1:it≠b)(n2:l≠b):St k h':=
 J.keep k h h' x fun c o hc e=>hs c o (by rcases hc with rfl | rfl;exact n1;exact n2) e
theorem Zkb{z TI TO i1 i2 l1 l2:Addr}{S1 S2:Nat->Heap->Prop}{k1 k2:Nat}{xs ys:Array Value}{x y a b:Value}{Q:Value->Shared->Prop}(D:ZipApart z TI TO i1 i2 l1 l2)(J1:Inn prog w i1 l1 xs S1)(J2:Inn prog w i2 l2 ys S2)
 (hz:IsZip s.heap z TI TO .none) (hTI:IsPair s.heap TI (.ref i1) (.ref i2)) (hTO:IsPair s.heap TO a b) (h1:S1 k1 s.heap) (h2:S2 k2 s.heap) (hx:xs[k1]? = some x) (hy:ys[k2]? = some y)
 (hQ:∀h',IsZip h' z TI TO (rawInt s.heap.objs.size)->IsPair h' TO x y->S1 (k1+1) h'->S2 (k2+1) h'->IsPair h' s.heap.objs.size x y ->
   (∀c o,c≠z->c≠TO->c≠i1->c≠i2->s.heap.get? c=some o->h'.get? c=some o)->Q (.ref s.heap.objs.size) { s with heap:=h' }) :
 wpAny (model prog w) A (Builtin.«zip.__next__» ⟨[.ref z],[]⟩) (fun fin s'=>∃v,fin=.done (.ret v)/\Q v s') E s:=by
 show wpAny _ _ (field (.ref z) 2 >>= _) _ _ _
 refine wpAny_bind (wpAny_field hz rfl (x:=.bool false) rfl ?_)
 show wpAny _ _ (field (.ref z) 3 >>= _) _ _ _
 refine wpAny_bind (wpAny_field hz rfl (x:=.ref TI) rfl (wpAny_bind (wpAny_seqItems hTI rfl ?_)))
 show wpAny _ _ (Builtin.SmallTypes.ownedTupleIsFree (.ref z) >>= _) _ _ _
 refine wpAny_bind ?_
 unfold Builtin.SmallTypes.ownedTupleIsFree
 refine wpAny_bind (wpAny_field hz rfl (x:=.none) rfl (wpAny_pure ?_))
 simp only[if_true]
 refine wpAny_bind (wpAny_rule (wpAny_bind (wpAny_field hz rfl (x:=.ref TO) rfl (wpAny_bind (wpAny_setField_rec hz (by simp) fun g1 z1 w1=>?_)))))
 replace z1:IsZip g1 z TI TO .ellipsis:=z1
 refine wpAny_bind ?_
 simp only[List.zipIdx_cons,List.zipIdx_nil,List.forIn_cons,List.forIn_nil]
 have b1:S1 k1 g1:=J1.but h1 w1.extBut D.i1z D.l1z
 have b2:S2 k2 g1:=J2.but h2 w1.extBut D.i2z D.l2z
 refine wpAny_bind (wpAny_bind (wpAny_onRaise ?_))
 show wpAny _ _ (Builtin.SmallTypes.nextOf (.ref i1) >>= _) _ _ _
 refine wpAny_bind (J1.item _ _ _ k1 x _ b1 hx fun g2 c1 w2=>wpAny_pure ?_)
 have o2:IsPair g2 TO a b:=w2.extBut _ _ D.TOi1 (w1.extBut _ _ D.TOz hTO)
 refine wpAny_bind (wpAny_seqItems o2 rfl (wpAny_bind (wpAny_updateSeq_pair o2 fun g3 o3 w3=>?_)))
 replace o3:IsPair g3 TO x b:=o3
 refine wpAny_bind (wpAny_letGo (wpAny_pure ?_))
 have c2:S2 k2 g3:=J2.but (J2.but b2 w2.extBut D.i12.symm D.l2i1) w3.extBut D.TOi2.symm D.l2TO
 refine wpAny_bind (wpAny_bind (wpAny_onRaise ?_))
 show wpAny _ _ (Builtin.SmallTypes.nextOf (.ref i2) >>= _) _ _ _
 refine wpAny_bind (J2.item _ _ _ k2 y _ c2 hy fun g4 d2 w4=>wpAny_pure ?_)
 have o4:IsPair g4 TO x b:=w4.extBut _ _ D.TOi2 o3
 refine wpAny_bind (wpAny_seqItems o4 rfl (wpAny_bind (wpAny_updateSeq_pair o4 fun g5 o5 w5=>?_)))
 replace o5:IsPair g5 TO x y:=o5
 refine wpAny_bind (wpAny_letGo (wpAny_pure (wpAny_pure (wpAny_bind (wpAny_seqItems o5 rfl (wpAny_bind (wpAny_newTuple ?_)))))))
 have size:g5.objs.size=s.heap.objs.size:=by rw[w5.1,w4.1,w3.1,w2.1,w1.1]
 have z5:IsZip g5 z TI TO .ellipsis:=w5.extBut _ _ D.TOz.symm (w4.extBut _ _ D.i2z.symm (w3.extBut _ _ D.TOz.symm (w2.extBut _ _ D.i1z.symm z1)))
 have e1:S1 (k1+1) g5:=J1.but (J1.but (J1.but c1 w3.extBut D.TOi1.symm D.l1TO) w4.extBut D.i12 D.l1i2) w5.extBut D.TOi1.symm D.l1TO
 have e2:S2 (k2+1) g5:=J2.but d2 w5.extBut D.TOi2.symm D.l2TO
 have rest:∀c o,c≠z->c≠TO->c≠i1->c≠i2->s.heap.get? c=some o->g5.get? c=some o:=fun c o n1 n2 n3 n4 e=>w5.extBut _ _ n2 (w4.extBut _ _ n4 (w3.extBut _ _ n2 (w2.extBut _ _ n3 (w1.extBut _ _ n1 e))))
 have zlt:z<g5.objs.size:=Heap.lt_size z5
 show wpAny _ _ (Builtin.SmallTypes.ownedTupleHandOut (.ref z) (.ref g5.objs.size) >>= _) _ _ _
 refine wpAny_bind ?_
 unfold Builtin.SmallTypes.ownedTupleHandOut
 have z6:IsZip (g5.push { cls:=.type "tuple",data:=.seq #[x,y] }) z TI TO .ellipsis:=Heap.get?_push_of_some _ z5
 refine wpAny_bind (wpAny_setField_rec z6 (by simp) fun g7 z7 w7=>?_)
 replace z7:IsZip g7 z TI TO (rawInt g5.objs.size):=z7
 refine wpAny_setField_rec z7 (by simp) fun g8 z8 w8=>?_
 replace z8:IsZip g8 z TI TO (rawInt g5.objs.size):=z8
 have up:∀c o,c≠z->g5.get? c=some o->g8.get? c=some o:=fun c o n e=>w8.extBut _ _ n (w7.extBut _ _ n (Heap.get?_push_of_some _ e))
 have t8:IsPair g8 g5.objs.size x y:=w8.extBut _ _ (Nat.ne_of_gt zlt) (w7.extBut _ _ (Nat.ne_of_gt zlt) (Heap.get?_push_size _ rfl))
 rw[size] at z8 t8
 refine wpAny_pure ⟨_,rfl,?_⟩
 show Q (.ref g5.objs.size) _
 rw[size]
 exact hQ g8 z8 (up _ _ D.TOz o5) (J1.keep _ _ _ e1 fun c o hc e=>up c o (by rcases hc with rfl | rfl;exact D.i1z;exact D.l1z) e) (J2.keep _ _ _ e2 fun c o hc e=>up c o (by rcases hc with rfl | rfl;exact D.i2z;exact D.l2z) e) t8 fun c o n1 n2 n3 n4 e=>up c o n1 (rest c o n1 n2 n3 n4 e)
theorem ZlW{z TI TO i1 i2 l1 l2:Addr}{S1 S2:Nat->Heap->Prop}{k1 k2:Nat}{xs ys:Array Value}{a b:Value}{Q:Fin->Shared->Prop}(hh:A.handled=none)(D:ZipApart z TI TO i1 i2 l1 l2)(J1:Inn prog w i1 l1 xs S1)(J2:Inn prog w i2 l2 ys S2)
 (hz:IsZip s.heap z TI TO .none) (hTI:IsPair s.heap TI (.ref i1) (.ref i2)) (hTO:IsPair s.heap TO a b) (h1:S1 k1 s.heap) (h2:S2 k2 s.heap) (hend:xs[k1]? = none\/ys[k2]? = none)
 (hE:∀h' e,(∀c o,c≠z->c≠TO->c≠i1->c≠i2->s.heap.get? c=some o->h'.get? c=some o)->(∃o,h'.get? e=some o/\o.cls=.type "StopIteration")->E (.ref e) { s with heap:=h' }) :
 wpAny (model prog w) A (Builtin.«zip.__next__» ⟨[.ref z],[]⟩) Q E s:=by
 show wpAny _ _ (field (.ref z) 2 >>= _) _ _ _
 refine wpAny_bind (wpAny_field hz rfl (x:=.bool false) rfl ?_)
 show wpAny _ _ (field (.ref z) 3 >>= _) _ _ _
 refine wpAny_bind (wpAny_field hz rfl (x:=.ref TI) rfl (wpAny_bind (wpAny_seqItems hTI rfl ?_)))
 show wpAny _ _ (Builtin.SmallTypes.ownedTupleIsFree (.ref z) >>= _) _ _ _
 refine wpAny_bind ?_
 unfold Builtin.SmallTypes.ownedTupleIsFree
 refine wpAny_bind (wpAny_field hz rfl (x:=.none) rfl (wpAny_pure ?_))
 simp only[if_true]
 refine wpAny_bind (wpAny_rule (wpAny_bind (wpAny_field hz rfl (x:=.ref TO) rfl (wpAny_bind (wpAny_setField_rec hz (by simp) fun g1 z1 w1=>?_)))))
 replace z1:IsZip g1 z TI TO .ellipsis:=z1
 refine wpAny_bind ?_
 simp only[List.zipIdx_cons,List.zipIdx_nil,List.forIn_cons,List.forIn_nil]
 have b1:S1 k1 g1:=J1.but h1 w1.extBut D.i1z D.l1z
 have b2:S2 k2 g1:=J2.but h2 w1.extBut D.i2z D.l2z
 refine wpAny_bind (wpAny_bind (wpAny_onRaise ?_))
 show wpAny _ _ (Builtin.SmallTypes.nextOf (.ref i1) >>= _) _ _ _
 have fin:∀(g e':Heap) (e:Addr),IsZip g z TI TO .ellipsis->(∀c o,c≠z->c≠TO->c≠i1->c≠i2->s.heap.get? c=some o->g.get? c=some o)->(∃o,g.get? e=some o/\o.cls=.type "StopIteration")->e≠z:=fun g _ e q1 _ q3=>by
  obtain⟨o,ho,hc⟩:=q3
  intro x;subst x;rw[q1] at ho;cases ho;simp at hc
 cases hx:xs[k1]? with
 | none=>
  refine wpAny_bind (J1.stop _ _ _ k1 _ hh b1 hx fun g2 e w2 he=>?_)
  have z2:IsZip g2 z TI TO .ellipsis:=w2 _ _ D.i1z.symm z1
  have k2':∀c o,c≠z->c≠TO->c≠i1->c≠i2->s.heap.get? c=some o->g2.get? c=some o:=fun c o n1 _ n3 _ q=>w2 _ _ n3 (w1.extBut _ _ n1 q)
  have ne:=fin g2 g2 e z2 k2' he
  obtain⟨oe,ho,hc⟩:=he
  exact wpAny_setField_rec z2 (by simp) fun g3 _ w3=>hE g3 e (fun c o n1 n2 n3 n4 q=>w3.extBut _ _ n1 (k2' c o n1 n2 n3 n4 q)) ⟨oe,w3.extBut _ _ ne ho,hc⟩
 | some x=>
  have hy:ys[k2]? = none:=by rcases hend with h | h;rw[hx] at h;cases h;exact h
  refine wpAny_bind (J1.item _ _ _ k1 x _ b1 hx fun g2 c1 w2=>wpAny_pure ?_)
  have o2:IsPair g2 TO a b:=w2.extBut _ _ D.TOi1 (w1.extBut _ _ D.TOz hTO)
  refine wpAny_bind (wpAny_seqItems o2 rfl (wpAny_bind (wpAny_updateSeq_pair o2 fun g3 o3 w3=>?_)))
  refine wpAny_bind (wpAny_letGo (wpAny_pure ?_))
  have c2:S2 k2 g3:=J2.but (J2.but b2 w2.extBut D.i12.symm D.l2i1) w3.extBut D.TOi2.symm D.l2TO
  refine wpAny_bind (wpAny_bind (wpAny_onRaise ?_))
  show wpAny _ _ (Builtin.SmallTypes.nextOf (.ref i2) >>= _) _ _ _
  refine wpAny_bind (J2.stop _ _ _ k2 _ hh c2 hy fun g4 e w4 he=>?_)
  have z4:IsZip g4 z TI TO .ellipsis:=w4 _ _ D.i2z.symm (w3.extBut _ _ D.TOz.symm (w2.extBut _ _ D.i1z.symm z1))
  have k4:∀c o,c≠z->c≠TO->c≠i1->c≠i2->s.heap.get? c=some o->g4.get? c=some o:=fun c o n1 n2 n3 n4 q=>w4 _ _ n4 (w3.extBut _ _ n2 (w2.extBut _ _ n3 (w1.extBut _ _ n1 q)))
  have ne:=fin g4 g4 e z4 k4 he
  obtain⟨oe,ho,hc⟩:=he
  exact wpAny_setField_rec z4 (by simp) fun g5 _ w5=>hE g5 e (fun c o n1 n2 n3 n4 q=>w5.extBut _ _ n1 (k4 c o n1 n2 n3 n4 q)) ⟨oe,w5.extBut _ _ ne ho,hc⟩
theorem ZeD(it l:Addr)(items:Array Value):Inn prog w it l items (fun k h=>h.IsTupleIter it l k/\h.IsTuple l items) where
 keep:=fun k h h' x q=>⟨x.1.at fun o e=>q it o (.inl rfl) e,let ⟨o,ho,r⟩:=x.2;⟨o,q l o (.inr rfl) ho,r⟩⟩
 item:=fun A E s k x Q st hx hQ=>by
  obtain⟨hit,ht⟩:=st
  obtain⟨o,ho,hc,hd⟩:=id hit
  obtain⟨ol,hol,hcl,nl,hdl⟩:=id ht
  have ne:l≠it:=fun z=>by
   subst z
   rw[ho] at hol
   cases hol
   rw[hc] at hcl
   injection hcl with q
   exact absurd q (by decide)
  unfold Builtin.SmallTypes.nextOf
  refine wpAny_bind (wpAny_callSpecial?_slot (name:=Str.ofString "__next__") hit.typeIs F.slot_tuple_iterator_next (wpAny_call_entry F.slot_tuple_iterator_next hit.typeIs F.entry_tuple_iterator_next ?_ (F.args_tuple_iterator_next_1 _)))
  show wpAny _ _ (field (.ref it) 0 >>= _) _ _ s
  refine wpAny_bind (wpAny_field ho hd (x:=.ref l) rfl ?_)
  show wpAny _ _ (if (Value.ref l == Value.none)=true then _ else _) _ _ s
  rw[if_neg (show ¬((Value.ref l == Value.none)=true) from Bool.false_ne_true)]
  show wpAny _ _ (field (.ref it) 1 >>= _) _ _ s
  refine wpAny_bind (wpAny_field ho hd (x:=.int k 0) rfl ?_)
  show wpAny _ _ (seqItems? (.ref l) >>= _) _ _ s
  refine wpAny_bind (wpAny_seqItems hol hdl ?_)
  simp only[Int.toNat_natCast,hx]
  refine wpAny_bind (wpAny_setField ho hd (by simp) (wpAny_pure ⟨x,rfl,wpAny_pure (hQ _ ⟨?_,ht.extBut (Heap.SameBut.update ..).extBut ne⟩ (Heap.SameBut.update ..))⟩))
  exact⟨_,Heap.get?_update_self _ ho (Obj.isFreed_of_fields (Obj.data_mapFields hd _)),(Obj.cls_mapFields ..).trans hc,by rw[Obj.data_mapFields hd];simp[rawInt]⟩
 stop:=fun A E s k Q hh st hx hE=>by
  obtain⟨hit,ht⟩:=st
  obtain⟨o,ho,hc,hd⟩:=id hit
  obtain⟨ol,hol,hcl,nl,hdl⟩:=id ht
  unfold Builtin.SmallTypes.nextOf
  refine wpAny_bind (wpAny_callSpecial?_slot (name:=Str.ofString "__next__") hit.typeIs F.slot_tuple_iterator_next (wpAny_call_entry F.slot_tuple_iterator_next hit.typeIs F.entry_tuple_iterator_next ?_ (F.args_tuple_iterator_next_1 _)))
  show wpAny _ _ (field (.ref it) 0 >>= _) _ _ s
  refine wpAny_bind (wpAny_field ho hd (x:=.ref l) rfl ?_)
  show wpAny _ _ (if (Value.ref l == Value.none)=true then _ else _) _ _ s
  rw[if_neg (show ¬((Value.ref l == Value.none)=true) from Bool.false_ne_true)]
  show wpAny _ _ (field (.ref it) 1 >>= _) _ _ s
  refine wpAny_bind (wpAny_field ho hd (x:=.int k 0) rfl ?_)
  show wpAny _ _ (seqItems? (.ref l) >>= _) _ _ s
  refine wpAny_bind (wpAny_seqItems hol hdl ?_)
  simp only[Int.toNat_natCast,hx]
  refine wpAny_bind (wpAny_rule (wpAny_bind (wpAny_setField ho hd (by simp) ?_)))
  show wpAny _ _ (newExc (.type "StopIteration") [] >>= _) _ _ _
  refine wpAny_bind ?_
  simp only[newExc,newTuple]
  refine wpAny_bind (wpAny_newObj_type ?_ (by size_fits))
  refine wpAny_bind (m:=firstArgMember _ _) (wpAny_of_eq (a:=Value.none) (by first | rfl | (simp only[firstArgMember];rfl)) ?_)
  refine wpAny_newObj_type ?_ (by size_fits)
  simp only[raiseNew]
  refine wpAny_bind (wpAny_handled ?_)
  first | rw[show A.in1.handled=none from hh] | rw[hh]
  refine wpAny_bind (wpAny_pure (wpAny_throw ?_))
  exact hE _ _ (((Heap.SameBut.update ..).extBut.push _).push _) ⟨_,Heap.get?_push_size _ rfl,rfl⟩
theorem Zfm{z TI TO i1 i2 l1 l2:Addr}{k1 k2:Nat}{xs ys:Array Value}{x y a b:Value}{Q:Option Value->Shared->Prop}(D:ZipApart z TI TO i1 i2 l1 l2)
 (hz:IsZip s.heap z TI TO .none) (hTI:IsPair s.heap TI (.ref i1) (.ref i2)) (hTO:IsPair s.heap TO a b) (h1:s.heap.IsTupleIter i1 l1 k1) (h2:s.heap.IsTupleIter i2 l2 k2) (hl1:s.heap.IsTuple l1 xs) (hl2:s.heap.IsTuple l2 ys) (hx:xs[k1]? = some x) (hy:ys[k2]? = some y)
 (hQ:∀h',IsZip h' z TI TO (rawInt s.heap.objs.size)->IsPair h' TO x y->h'.IsTupleIter i1 l1 (k1+1)->h'.IsTupleIter i2 l2 (k2+1)->IsPair h' s.heap.objs.size x y->True ->
   (∀c o,c≠z->c≠TO->c≠i1->c≠i2->s.heap.get? c=some o->h'.get? c=some o)->Q (some (.ref s.heap.objs.size)) { s with heap:=h' }) :
 wpAny (model prog w) A (pyNext (.ref z)) Q E s:=by
 have hT:s.TypeIs (.ref z) "zip":=⟨_,hz,rfl⟩
 unfold pyNext
 exact wpAny_bind (wpAny_attempt (wpAny_callSpecial?_slot (name:=Str.ofString "__next__") hT F.slot_zip_next (wpAny_call_entry F.slot_zip_next hT F.entry_zip_next
  (Zkb D (ZeD i1 l1 xs) (ZeD i2 l2 ys) hz hTI hTO ⟨h1,hl1⟩ ⟨h2,hl2⟩ hx hy fun h' a1 a2 a3 a4 a5 a7=>wpAny_pure (hQ h' a1 a2 a3.1 a4.1 a5 trivial a7)) (F.args_zip_next_1 _))))
theorem ZfQ{z TI TO i1 i2 l1 l2:Addr}{k1 k2:Nat}{xs ys:Array Value}{a b:Value}{Q:Option Value->Shared->Prop}(hh:A.handled=none)(D:ZipApart z TI TO i1 i2 l1 l2)
 (hz:IsZip s.heap z TI TO .none) (hTI:IsPair s.heap TI (.ref i1) (.ref i2)) (hTO:IsPair s.heap TO a b) (h1:s.heap.IsTupleIter i1 l1 k1) (h2:s.heap.IsTupleIter i2 l2 k2) (hl1:s.heap.IsTuple l1 xs) (hl2:s.heap.IsTuple l2 ys) (hend:xs[k1]? = none\/ys[k2]? = none)
 (hQ:∀h',(∀c o,c≠z->c≠TO->c≠i1->c≠i2->s.heap.get? c=some o->h'.get? c=some o)->Q none { s with heap:=h' }):wpAny (model prog w) A (pyNext (.ref z)) Q E s:=by
 have hT:s.TypeIs (.ref z) "zip":=⟨_,hz,rfl⟩
 unfold pyNext
 refine wpAny_bind (wpAny_attempt (wpAny_callSpecial?_slot (name:=Str.ofString "__next__") hT F.slot_zip_next (wpAny_call_entry F.slot_zip_next hT F.entry_zip_next
  (ZlW hh D (ZeD i1 l1 xs) (ZeD i2 l2 ys) hz hTI hTO ⟨h1,hl1⟩ ⟨h2,hl2⟩ hend fun h' e hk he=>?_) (F.args_zip_next_1 _))))
 obtain⟨o,ho,hc⟩:=he
 exact wpAny_bind (wpAny_isInstance (T:="StopIteration") (b:=true) ⟨o,ho,hc⟩ isSubtype_stop (wpAny_pure (hQ _ hk)))
abbrev zt(c:String)(l:Addr):Obj:={ cls:=.type c,data:=.fields #[.ref l,.int 0 0] }
theorem Zgl(l1 l2:Addr)(xs ys:Array Value) :
 Meets (Builtin.«zip.__new__» ⟨[.type "zip",.ref l1,.ref l2],[]⟩) (fun _ R s=>s.heap.IsTuple l1 xs/\s.heap.IsTuple l2 ys /\
  R (.ok (.ret (.ref (s.heap.objs.size+4)))) { s with heap:=((((s.heap.push (zt "tuple_iterator" l1)).push (zt "tuple_iterator" l2)).push { cls:=.type "tuple",data:=.seq #[.ref s.heap.objs.size,.ref (s.heap.objs.size+1)] }).push { cls:=.type "tuple",data:=.seq #[.none,.none] }).push { cls:=.type "zip",data:=.fields #[.none,.bool false,.bool false,.ref (s.heap.objs.size+2),.ref (s.heap.objs.size+3)] } }):=
 .of_wp fun prog w A R s h=>by
  obtain⟨hp,g,d,tk,os⟩:=s;obtain⟨hl1,hl2,h⟩:=h
  have hsub:=sub_zip
  have hL1:Heap.IsTuple (Shared.heap ⟨hp,g,d,tk,os⟩) l1 xs:=hl1
  have hL2:Heap.IsTuple (Shared.heap ⟨hp.push (zt "tuple_iterator" l1),g,d,tk,os⟩) l2 ys:=Heap.IsTuple.push hl2 _
  wp_walk using wpAny_pyIter_tuple hL1,wpAny_pyIter_tuple hL2
  refine⟨_,rfl,?_⟩
  simp only[Heap.size_push] at h ⊢
  exact h
theorem Zkc{l1 l2:Addr}{xs ys:Array Value}{Q:Value->Shared->Prop}(hl1:s.heap.IsTuple l1 xs)(hl2:s.heap.IsTuple l2 ys)
 (h:∀h',IsZip h' (s.heap.objs.size+4) (s.heap.objs.size+2) (s.heap.objs.size+3) .none->IsPair h' (s.heap.objs.size+2) (.ref s.heap.objs.size) (.ref (s.heap.objs.size+1)) ->
   IsPair h' (s.heap.objs.size+3) .none .none->h'.IsTupleIter s.heap.objs.size l1 0->h'.IsTupleIter (s.heap.objs.size+1) l2 0->h'.objs.size=s.heap.objs.size+5 ->
   (∀c o,s.heap.get? c=some o->h'.get? c=some o)->Q (.ref (s.heap.objs.size+4)) { s with heap:=h' }) :
 wpAny (model prog w) A (call (.type "zip") [.ref l1,.ref l2]) Q E s:=by
 refine callType_new F.called_zip (by decide) (F.typeCall_zip_2 _ _) (F.newCall_zip_2 _ _) (fun obj=>F.args_object_init_3 obj _ _) F.entry_zip_new (Zgl l1 l2 xs ys) ⟨hl1,hl2,?_⟩
 generalize e1:s.heap.push (zt "tuple_iterator" l1)=a1
 generalize e2:a1.push (zt "tuple_iterator" l2)=a2
 generalize e3:a2.push { cls:=.type "tuple",data:=.seq #[.ref s.heap.objs.size,.ref (s.heap.objs.size+1)] }=a3
 generalize e4:a3.push { cls:=.type "tuple",data:=.seq #[.none,.none] }=a4
 generalize e5:a4.push { cls:=.type "zip",data:=.fields #[.none,.bool false,.bool false,.ref (s.heap.objs.size+2),.ref (s.heap.objs.size+3)] }=a5
 have n1:a1.objs.size=s.heap.objs.size+1:=by rw[<- e1,Heap.size_push]
 have n2:a2.objs.size=s.heap.objs.size+2:=by rw[<- e2,Heap.size_push,n1]
 have n3:a3.objs.size=s.heap.objs.size+3:=by rw[<- e3,Heap.size_push,n2]
 have n4:a4.objs.size=s.heap.objs.size+4:=by rw[<- e4,Heap.size_push,n3]
 have n5:a5.objs.size=s.heap.objs.size+5:=by rw[<- e5,Heap.size_push,n4]
 have k1:∀c o,s.heap.get? c=some o->a1.get? c=some o:=fun c o e=>by rw[<- e1];exact Heap.get?_push_of_some _ e
 have k2:∀c o,a1.get? c=some o->a2.get? c=some o:=fun c o e=>by rw[<- e2];exact Heap.get?_push_of_some _ e
 have k3:∀c o,a2.get? c=some o->a3.get? c=some o:=fun c o e=>by rw[<- e3];exact Heap.get?_push_of_some _ e
 have k4:∀c o,a3.get? c=some o->a4.get? c=some o:=fun c o e=>by rw[<- e4];exact Heap.get?_push_of_some _ e
 have k5:∀c o,a4.get? c=some o->a5.get? c=some o:=fun c o e=>by rw[<- e5];exact Heap.get?_push_of_some _ e
 have p1:a1.get? s.heap.objs.size=some (zt "tuple_iterator" l1):=by rw[<- e1];exact Heap.get?_push_size _ rfl
 have p2:a2.get? (s.heap.objs.size+1)=some (zt "tuple_iterator" l2):=by rw[<- n1,<- e2];exact Heap.get?_push_size _ rfl
 have p3:a3.get? (s.heap.objs.size+2)=some { cls:=.type "tuple",data:=.seq #[.ref s.heap.objs.size,.ref (s.heap.objs.size+1)] }:=by rw[<- n2,<- e3];exact Heap.get?_push_size _ rfl
 have p4:a4.get? (s.heap.objs.size+3)=some { cls:=.type "tuple",data:=.seq #[.none,.none] }:=by rw[<- n3,<- e4];exact Heap.get?_push_size _ rfl
 have p5:a5.get? (s.heap.objs.size+4)=some { cls:=.type "zip",data:=.fields #[.none,.bool false,.bool false,.ref (s.heap.objs.size+2),.ref (s.heap.objs.size+3)] }:=by rw[<- n4,<- e5];exact Heap.get?_push_size _ rfl
 refine⟨⟨_,p5,rfl⟩,h a5 p5 (k5 _ _ (k4 _ _ p3)) (k5 _ _ p4) ⟨_,k5 _ _ (k4 _ _ (k3 _ _ (k2 _ _ p1))),rfl,rfl⟩ ⟨_,k5 _ _ (k4 _ _ (k3 _ _ p2)),rfl,rfl⟩ n5 fun c o e=>k5 _ _ (k4 _ _ (k3 _ _ (k2 _ _ (k1 _ _ e))))⟩
end
end PySem
namespace L2
open PySem PySem.Spec PyProof.Rows
def Itzt(K:PySem.W.Frag)(a b:Addr):It:=
 ⟨fun i H=>∃xs ys x y,H a=some (.tup xs)/\H b=some (.tup ys)/\xs[i]? = some x/\ys[i]? = some y,
  fun i H v H'=>∃T x y,H T=none/\v=.ref T/\H'=upd H T (.tup [x,y])/\(∀xs,H a=some (.tup xs)->xs[i]? = some x)/\(∀ys,H b=some (.tup ys)->ys[i]? = some y),
  fun i H=>∃xs ys,H a=some (.tup xs)/\H b=some (.tup ys)/\(xs.length<=i\/ys.length<=i)⟩
def ZipStT(a b z TI TO i1 i2:Addr)(i:Nat)(h:Heap):Prop:=
 IsZip h z TI TO .none/\IsPair h TI (.ref i1) (.ref i2)/\(∃x y,IsPair h TO x y)/\h.IsTupleIter i1 a i/\h.IsTupleIter i2 b i
theorem ZipStT.apart{a b z TI TO i1 i2:Addr}{i:Nat}{h:Heap}{xs ys:Array Value}(st:ZipStT a b z TI TO i1 i2 i h)(n1:TI≠TO)(n2:i1≠i2)(l1:h.IsTuple a xs)(l2:h.IsTuple b ys)(m1:a≠TO)(m2:b≠TO):ZipApart z TI TO i1 i2 a b:=by
 obtain⟨hz,hTI,⟨x,y,hTO⟩,⟨o1,e1,c1,d1⟩,⟨o2,e2,c2,d2⟩⟩:=st
 obtain⟨oa,ea,ca,_⟩:=l1
 obtain⟨ob,eb,cb,_⟩:=l2
 have k:∀{c d:Addr}{o u:Obj}{m n:String},h.get? c=some o->h.get? d=some u->o.cls=.type m->u.cls=.type n->m≠n->c≠d:=fun h1 h2 e1 e2 d=>ZjS h1 h2 (by rw[e1,e2];intro q;injection q with q;exact d q)
 exact⟨k hTI hz rfl rfl (by decide),k hTO hz rfl rfl (by decide),k e1 hz c1 rfl (by decide),k e2 hz c2 rfl (by decide),n1,k hTI e1 rfl c1 (by decide),k hTI e2 rfl c2 (by decide),
  k hTO e1 rfl c1 (by decide),k hTO e2 rfl c2 (by decide),n2,k ea hz ca rfl (by decide),m1,k ea e1 ca c1 (by decide),k ea e2 ca c2 (by decide),
  k eb hz cb rfl (by decide),m2,k eb e1 cb c1 (by decide),k eb e2 cb c2 (by decide)⟩
theorem Zkd{P:Program}{w:World}{K:PySem.W.Frag}{es:List Expr}{kk:Nat}{tp:Pos}(a b z TI TO i1 i2:Addr)(n1:TI≠TO)(n2:i1≠i2) :
 Turn P w K (.Tuple es kk tp) (Itzt K a b) [z,TI,TO,i1,i2] z (ZipStT a b z TI TO i1 i2) where
 mem:=by simp
 obj:=fun i h st c hc=>by
  obtain⟨hz,hTI,⟨x,y,hTO⟩,⟨o1,e1,c1,d1⟩,⟨o2,e2,c2,d2⟩⟩:=st
  have:c=z\/c=TI\/c=TO\/c=i1\/c=i2:=by simpa using hc
  rcases this with rfl | rfl | rfl | rfl | rfl
  · exact⟨_,hz,fun v q=>by cases(show Data.fields _=Data.cell v from q)⟩
  · exact⟨_,hTI,fun v q=>by cases(show Data.seq _ _=Data.cell v from q)⟩
  · exact⟨_,hTO,fun v q=>by cases(show Data.seq _ _=Data.cell v from q)⟩
  · exact⟨_,e1,fun v q=>by rw[d1] at q;cases q⟩
  · exact⟨_,e2,fun v q=>by rw[d2] at q;cases q⟩
 keep:=fun i h h' st k=>by
  obtain⟨hz,hTI,⟨x,y,hTO⟩,h1,h2⟩:=st
  exact⟨k z (by simp) _ hz,k TI (by simp) _ hTI,⟨x,y,k TO (by simp) _ hTO⟩,h1.at fun o e=>k i1 (by simp) o e,h2.at fun o e=>k i2 (by simp) o e⟩
 item:=by
  intro X hP hw hK hc i pins s σ H E I hf st hg
  subst hP hw hK
  obtain⟨xs,ys,x,y,hq,hq2,hx,hy⟩:=hg
  obtain⟨its,rv,p,hz1⟩:=I.tuple (.of hq)
  obtain⟨its2,rv2,p2,hz2⟩:=I.tuple (.of hq2)
  obtain⟨u,hu,ru⟩:=rv.get hx
  obtain⟨u2,hu2,ru2⟩:=rv2.get hy
  have D:=st.apart n1 n2 p p2 (Zak hq (hf TO (by simp)).1) (Zak hq2 (hf TO (by simp)).1)
  obtain⟨hz,hTI,⟨v1,v2,hTO⟩,h1,h2⟩:=id st
  refine Zfm D hz hTI hTO h1 h2 p p2 (x:=u) (y:=u2) (by simpa using hu) (by simpa using hu2) fun h' a1 a2 a3 a4 a5 a6 a7=>?_
  refine⟨_,rfl,wpAny_letOwnedTupleGo_zip a1 fun h'' b1 b2=>?_⟩
  have up:∀c o,c≠z->h'.get? c=some o->h''.get? c=some o:=fun c o hc e=>b2.extBut c o hc e
  have zlt:z<s.heap.objs.size:=Heap.lt_size hz
  have TIs:IsPair h'' TI (.ref i1) (.ref i2):=up _ _ D.TIz (a7 _ _ D.TIz D.TITO D.TIi1 D.TIi2 hTI)
  have TOs:IsPair h'' TO u u2:=up _ _ D.TOz a2
  have I1s:h''.IsTupleIter i1 a (i+1):=a3.at fun o e=>up _ o D.i1z e
  have I2s:h''.IsTupleIter i2 b (i+1):=a4.at fun o e=>up _ o D.i2z e
  have I1:Inv X pins σ H { s with heap:=h'' }:=by
   refine I.turnedL (t':=s.toks) (ch:=[z,TI,TO,i1,i2]) (fun c o hc e=>?_) hf
   have hc':c≠z/\c≠TI/\c≠TO/\c≠i1/\c≠i2:=by simpa using hc
   exact up c o hc'.1 (a7 c o hc'.1 hc'.2.2.1 hc'.2.2.2.1 hc'.2.2.2.2 e)
  have fresh:H s.heap.objs.size=none:=I.hok.fresh (Nat.le_refl _)
  have newT:h''.get? s.heap.objs.size=some _:=up _ _ (Nat.ne_of_gt zlt) a5
  have I2:Inv X pins σ (upd H s.heap.objs.size (.tup [x,y])) { s with heap:=h'' }:=by
   have un:Un X.fs [z,TI,TO,i1,i2] H (upd H s.heap.objs.size (.tup [x,y])) s.heap h'':=by
    refine⟨fun c o e n _ hx=>?_,fun c o e n _ hx=>⟨o.slots,?_⟩,fun c o e n _=>?_,fun c o e hx=>⟨o,?_⟩,fun c zs e=>?_,fun c o zs e=>?_,fun c ps e=>⟨#[],?_⟩⟩
    · have hc':c≠z/\c≠TI/\c≠TO/\c≠i1/\c≠i2:=by simpa using hx
      exact up c o hc'.1 (a7 c o hc'.1 hc'.2.2.1 hc'.2.2.2.1 hc'.2.2.2.2 e)
    · have hc':c≠z/\c≠TI/\c≠TO/\c≠i1/\c≠i2:=by simpa using hx
      exact up c o hc'.1 (a7 c o hc'.1 hc'.2.2.1 hc'.2.2.2.1 hc'.2.2.2.2 e)
    · rw[Zan (Nat.ne_of_lt (Heap.lt_size e))];exact n
    · have hc':c≠z/\c≠TI/\c≠TO/\c≠i1/\c≠i2:=by simpa using hx
      exact up c o hc'.1 (a7 c o hc'.1 hc'.2.2.1 hc'.2.2.2.1 hc'.2.2.2.2 e)
    · rw[Zan (Zak e fresh)];exact e
    · rw[Zan (Zak e fresh)];exact e
    · rw[Zan (Zak e fresh),e];simp
   have ok2:HOk X.prog X.w (upd H s.heap.objs.size (.tup [x,y])) h'':=fun c o e=>by
    by_cases hc:c=s.heap.objs.size
    · subst hc
      rw[ZaA] at e;cases e
      exact⟨by show 2<=sizeLine;decide,[u,u2],.cons ru (.cons ru2 .nil),⟨_,newT,rfl,_,rfl⟩⟩
    · rw[Zan hc] at e
      exact(I1.hok c o e).stay (fun _ _ _ q=>q) (fun d q=>by rw[Zan (Zak q fresh)];exact q) fun d zs q=>by rw[Zan (Zak q fresh)];exact q
   refine I.call' (s':={ s with heap:=h'' }) (ch:=[z,TI,TO,i1,i2]) rfl (un.mono (fun c hc=>?_) fun c hc=>hc) ok2 I.bare fun c hc=>?_
   · rcases I.ok.stk with e | ⟨e,hfr⟩
     · rw[e];exact hc
     · rw[e]
       unfold frs
       rw[List.filterMap_cons,hfr]
       exact List.mem_cons_of_mem _ hc
   · obtain⟨f0,f1,f2,f3,f4,f5⟩:=hf c hc
     exact⟨f3,f1,f4,f5⟩
  refine⟨.ref s.heap.objs.size,_,I2,rfl,⟨_,x,y,fresh,rfl,rfl,fun xs' h=>by rw[hq] at h;cases h;exact hx,fun ys' h=>by rw[hq2] at h;cases h;exact hy⟩,⟨b1,TIs,⟨_,_,TOs⟩,I1s,I2s⟩,fun c hc=>?_⟩
  rw[Zan ?_]
  · exact(hf c hc).1
  · have hc':c=z\/c=TI\/c=TO\/c=i1\/c=i2:=by simpa using hc
    rcases hc' with rfl | rfl | rfl | rfl | rfl
    · exact Nat.ne_of_lt zlt
    · exact Nat.ne_of_lt (Heap.lt_size hTI)
    · exact Nat.ne_of_lt (Heap.lt_size hTO)
    · obtain⟨o,e,_⟩:=h1;exact Nat.ne_of_lt (Heap.lt_size e)
    · obtain⟨o,e,_⟩:=h2;exact Nat.ne_of_lt (Heap.lt_size e)
 done:=by
  intro X hP hw hK hc i pins s σ H E I hf st hg
  subst hP hw hK
  obtain⟨xs,ys,hq,hq2,hx⟩:=hg
  obtain⟨its,rv,p,hz1⟩:=I.tuple (.of hq)
  obtain⟨its2,rv2,p2,hz2⟩:=I.tuple (.of hq2)
  have D:=st.apart n1 n2 p p2 (Zak hq (hf TO (by simp)).1) (Zak hq2 (hf TO (by simp)).1)
  obtain⟨hz,hTI,⟨v1,v2,hTO⟩,h1,h2⟩:=id st
  have l1:=rv.length
  have l2:=rv2.length
  refine ZfQ (I.ok.hd hc) D hz hTI hTO h1 h2 p p2 ?_ fun h' hk=>⟨rfl,?_⟩
  · rcases hx with hx | hx
    · left;simp;omega
    · right;simp;omega
  · refine I.turnedL (t':=s.toks) (ch:=[z,TI,TO,i1,i2]) (fun c o hc e=>?_) hf
    have hc':c≠z/\c≠TI/\c≠TO/\c≠i1/\c≠i2:=by simpa using hc
    exact hk c o hc'.1 hc'.2.2.1 hc'.2.2.2.1 hc'.2.2.2.2 e
 self:=fun _ _ _ _ _ st h=>wpAny_pyIter_zip st.1 h
section
variable{X:Cx}{es:List Expr}{kk:Nat}{tp:Pos}
end
end L2
set_option autoImplicit false
namespace DL
open PySem L2
inductive T where
 | non | bl (b:Bool) | int (i:Int) | str (x:Str)
 | lst (ts:List T) | scr (ns:List Int) | tup (ts:List T) | dct (kvs:List (Str×T)) | ins (c:Str) (fs:List (Str×T)) | exc (c:Str)
inductive D where
 | t (x:T) | lst (ds:List D) | dct (kvs:List (Str×T)) | obj (c:Str) (fs:List (Str×D))
mutual
def frz:D->T
 | .t x=>x
 | .lst ds=>.lst (frzL ds)
 | .dct kvs=>.dct kvs
 | .obj c fs=>.ins c (frzF fs)
def frzL:List D->List T
 | []=>[]
 | d :: r=>frz d :: frzL r
def frzF:List (Str×D)->List (Str×T)
 | []=>[]
 | (f,d) :: r=>(f,frz d) :: frzF r
end
theorem Zh7:∀ds:List D,frzL ds=ds.map frz
 | []=>rfl
 | d :: r=>by rw[frzL,Zh7 r,List.map_cons]
theorem Zh8:∀fs:List (Str×D),frzF fs=fs.map fun p=>(p.1,frz p.2)
 | []=>rfl
 | (f,d) :: r=>by rw[frzF,Zh8 r,List.map_cons]
def ExcO(a C:Addr):HO:=.ext fun h=>∃o vs,h.get? a=some o/\o.cls=.ref C/\o.data=.fields vs
inductive Den(K:PySem.W.Frag)(mg:Str->Option Value)(P:Hp):T->V->Prop where
 | non:Den K mg P .non .non
 | bl {b:Bool}:Den K mg P (.bl b) (.bl b)
 | int {i:Int}:Den K mg P (.int i) (.int i)
 | str {x:Str}:Den K mg P (.str x) (.str x)
 | scr {ns:List Int}{a:Addr}:SqL K P a (ns.map V.int)->Den K mg P (.scr ns) (.ref a)
 | lst {ts:List T}{a:Addr}{vs:List V}:P a=some (.lst vs)->ts.length=vs.length->(∀(i:Nat) t v,ts[i]? = some t->vs[i]? = some v->Den K mg P t v)->Den K mg P (.lst ts) (.ref a)
 | tup {ts:List T}{a:Addr}{vs:List V}:P a=some (.tup vs)->ts.length=vs.length->(∀(i:Nat) t v,ts[i]? = some t->vs[i]? = some v->Den K mg P t v)->Den K mg P (.tup ts) (.ref a)
 | dct {kvs:List (Str×T)}{a:Addr}{ws:List (Key×V)}:P a=some (.dK ws)->ws.map (·.1)=kvs.map (fun p=>Sum.inr p.1)->(∀(i:Nat) k t w,kvs[i]? = some (k,t)->ws[i]? = some (Sum.inr k,w)->Den K mg P t w)->Den K mg P (.dct kvs) (.ref a)
 | ins {c:Str}{fs:List (Str×T)}{a C dx:Addr}{ws:List (Str×V)}:P a=some (.ins C dx ws)->mg c=some (.ref C)->ws.map (·.1)=fs.map (·.1)->(∀(i:Nat) f t w,fs[i]? = some (f,t)->ws[i]? = some (f,w)->Den K mg P t w)->Den K mg P (.ins c fs) (.ref a)
 | exc {c:Str}{a C:Addr}:P a=some (ExcO a C)->mg c=some (.ref C)->Den K mg P (.exc c) (.ref a)
variable(K:PySem.W.Frag)(mg:Str->Option Value)
abbrev Fp:=Addr->Prop
def Sub(P H:Hp):Prop:=∀b o,P b=some o->H b=some o
theorem Sub.refl(P:Hp):Sub P P:=fun _ _ h=>h
theorem Sub.trans{P Q R:Hp}(a:Sub P Q)(b:Sub Q R):Sub P R:=fun c o h=>b c o (a c o h)
variable{K mg}
theorem Sub.sqL{P Q:Hp}(s:Sub P Q){a:Addr}{vs:List V}(h:SqL K P a vs):SqL K Q a vs:=Same.seq s h
theorem Sub.rd{P Q:Hp}(s:Sub P Q){a:Addr}{u:HO}(h:Rd P a u):Rd Q a u:=h.imp (s _ _) fun ⟨o,h⟩=>⟨o,s _ _ h⟩
theorem Den.mono{P Q:Hp}(s:Sub P Q){t:T}{v:V}(h:Den K mg P t v):Den K mg Q t v:=by
 induction h with
 | non=>exact .non
 | bl=>exact .bl
 | int=>exact .int
 | str=>exact .str
 | scr h1=>exact .scr (Same.seq s h1)
 | lst h1 h2 _ ih=>exact .lst (s _ _ h1) h2 ih
 | tup h1 h2 _ ih=>exact .tup (s _ _ h1) h2 ih
 | dct h1 h2 _ ih=>exact .dct (s _ _ h1) h2 ih
 | ins h1 h2 h3 _ ih=>exact .ins (s _ _ h1) h2 h3 ih
 | exc h1 h2=>exact .exc (s _ _ h1) h2
variable(K mg)
inductive Own(P H:Hp):Fp->D->V->Prop where
 | t {g:Fp}{x:T}{v:V}:Den K mg P x v->(∀b,¬g b)->Own P H g (.t x) v
 | lst {g:Fp}{gs:Nat->Fp}{ds:List D}{a:Addr}{vs:List V}:H a=some (.lst vs)->P a=none->ds.length=vs.length->(∀(i:Nat) d v,ds[i]? = some d->vs[i]? = some v->Own P H (gs i) d v) ->
  (∀i,¬gs i a)->(∀i j b,i≠j->gs i b -> ¬gs j b)->(∀i b,ds.length<=i -> ¬gs i b)->(∀b,g b ↔ b=a \/ ∃i,gs i b)->Own P H g (.lst ds) (.ref a)
 | dct {g:Fp}{kvs:List (Str×T)}{a:Addr}{ws:List (Key×V)}:H a=some (.dK ws)->P a=none->ws.map (·.1)=kvs.map (fun p=>Sum.inr p.1)->(∀(i:Nat) k t w,kvs[i]? = some (k,t)->ws[i]? = some (Sum.inr k,w)->Den K mg P t w) ->
  (∀b,g b ↔ b=a)->Own P H g (.dct kvs) (.ref a)
 | obj {g:Fp}{gs:Nat->Fp}{c:Str}{fs:List (Str×D)}{a C dx:Addr}{ws:List (Str×V)}:H a=some (.ins C dx ws)->P a=none->mg c=some (.ref C)->ws.map (·.1)=fs.map (·.1)->(∀(i:Nat) f d w,fs[i]? = some (f,d)->ws[i]? = some (f,w)->Own P H (gs i) d w) ->
  (∀i,¬gs i a)->(∀i j b,i≠j->gs i b -> ¬gs j b)->(∀i b,fs.length<=i -> ¬gs i b)->(∀b,g b ↔ b=a \/ ∃i,gs i b)->Own P H g (.obj c fs) (.ref a)
variable{K mg}
theorem Zdk{α:Type}{l:List α}{i:Nat}(h:i<l.length):∃x,l[i]? = some x:=⟨l[i],by simp[h]⟩
theorem Zcn{α:Type}{l:List α}{i:Nat}{x:α}(h:l[i]? = some x):i<l.length:=(List.getElem?_eq_some_iff.mp h).1
theorem Own.at{P H:Hp}{g:Fp}{d:D}{v:V}(h:Own K mg P H g d v):∀b,g b->(∃o,H b=some o)/\P b=none:=by
 induction h with
 | t _ e=>exact fun b h=>absurd h (e b)
 | @lst g gs ds a vs h1 h2 h3 _ _ _ h7 h8 ih=>
  intro b hb
  rcases(h8 b).mp hb with rfl | ⟨i,hi⟩
  · exact⟨⟨_,h1⟩,h2⟩
  · by_cases hl:i<ds.length
    · obtain⟨d,e⟩:=Zdk hl
      obtain⟨v,e'⟩:=Zdk (h3▸hl)
      exact ih i d v e e' b hi
    · exact absurd hi (h7 i b (by omega))
 | dct h1 h2 _ _ h5=>
  intro b hb
  obtain rfl:=(h5 b).mp hb
  exact⟨⟨_,h1⟩,h2⟩
 | @obj g gs c fs a C dx ws h1 h2 h3 h4 _ _ _ h7 h8 ih=>
  intro b hb
  rcases(h8 b).mp hb with rfl | ⟨i,hi⟩
  · exact⟨⟨_,h1⟩,h2⟩
  · by_cases hl:i<fs.length
    · obtain⟨⟨f,d⟩,e⟩:=Zdk hl
      have hl2:i<ws.length:=by have:=congrArg List.length h4;simp only[List.length_map] at this;omega
      obtain⟨⟨f',w⟩,e'⟩:=Zdk hl2
      have ef:f'=f:=by
       have:=congrArg (fun l=>l[i]?) h4
       simp only[List.getElem?_map,e,e',Option.map_some] at this
       exact Option.some.inj this
      subst ef
      exact ih i f' d w e e' b hi
    · exact absurd hi (h7 i b (by omega))
theorem Own.frame{P H P' H':Hp}{g:Fp}{d:D}{v:V}(h:Own K mg P H g d v)(sP:Sub P P')(hH:∀b o,g b->H b=some o->H' b=some o)(hP:∀b,g b->P' b=none):Own K mg P' H' g d v:=by
 induction h with
 | t h e=>exact .t (h.mono sP) e
 | @lst g gs ds a vs h1 h2 h3 _ h5 h6 h7 h8 ih=>
  exact .lst (hH a _ ((h8 a).mpr (.inl rfl)) h1) (hP a ((h8 a).mpr (.inl rfl))) h3 (fun i d v e e'=>ih i d v e e' (fun b o hb=>hH b o ((h8 b).mpr (.inr ⟨i,hb⟩))) (fun b hb=>hP b ((h8 b).mpr (.inr ⟨i,hb⟩)))) h5 h6 h7 h8
 | dct h1 h2 h3 h4 h5=>exact .dct (hH _ _ ((h5 _).mpr rfl) h1) (hP _ ((h5 _).mpr rfl)) h3 (fun i k t w e e'=>(h4 i k t w e e').mono sP) h5
 | @obj g gs c fs a C dx ws h1 h2 h3 h4 _ h5 h6 h7 h8 ih=>
  exact .obj (hH a _ ((h8 a).mpr (.inl rfl)) h1) (hP a ((h8 a).mpr (.inl rfl))) h3 h4 (fun i f d w e e'=>ih i f d w e e' (fun b o hb=>hH b o ((h8 b).mpr (.inr ⟨i,hb⟩))) (fun b hb=>hP b ((h8 b).mpr (.inr ⟨i,hb⟩)))) h5 h6 h7 h8
theorem Own.den{P H P':Hp}{g:Fp}{d:D}{v:V}(h:Own K mg P H g d v)(sP:Sub P P')(hg:∀b o,g b->H b=some o->P' b=some o):Den K mg P' (frz d) v:=by
 induction h with
 | t h e=>exact h.mono sP
 | @lst g gs ds a vs h1 h2 h3 _ h5 h6 h7 h8 ih=>
  unfold frz
  rw[Zh7]
  refine .lst (hg a _ ((h8 a).mpr (.inl rfl)) h1) (by simpa using h3) fun i t v e e'=>?_
  rw[List.getElem?_map] at e
  cases q:ds[i]? with
  | none=>rw[q] at e;cases e
  | some d=>
   rw[q] at e
   cases e
   exact ih i d v q e' fun b o hb=>hg b o ((h8 b).mpr (.inr ⟨i,hb⟩))
 | dct h1 h2 h3 h4 h5=>exact .dct (hg _ _ ((h5 _).mpr rfl) h1) h3 fun i k t w e e'=>(h4 i k t w e e').mono sP
 | @obj g gs c fs a C dx ws h1 h2 h3 h4 _ h5 h6 h7 h8 ih=>
  unfold frz
  rw[Zh8]
  refine .ins (hg a _ ((h8 a).mpr (.inl rfl)) h1) h3 (by rw[h4,List.map_map];rfl) fun i f t w e e'=>?_
  rw[List.getElem?_map] at e
  cases q:fs[i]? with
  | none=>rw[q] at e;cases e
  | some p=>
   rw[q] at e
   obtain⟨f',d⟩:=p
   cases e
   exact ih i _ d w q e' fun b o hb=>hg b o ((h8 b).mpr (.inr ⟨i,hb⟩))
structure Go(P H:Hp)(G:Fp)(P' H':Hp)(G':Fp):Prop where
 mono:Sub P P'
 frame:∀b o,¬G b->H b=some o->H' b=some o
 new:∀b,G' b->G b\/H b=none
 pnew:∀b o,P' b=some o->P b=some o\/G b\/H b=none
theorem Go.refl{P H:Hp}{G:Fp}:Go P H G P H G:=⟨.refl _,fun _ _ _ h=>h,fun _ h=>.inl h,fun _ _ h=>.inl h⟩
theorem Go.trans{P H P1 H1 P2 H2:Hp}{G G1 G2:Fp}(a:Go P H G P1 H1 G1)(b:Go P1 H1 G1 P2 H2 G2):Go P H G P2 H2 G2:=by
 have back:∀c,H1 c=none->G c\/H c=none:=fun c h=>by
  by_cases hg:G c
  · exact .inl hg
  · cases q:H c with
    | none=>exact .inr rfl
    | some o=>rw[a.frame c o hg q] at h;cases h
 refine⟨a.mono.trans b.mono,fun c o hg hc=>?_,fun c hc=>?_,fun c o hc=>?_⟩
 · refine b.frame c o (fun z=>?_) (a.frame c o hg hc)
   rcases a.new c z with z | z
   · exact hg z
   · rw[hc] at z;cases z
 · rcases b.new c hc with z | z
   · exact a.new c z
   · exact back c z
 · rcases b.pnew c o hc with z | z | z
   · exact a.pnew c o z
   · exact(a.new c z).elim (fun q=>.inr (.inl q)) fun q=>.inr (.inr q)
   · exact(back c z).elim (fun q=>.inr (.inl q)) fun q=>.inr (.inr q)
theorem Go.weak{P H P' H':Hp}{G G' G2:Fp}(a:Go P H G P' H' G')(h:∀b,G2 b->G' b):Go P H G P' H' G2:=⟨a.mono,a.frame,fun b z=>a.new b (h b z),a.pnew⟩
theorem Go.wide{P H P' H':Hp}{G G' F:Fp}(a:Go P H G P' H' G'):Go P H (fun b=>F b\/G b) P' H' (fun b=>F b\/G' b):=
 ⟨a.mono,fun b o n h=>a.frame b o (fun z=>n (.inr z)) h,fun b z=>z.elim (fun q=>.inl (.inl q)) fun q=>(a.new b q).elim (fun y=>.inl (.inr y)) .inr,fun b o h=>(a.pnew b o h).elim .inl fun y=>y.elim (fun z=>.inr (.inl (.inr z))) fun z=>.inr (.inr z)⟩
theorem Go.other{P H P' H':Hp}{G G' g:Fp}{d:D}{v:V}(s:Go P H G P' H' G')(h:Own K mg P H g d v)(dj:∀b,g b -> ¬G b):Own K mg P' H' g d v /\ ∀b,g b -> ¬G' b:=by
 have hn:∀b,g b->H b≠none:=fun b hb e=>by
  obtain⟨⟨o,q⟩,_⟩:=h.at b hb
  rw[q] at e;cases e
 refine⟨h.frame s.mono (fun b o hb e=>s.frame b o (dj b hb) e) fun b hb=>?_,fun b hb z=>?_⟩
 · cases q:P' b with
   | none=>rfl
   | some o=>
    rcases s.pnew b o q with z | z | z
    · rw[(h.at b hb).2] at z;cases z
    · exact absurd z (dj b hb)
    · exact absurd z (hn b hb)
 · rcases s.new b z with z | z
   · exact dj b hb z
   · exact hn b hb z
inductive Sl where
 | e | h | v (d:D) | x (d:D)
abbrev Env':=List Sl
def Sl.get:Sl->Option D
 | .e=>none
 | .h=>none
 | .v d=>some d
 | .x d=>some d
def tot(gs:Nat->Fp):Fp:=fun b=>∃i,gs i b
variable(K mg)
structure StOk(fx:Nat->Option V)(P H:Hp)(gs:Nat->Fp)(σ:Env')(ν:St):Prop where
 sub:Sub P H
 len:σ.length=ν.length
 slot:∀(i:Nat) d,(σ[i]?).bind Sl.get=some d -> ∃v,ν[i]? = some (some v)/\Own K mg P H (gs i) d v
 emp:∀(i:Nat) b,(σ[i]?).bind Sl.get=none -> ¬gs i b
 dis:∀i j b,i≠j->gs i b -> ¬gs j b
 fix:∀(i:Nat),(σ[i]? = some .h \/ ∃d,σ[i]? = some (.x d)) -> ∃v,fx i=some v/\ν[i]? = some (some v)
 fixed:∀(i:Nat) v,fx i=some v->ν[i]? = some (some v)/\(σ[i]? = some .h \/ ∃d,σ[i]? = some (.x d))
variable{K mg}
theorem StOk.go{fx:Nat->Option V}{P H P' H':Hp}{gs:Nat->Fp}{σ:Env'}{ν:St}{G G':Fp}(S:StOk K mg fx P H gs σ ν)(s:Go P H G P' H' G')(sub:Sub P' H')(dj:∀b,tot gs b -> ¬G b):StOk K mg fx P' H' gs σ ν:=
 ⟨sub,S.len,fun i d e=>by
  obtain⟨v,h1,h2⟩:=S.slot i d e
  exact⟨v,h1,(s.other h2 fun b hb=>dj b ⟨i,hb⟩).1⟩,S.emp,S.dis,S.fix,S.fixed⟩
end DL
set_option autoImplicit false
namespace DL
open PySem L2
variable{K:PySem.W.Frag}{mg:Str->Option Value}
theorem StOk.here{fx:Nat->Option V}{P H:Hp}{gs:Nat->Fp}{σ:Env'}{ν:St}(S:StOk K mg fx P H gs σ ν){b:Addr}(h:tot gs b):(∃o,H b=some o)/\P b=none:=by
 obtain⟨i,h⟩:=h
 cases q:(σ[i]?).bind Sl.get with
 | none=>exact absurd h (S.emp i b q)
 | some d=>
  obtain⟨v,_,o⟩:=S.slot i d q
  exact o.at b h
open Classical in
noncomputable def froz(P H:Hp)(g:Fp):Hp:=fun b=>if g b then H b else P b
theorem Zes{P H:Hp}{g:Fp}{b:Addr}(h:g b):froz P H g b=H b:=by unfold froz;rw[if_pos h]
theorem Zc9{P H:Hp}{g:Fp}{b:Addr}(h:¬g b):froz P H g b=P b:=by unfold froz;rw[if_neg h]
theorem ZcF{P H:Hp}{g:Fp}(hg:∀b,g b->P b=none):Sub P (froz P H g):=fun b o h=>by
 rw[Zc9 fun z=>by rw[hg b z] at h;cases h];exact h
theorem ZeE{P H:Hp}{g:Fp}(s:Sub P H):Sub (froz P H g) H:=fun b o h=>by
 by_cases z:g b
 · rw[Zes z] at h;exact h
 · rw[Zc9 z] at h;exact s b o h
theorem ZnW{P H:Hp}{g F:Fp}(hg:∀b,g b->P b=none):Go P H (fun b=>F b\/g b) (froz P H g) H F:=
 ⟨ZcF hg,fun _ _ _ h=>h,fun _ h=>.inl (.inl h),fun b o h=>by
  by_cases z:g b
  · exact .inr (.inl (.inr z))
  · rw[Zc9 z] at h;exact .inl h⟩
theorem StOk.temp{fx:Nat->Option V}{P H:Hp}{gs:Nat->Fp}{σ:Env'}{ν:St}{g:Fp}{d:D}{v:V}(S:StOk K mg fx P H gs σ ν)(o:Own K mg P H g d v)(dj:∀b,tot gs b -> ¬g b) :
 ∃P',Go P H (fun b=>tot gs b\/g b) P' H (tot gs)/\StOk K mg fx P' H gs σ ν/\Den K mg P' (frz d) v:=by
 have hg:∀b,g b->P b=none:=fun b h=>(o.at b h).2
 refine⟨froz P H g,ZnW hg,⟨ZeE S.sub,S.len,fun i d e=>?_,S.emp,S.dis,S.fix,S.fixed⟩,o.den (ZcF hg) fun b w h e=>by rw[Zes h];exact e⟩
 obtain⟨v,h1,h2⟩:=S.slot i d e
 refine⟨v,h1,h2.frame (ZcF hg) (fun _ _ _ h=>h) fun b hb=>?_⟩
 rw[Zc9 (dj b ⟨i,hb⟩)]
 exact(h2.at b hb).2
theorem Go.alloc{P H P' H':Hp}{F g:Fp}(a:Go P H (fun _=>False) P' H' g):Go P H F P' H' (fun b=>F b\/g b):=
 ⟨a.mono,fun b o _ h=>a.frame b o (fun z=>z) h,fun b z=>z.elim .inl fun q=>(a.new b q).elim (fun y=>y.elim) .inr,fun b o h=>(a.pnew b o h).elim .inl fun y=>y.elim (fun z=>z.elim) fun z=>.inr (.inr z)⟩
theorem Go.frees{P H P' H':Hp}{F g:Fp}(a:Go P H (fun _=>False) P' H' g)(hF:∀b,F b -> ∃o,H b=some o):∀b,F b -> ¬g b:=fun b h z=>by
 obtain⟨o,e⟩:=hF b h
 rcases a.new b z with y | y
 · exact y
 · rw[e] at y;cases y
inductive Out(α:Type) where
 | ok (a:α) (σ:Env') | exc (c:Str) (σ:Env') | bad
def Out.bnd{α β:Type}:Out α->(α->Env'->Out β)->Out β
 | .ok a σ,f=>f a σ
 | .exc c σ,_=>.exc c σ
 | .bad,_=>.bad
abbrev SE:=Env'->Out D
abbrev ST:=Env'->Out Bool
abbrev SA:=Env'->Out (List D)
variable(K mg)
def PostX(fx:Nat->Option V)(E:XK)(P H:Hp)(gs:Nat->Fp)(ν:St)(c:Str)(σ':Env'):Prop:=
 ∀P' H' gs',Go P H (tot gs) P' H' (tot gs')->StOk K mg fx P' H' gs' σ' ν -> ∀C,mg c=some (.ref C)->E (.ref C) none H'
def PostE(fx:Nat->Option V)(E:XK)(P H:Hp)(gs:Nat->Fp)(ν:St)(Q:VK):Out D->Prop
 | .ok d σ'=>∀P' H' gs' g v,Go P H (tot gs) P' H' (fun b=>tot gs' b\/g b)->StOk K mg fx P' H' gs' σ' ν->Own K mg P' H' g d v->(∀b,tot gs' b -> ¬g b)->Q v H'
 | .exc c σ'=>PostX K mg fx E P H gs ν c σ'
 | .bad=>False
def PostT(fx:Nat->Option V)(E:XK)(P H:Hp)(gs:Nat->Fp)(ν:St)(Q:Bool->Hp->Prop):Out Bool->Prop
 | .ok k σ'=>∀P' H' gs',Go P H (tot gs) P' H' (tot gs')->StOk K mg fx P' H' gs' σ' ν->Q k H'
 | .exc c σ'=>PostX K mg fx E P H gs ν c σ'
 | .bad=>False
def OwnL(P H:Hp)(g:Fp)(ds:List D)(vs:List V):Prop:=
 ds.length=vs.length /\ ∃gs:Nat->Fp,(∀(i:Nat) d v,ds[i]? = some d->vs[i]? = some v->Own K mg P H (gs i) d v)/\(∀i j b,i≠j->gs i b -> ¬gs j b)/\(∀i b,ds.length<=i -> ¬gs i b) /\ ∀b,g b ↔ ∃i,gs i b
def PostA(fx:Nat->Option V)(E:XK)(P H:Hp)(gs:Nat->Fp)(ν:St)(Q:List V->Hp->Prop):Out (List D)->Prop
 | .ok ds σ'=>∀P' H' gs' g vs,Go P H (tot gs) P' H' (fun b=>tot gs' b\/g b)->StOk K mg fx P' H' gs' σ' ν->OwnL K mg P' H' g ds vs->(∀b,tot gs' b -> ¬g b)->Q vs H'
 | .exc c σ'=>PostX K mg fx E P H gs ν c σ'
 | .bad=>False
def TEd(fx:Nat->Option V)(E:XK)(t:TE)(f:SE):Prop:=∀P H gs σ ν Q,StOk K mg fx P H gs σ ν->PostE K mg fx E P H gs ν Q (f σ)->t ν H Q
def TTd(fx:Nat->Option V)(E:XK)(t:TT)(f:ST):Prop:=∀P H gs σ ν Q,StOk K mg fx P H gs σ ν->PostT K mg fx E P H gs ν Q (f σ)->t ν H Q
variable{K mg}
section
variable{fx:Nat->Option V}{E:XK}{P H P1 H1:Hp}{gs gs1:Nat->Fp}{ν:St}
theorem PostX.from{c:Str}{σ':Env'}(h:PostX K mg fx E P H gs ν c σ')(s:Go P H (tot gs) P1 H1 (tot gs1)):PostX K mg fx E P1 H1 gs1 ν c σ':=fun P' H' gs' s' S' C hC=>h P' H' gs' (s.trans s') S' C hC
theorem TEd.run{ta:TE}{fa:SE}(ha:TEd K mg fx E ta fa){σ:Env'}{Q:VK}(S:StOk K mg fx P H gs σ ν)
 (hx:∀c σ',fa σ=.exc c σ'->PostX K mg fx E P H gs ν c σ') (hb:fa σ≠.bad)
 (hk:∀d σ',fa σ=.ok d σ' -> ∀P' H' gs' v,Go P H (tot gs) P' H' (tot gs')->StOk K mg fx P' H' gs' σ' ν->Den K mg P' (frz d) v->Q v H'):ta ν H Q:=by
 refine ha P H gs σ ν Q S ?_
 cases e:fa σ with
 | bad=>exact absurd e hb
 | exc c σ'=>exact hx c σ' e
 | ok d σ'=>
  intro P1 H1 gs1 g1 v1 s1 S1 o1 dj1
  obtain⟨P2,s2,S2,d2⟩:=S1.temp o1 dj1
  exact hk d σ' e P2 H1 gs1 v1 (s1.trans s2) S2 d2
end
def eVar(i:Nat):SE:=fun σ=>match σ[i]? with
 | some (.v d)=>.ok (.t (frz d)) (σ.set i (.v (.t (frz d))))
 | _=>.bad
section
variable{fx:Nat->Option V}{E:XK}
open Classical in
theorem Zab{i:Nat}:TEd K mg fx E (tVar i) (eVar i):=by
 intro P H gs σ ν Q S post
 unfold eVar at post
 split at post
 · rename_i d e
   obtain⟨v,hv,o⟩:=S.slot i d (by rw[e];rfl)
   refine⟨v,hv,?_⟩
   have hg:∀b,gs i b->P b=none:=fun b h=>(o.at b h).2
   have hi:=Zcn e
   refine post (froz P H (gs i)) H (fun j=>if j=i then fun _=>False else gs j) (fun _=>False) v ⟨ZcF hg,fun _ _ _ h=>h,fun b h=>?_,fun b w h=>?_⟩ ⟨ZeE S.sub,?_,fun j d' e'=>?_,fun j b e'=>?_,fun j k b hjk hj=>?_,fun j e'=>?_,fun j w h=>?_⟩ (.t (o.den (ZcF hg) fun b w h e=>by rw[Zes h];exact e) fun _ h=>h) fun _ _ h=>h
   · rcases h with⟨j,h⟩ | h
     · by_cases hj:j=i
       · simp only[hj,if_true] at h
       · simp only[hj,if_false] at h;exact .inl ⟨j,h⟩
     · exact h.elim
   · by_cases z:gs i b
     · exact .inr (.inl ⟨i,z⟩)
     · rw[Zc9 z] at h;exact .inl h
   · rw[List.length_set];exact S.len
   · by_cases hj:j=i
     · subst hj
       rw[List.getElem?_set_self hi] at e'
       cases e'
       exact⟨v,hv,.t (o.den (ZcF hg) fun b w h e=>by rw[Zes h];exact e) fun b h=>by simp only[if_true] at h⟩
     · rw[List.getElem?_set_ne (Ne.symm hj)] at e'
       obtain⟨w,h1,h2⟩:=S.slot j d' e'
       simp only[hj,if_false]
       refine⟨w,h1,h2.frame (ZcF hg) (fun _ _ _ h=>h) fun b hb=>?_⟩
       rw[Zc9 (S.dis j i b hj hb)]
       exact(h2.at b hb).2
   · by_cases hj:j=i
     · simp only[hj,if_true];exact fun h=>h
     · rw[List.getElem?_set_ne (Ne.symm hj)] at e'
       simp only[hj,if_false]
       exact S.emp j b e'
   · by_cases hj':j=i
     · simp only[hj',if_true] at hj
     · simp only[hj',if_false] at hj
       by_cases hk':k=i
       · simp only[hk',if_true];exact fun h=>h
       · simp only[hk',if_false];exact S.dis j k b hjk hj
   · by_cases hj:j=i
     · subst hj
       rw[List.getElem?_set_self hi] at e'
       rcases e' with e' | ⟨_,e'⟩<;>cases e'
     · rw[List.getElem?_set_ne (Ne.symm hj)] at e'
       exact S.fix j e'
   · obtain⟨h1,h2⟩:=S.fixed j w h
     refine⟨h1,?_⟩
     by_cases hj:j=i
     · subst hj;rw[e] at h2;rcases h2 with h2 | ⟨_,h2⟩<;>cases h2
     · rw[List.getElem?_set_ne (Ne.symm hj)];exact h2
 · exact post.elim
def eC(x:T):SE:=fun σ=>.ok (.t x) σ
theorem Zfz{x:T}{v:V}(h:∀P,Den K mg P x v):TEd K mg fx E (tC v) (eC x):=by
 intro P H gs σ ν Q S post
 exact post P H gs (fun _=>False) v ⟨.refl _,fun _ _ _ h=>h,fun b h=>.inl (h.elim id fun z=>z.elim),fun _ _ h=>.inl h⟩ S (.t (h P) fun _ h=>h) fun _ _ h=>h
variable(K mg)
def OpD(r:R2)(op:T->T->Option D):Prop:=∀P H x y v w d Q,Sub P H->Den K mg P x v->Den K mg P y w->op x y=some d ->
 (∀P' H' g u,Go P H (fun _=>False) P' H' g->Sub P' H'->Own K mg P' H' g d u->Q u H')->r v w H Q
def UnD(r:V->Hp->VK->Prop)(op:T->Option D):Prop:=∀P H x v d Q,Sub P H->Den K mg P x v->op x=some d ->
 (∀P' H' g u,Go P H (fun _=>False) P' H' g->Sub P' H'->Own K mg P' H' g d u->Q u H')->r v H Q
variable{K mg}
theorem done{P H:Hp}{x:T}{v:V}{Q:VK}(s:Sub P H)(h:Den K mg P x v)(k:∀P' H' g u,Go P H (fun _=>False) P' H' g->Sub P' H'->Own K mg P' H' g (.t x) u->Q u H'):Q v H:=
 k P H (fun _=>False) v .refl s (.t h fun _ h=>h)
theorem newL{P H:Hp}{ts:List T}{vs:List V}{Q:VK}{l:Addr}(s:Sub P H)(hl:H l=none)(hn:ts.length=vs.length)(h:∀(i:Nat) t v,ts[i]? = some t->vs[i]? = some v->Den K mg P t v)
 (k:∀P' H' g u,Go P H (fun _=>False) P' H' g->Sub P' H'->Own K mg P' H' g (.lst (ts.map D.t)) u->Q u H'):Q (.ref l) (upd H l (.lst vs)):=by
 have hP:P l=none:=by
  cases q:P l with
  | none=>rfl
  | some o=>rw[s l o q] at hl;cases hl
 have sb:Sub P (upd H l (.lst vs)):=fun b o e=>by rw[Zan (Zak e hP)];exact s b o e
 refine k P (upd H l (.lst vs)) (fun b=>b=l) (.ref l) ⟨.refl _,fun b o _ e=>by rw[Zan (Zak e hl)];exact e,fun b e=>.inr (by rw[show b=l from e];exact hl),fun _ _ e=>.inl e⟩ sb
  (.lst (gs:=fun _ _=>False) ZaA hP (by rw[List.length_map];exact hn) (fun i d v e e'=>?_) (fun _ h=>h) (fun _ _ _ _ h=>h.elim) (fun _ _ _ h=>h) fun b=>⟨fun e=>.inl e,fun e=>e.elim id fun ⟨_,z⟩=>z.elim⟩)
 rw[List.getElem?_map] at e
 cases q:ts[i]? with
 | none=>rw[q] at e;cases e
 | some t=>rw[q] at e;cases e;exact .t (h i t v q e') fun _ h=>h
def e2(op:T->T->Option D)(fa fb:SE):SE:=fun σ=>(fa σ).bnd fun a σ1=>(fb σ1).bnd fun b σ2=>match op (frz a) (frz b) with
 | some d=>.ok d σ2
 | none=>.bad
def e1(op:T->Option D)(fa:SE):SE:=fun σ=>(fa σ).bnd fun a σ1=>match op (frz a) with
 | some d=>.ok d σ1
 | none=>.bad
theorem Zax{r:R2}{op:T->T->Option D}{ta tb:TE}{fa fb:SE}(ho:OpD K mg r op)(ha:TEd K mg fx E ta fa)(hb:TEd K mg fx E tb fb):TEd K mg fx E (tOp r ta tb) (e2 op fa fb):=by
 intro P H gs σ ν Q S post
 unfold e2 at post
 refine ha.run S (fun c σ' e=>?_) (fun e=>?_) fun da σ1 e P1 H1 gs1 v1 s1 S1 d1=>?_
 · rw[e] at post;exact post
 · rw[e] at post;exact post
 rw[e] at post
 dsimp only[Out.bnd] at post
 refine hb.run S1 (fun c σ' e=>?_) (fun e=>?_) fun db σ2 e P2 H2 gs2 v2 s2 S2 d2=>?_
 · rw[e] at post;exact post.from s1
 · rw[e] at post;exact post
 rw[e] at post
 dsimp only at post
 split at post
 · rename_i d eo
   refine ho P2 H2 _ _ v1 v2 d Q S2.sub (d1.mono s2.mono) d2 eo fun P3 H3 g u s3 sb o=>?_
   exact post P3 H3 gs2 g u ((s1.trans s2).trans s3.alloc) (S2.go s3 sb fun _ _ h=>h) o (s3.frees fun b h=>(S2.here h).1)
 · exact post.elim
theorem Zhx{r:V->Hp->VK->Prop}{op:T->Option D}{ta:TE}{fa:SE}(ho:UnD K mg r op)(ha:TEd K mg fx E ta fa):TEd K mg fx E (tUn r ta) (e1 op fa):=by
 intro P H gs σ ν Q S post
 unfold e1 at post
 refine ha.run S (fun c σ' e=>?_) (fun e=>?_) fun da σ1 e P1 H1 gs1 v1 s1 S1 d1=>?_
 · rw[e] at post;exact post
 · rw[e] at post;exact post
 rw[e] at post
 dsimp only[Out.bnd] at post
 split at post
 · rename_i d eo
   refine ho P1 H1 _ v1 d Q S1.sub d1 eo fun P3 H3 g u s3 sb o=>?_
   exact post P3 H3 gs1 g u (s1.trans s3.alloc) (S1.go s3 sb fun _ _ h=>h) o (s3.frees fun b h=>(S1.here h).1)
 · exact post.elim
end
end DL
set_option autoImplicit false
namespace DL
open PySem L2
variable{K:PySem.W.Frag}{mg:Str->Option Value}{fx:Nat->Option V}{E:XK}
def ZeF:D->Option Bool
 | .t (.bl k)=>some k
 | _=>none
theorem ZlX{P H:Hp}{g:Fp}{d:D}{k:Bool}{v:V}(e:ZeF d=some k)(o:Own K mg P H g d v):v=.bl k /\ ∀b,¬g b:=by
 unfold ZeF at e
 split at e
 · cases e
   cases o with
   | t h hg=>cases h;exact⟨rfl,hg⟩
 · cases e
def sT(f:SE):ST:=fun σ=>(f σ).bnd fun d σ1=>match ZeF d with
 | some k=>.ok k σ1
 | none=>.bad
theorem ZcX{t:TE}{f:SE}(h:TEd K mg fx E t f):TTd K mg fx E (tB t) (sT f):=by
 intro P H gs σ ν Q S post
 unfold sT at post
 refine h P H gs σ ν _ S ?_
 cases e:f σ with
 | bad=>rw[e] at post;exact post
 | exc c σ'=>rw[e] at post;exact post
 | ok d σ'=>
  rw[e] at post
  intro P1 H1 gs1 g v s1 S1 o dj
  dsimp only[Out.bnd] at post
  split at post
  · rename_i k ek
    obtain⟨rfl,hg⟩:=ZlX ek o
    exact⟨k,rfl,post P1 H1 gs1 (s1.weak fun b h=>.inl h) S1⟩
  · exact post.elim
theorem ZaO{t:TE}{f:SE}(h:TEd K mg fx E t f):TTd K mg fx E (Znu t) (sT f):=ZcX h
def sNot(f:ST):ST:=fun σ=>(f σ).bnd fun k σ1=>.ok (!k) σ1
def sAnd(f g:ST):ST:=fun σ=>(f σ).bnd fun k σ1=>if k=true then g σ1 else .ok false σ1
def sOr(f g:ST):ST:=fun σ=>(f σ).bnd fun k σ1=>if k=true then .ok true σ1 else g σ1
section
variable{P H P1 H1:Hp}{gs gs1:Nat->Fp}{ν:St}
theorem TTd.run{ta:TT}{fa:ST}(ha:TTd K mg fx E ta fa){σ:Env'}{Q:Bool->Hp->Prop}(S:StOk K mg fx P H gs σ ν)
 (hx:∀c σ',fa σ=.exc c σ'->PostX K mg fx E P H gs ν c σ') (hb:fa σ≠.bad)
 (hk:∀k σ',fa σ=.ok k σ' -> ∀P' H' gs',Go P H (tot gs) P' H' (tot gs')->StOk K mg fx P' H' gs' σ' ν->Q k H'):ta ν H Q:=by
 refine ha P H gs σ ν Q S ?_
 cases e:fa σ with
 | bad=>exact absurd e hb
 | exc c σ'=>exact hx c σ' e
 | ok k σ'=>exact hk k σ' e
theorem PostE.from{Q:VK}{o:Out D}(h:PostE K mg fx E P H gs ν Q o)(s:Go P H (tot gs) P1 H1 (tot gs1)):PostE K mg fx E P1 H1 gs1 ν Q o:=by
 cases o with
 | bad=>exact h
 | exc c σ'=>exact PostX.from h s
 | ok d σ'=>exact fun P' H' gs' g v s'=>h P' H' gs' g v (s.trans s')
theorem PostT.from{Q:Bool->Hp->Prop}{o:Out Bool}(h:PostT K mg fx E P H gs ν Q o)(s:Go P H (tot gs) P1 H1 (tot gs1)):PostT K mg fx E P1 H1 gs1 ν Q o:=by
 cases o with
 | bad=>exact h
 | exc c σ'=>exact PostX.from h s
 | ok d σ'=>exact fun P' H' gs' s'=>h P' H' gs' (s.trans s')
theorem PostA.from{Q:List V->Hp->Prop}{o:Out (List D)}(h:PostA K mg fx E P H gs ν Q o)(s:Go P H (tot gs) P1 H1 (tot gs1)):PostA K mg fx E P1 H1 gs1 ν Q o:=by
 cases o with
 | bad=>exact h
 | exc c σ'=>exact PostX.from h s
 | ok d σ'=>exact fun P' H' gs' g v s'=>h P' H' gs' g v (s.trans s')
end
theorem Zfh{t:TT}{f:ST}(h:TTd K mg fx E t f):TTd K mg fx E (tNot t) (sNot f):=by
 intro P H gs σ ν Q S post
 unfold sNot at post
 refine h.run S (fun c σ' e=>by rw[e] at post;exact post) (fun e=>by rw[e] at post;exact post) fun k σ' e P1 H1 gs1 s1 S1=>?_
 rw[e] at post
 exact post P1 H1 gs1 s1 S1
theorem Zpw{t u:TT}{f g:ST}(h:TTd K mg fx E t f)(h':TTd K mg fx E u g):TTd K mg fx E (tAnd t u) (sAnd f g):=by
 intro P H gs σ ν Q S post
 unfold sAnd at post
 refine h.run S (fun c σ' e=>by rw[e] at post;exact post) (fun e=>by rw[e] at post;exact post) fun k σ' e P1 H1 gs1 s1 S1=>?_
 rw[e] at post
 dsimp only[Out.bnd] at post
 cases k with
 | true=>exact h' P1 H1 gs1 σ' ν Q S1 (PostT.from post s1)
 | false=>exact post P1 H1 gs1 s1 S1
theorem ZlY{t u:TT}{f g:ST}(h:TTd K mg fx E t f)(h':TTd K mg fx E u g):TTd K mg fx E (tOr t u) (sOr f g):=by
 intro P H gs σ ν Q S post
 unfold sOr at post
 refine h.run S (fun c σ' e=>by rw[e] at post;exact post) (fun e=>by rw[e] at post;exact post) fun k σ' e P1 H1 gs1 s1 S1=>?_
 rw[e] at post
 dsimp only[Out.bnd] at post
 cases k with
 | false=>exact h' P1 H1 gs1 σ' ν Q S1 (PostT.from post s1)
 | true=>exact post P1 H1 gs1 s1 S1
def eT(f:ST):SE:=fun σ=>(f σ).bnd fun k σ1=>.ok (.t (.bl k)) σ1
def eNot(f:SE):SE:=eT (sNot (sT f))
def eAnd(f g:SE):SE:=fun σ=>(sT f σ).bnd fun k σ1=>if k=true then g σ1 else .ok (.t (.bl false)) σ1
def eOr(f g:SE):SE:=fun σ=>(sT f σ).bnd fun k σ1=>if k=true then .ok (.t (.bl true)) σ1 else g σ1
def eIf(c:ST)(f g:SE):SE:=fun σ=>(c σ).bnd fun k σ1=>if k=true then f σ1 else g σ1
theorem okT{P H P1 H1:Hp}{gs gs1:Nat->Fp}{ν:St}{Q:VK}{x:T}{v:V}{σ1:Env'}(post:PostE K mg fx E P H gs ν Q (.ok (.t x) σ1))(s:Go P H (tot gs) P1 H1 (tot gs1))(S:StOk K mg fx P1 H1 gs1 σ1 ν)(h:Den K mg P1 x v):Q v H1:=
 post P1 H1 gs1 (fun _=>False) v ⟨s.mono,s.frame,fun b z=>s.new b (z.elim id fun y=>y.elim),s.pnew⟩ S (.t h fun _ h=>h) fun _ _ h=>h
theorem ZmI{t u:TE}{f g:SE}(h:TEd K mg fx E t f)(h':TEd K mg fx E u g):TEd K mg fx E (Zo4 t u) (eAnd f g):=by
 intro P H gs σ ν Q S post
 unfold eAnd at post
 refine(ZcX h).run (Q:=fun c H1=>if c=true then u ν H1 Q else Q (.bl false) H1) S (fun c σ' e=>by rw[e] at post;exact post) (fun e=>by rw[e] at post;exact post) fun k σ' e P1 H1 gs1 s1 S1=>?_
 rw[e] at post
 dsimp only[Out.bnd] at post
 cases k with
 | true=>exact h' P1 H1 gs1 σ' ν Q S1 (PostE.from post s1)
 | false=>exact okT post s1 S1 .bl
theorem ZqH{t u:TE}{f g:SE}(h:TEd K mg fx E t f)(h':TEd K mg fx E u g):TEd K mg fx E (tOrV t u) (eOr f g):=by
 intro P H gs σ ν Q S post
 unfold eOr at post
 refine(ZcX h).run (Q:=fun c H1=>if c=true then Q (.bl true) H1 else u ν H1 Q) S (fun c σ' e=>by rw[e] at post;exact post) (fun e=>by rw[e] at post;exact post) fun k σ' e P1 H1 gs1 s1 S1=>?_
 rw[e] at post
 dsimp only[Out.bnd] at post
 cases k with
 | false=>exact h' P1 H1 gs1 σ' ν Q S1 (PostE.from post s1)
 | true=>exact okT post s1 S1 .bl
def ZiC(op op':T->T->Option Bool)(fa fb fc:SE):SE:=fun σ=>(fa σ).bnd fun a σ1=>(fb σ1).bnd fun b σ2=>match op (frz a) (frz b) with
 | some true=>(fc σ2).bnd fun c σ3=>(match op' (frz b) (frz c) with
  | some k=>.ok (.t (.bl k)) σ3
  | none=>.bad)
 | some false=>.ok (.t (.bl false)) σ2
 | none=>.bad
def OpB(K:PySem.W.Frag)(mg:Str->Option Value)(r:R2)(op:T->T->Option Bool):Prop:=∀P H x y v w k (Q:VK),Sub P H->Den K mg P x v->Den K mg P y w->op x y=some k->Q (.bl k) H->r v w H Q
theorem OpB.op{r:R2}{op:T->T->Option Bool}(h:OpB K mg r op):OpD K mg r fun x y=>(op x y).map fun k=>.t (.bl k):=by
 intro P H x y v w d Q s hx hy e k
 dsimp only at e
 cases q:op x y with
 | none=>rw[q] at e;cases e
 | some b=>
  rw[q] at e
  cases e
  exact h P H x y v w b Q s hx hy q (done s .bl k)
theorem ZlZ{r r':R2}{op op':T->T->Option Bool}{ta tb tc:TE}{fa fb fc:SE}(ho:OpB K mg r op)(ho':OpB K mg r' op')(ha:TEd K mg fx E ta fa)(hb:TEd K mg fx E tb fb)(hc:TEd K mg fx E tc fc) :
 TEd K mg fx E (ZmB r r' ta tb tc) (ZiC op op' fa fb fc):=by
 intro P H gs σ ν Q S post
 unfold ZiC at post
 refine ha.run S (fun c σ' e=>by rw[e] at post;exact post) (fun e=>by rw[e] at post;exact post) fun da σ1 e P1 H1 gs1 v1 s1 S1 d1=>?_
 rw[e] at post
 dsimp only[Out.bnd] at post
 refine hb.run S1 (fun c σ' e=>by rw[e] at post;exact PostX.from post s1) (fun e=>by rw[e] at post;exact post) fun db σ2 e P2 H2 gs2 v2 s2 S2 d2=>?_
 rw[e] at post
 dsimp only at post
 split at post
 · rename_i eo
   refine ho P2 H2 _ _ v1 v2 true _ S2.sub (d1.mono s2.mono) d2 eo ⟨true,rfl,?_⟩
   rw[if_pos rfl]
   refine hc.run S2 (fun c σ' e=>by rw[e] at post;exact PostX.from post (s1.trans s2)) (fun e=>by rw[e] at post;exact post) fun dc σ3 e P3 H3 gs3 v3 s3 S3 d3=>?_
   rw[e] at post
   dsimp only at post
   split at post
   · rename_i k ek
     exact ho' P3 H3 _ _ v2 v3 k _ S3.sub (d2.mono s3.mono) d3 ek (okT post ((s1.trans s2).trans s3) S3 .bl)
   · exact post.elim
 · rename_i eo
   refine ho P2 H2 _ _ v1 v2 false _ S2.sub (d1.mono s2.mono) d2 eo ⟨false,rfl,?_⟩
   rw[if_neg Bool.false_ne_true]
   exact okT post (s1.trans s2) S2 .bl
 · exact post.elim
end DL
set_option autoImplicit false
namespace DL
open PySem L2
variable{K:PySem.W.Frag}{mg:Str->Option Value}{fx:Nat->Option V}{E:XK}
theorem OwnL.nil{P H:Hp}:OwnL K mg P H (fun _=>False) [] []:=⟨rfl,fun _ _=>False,fun i d v e=>by simp at e,fun _ _ _ _ h=>h.elim,fun _ _ _ h=>h,fun b=>⟨fun h=>h.elim,fun ⟨_,h⟩=>h⟩⟩
theorem OwnL.cons{P H:Hp}{g gr:Fp}{d:D}{v:V}{ds:List D}{vs:List V}(o:Own K mg P H g d v)(r:OwnL K mg P H gr ds vs)(dj:∀b,g b -> ¬gr b):OwnL K mg P H (fun b=>g b\/gr b) (d :: ds) (v :: vs):=by
 obtain⟨hl,gs,h1,h2,h3,h4⟩:=r
 refine⟨by simp[hl],fun i=>match i with | 0=>g | i+1=>gs i,fun i d' v' e e'=>?_,fun i j b hij hi hj=>?_,fun i b h=>?_,fun b=>?_⟩
 · cases i with
   | zero=>simp at e e';subst e e';exact o
   | succ i=>simp at e e';exact h1 i d' v' e e'
 · cases i with
   | zero=>cases j with
    | zero=>exact hij rfl
    | succ j=>exact dj b hi ((h4 b).mpr ⟨j,hj⟩)
   | succ i=>cases j with
    | zero=>exact dj b hj ((h4 b).mpr ⟨i,hi⟩)
    | succ j=>exact h2 i j b (fun e=>hij (by rw[e])) hi hj
 · cases i with
   | zero=>simp at h
   | succ i=>exact h3 i b (by simpa using h)
 · constructor
   · rintro(h | h)
     · exact⟨0,h⟩
     · obtain⟨i,h⟩:=(h4 b).mp h;exact⟨i+1,h⟩
   · rintro⟨i,h⟩
     cases i with
     | zero=>exact .inl h
     | succ i=>exact .inr ((h4 b).mpr ⟨i,h⟩)
theorem OwnL.uncons{P H:Hp}{g:Fp}{d:D}{v:V}{ds:List D}{vs:List V}(r:OwnL K mg P H g (d :: ds) (v :: vs)) :
 ∃g1 gr,Own K mg P H g1 d v/\OwnL K mg P H gr ds vs/\(∀b,g1 b -> ¬gr b) /\ ∀b,g b ↔ g1 b\/gr b:=by
 obtain⟨hl,gs,h1,h2,h3,h4⟩:=r
 refine⟨gs 0,fun b=>∃i,gs (i+1) b,h1 0 d v rfl rfl,⟨by simpa using hl,fun i=>gs (i+1),fun i d' v' e e'=>h1 (i+1) d' v' (by simpa using e) (by simpa using e'),fun i j b hij=>h2 (i+1) (j+1) b (by omega),fun i b h=>h3 (i+1) b (by simpa using h),fun b=>Iff.rfl⟩,fun b h0 ⟨i,h⟩=>h2 0 (i+1) b (by omega) h0 h,fun b=>?_⟩
 rw[h4 b]
 constructor
 · rintro⟨i,h⟩
   cases i with
   | zero=>exact .inl h
   | succ i=>exact .inr ⟨i,h⟩
 · rintro(h | ⟨i,h⟩)
   · exact⟨0,h⟩
   · exact⟨i+1,h⟩
theorem OwnL.len{P H:Hp}{g:Fp}{ds:List D}{vs:List V}(r:OwnL K mg P H g ds vs):ds.length=vs.length:=r.1
theorem OwnL.at{P H:Hp}{g:Fp}{ds:List D}{vs:List V}(r:OwnL K mg P H g ds vs):∀b,g b->(∃o,H b=some o)/\P b=none:=fun b h=>by
 obtain⟨hl,gs,h1,h2,h3,h4⟩:=r
 obtain⟨i,hi⟩:=(h4 b).mp h
 by_cases hlt:i<ds.length
 · obtain⟨d,e⟩:=Zdk hlt
   obtain⟨v,e'⟩:=Zdk (hl▸hlt)
   exact(h1 i d v e e').at b hi
 · exact absurd hi (h3 i b (by omega))
theorem OwnL.frame{P H P' H':Hp}{g:Fp}{ds:List D}{vs:List V}(r:OwnL K mg P H g ds vs)(sP:Sub P P')(hH:∀b o,g b->H b=some o->H' b=some o)(hP:∀b,g b->P' b=none):OwnL K mg P' H' g ds vs:=by
 obtain⟨hl,gs,h1,h2,h3,h4⟩:=r
 exact⟨hl,gs,fun i d v e e'=>(h1 i d v e e').frame sP (fun b o hb=>hH b o ((h4 b).mpr ⟨i,hb⟩)) fun b hb=>hP b ((h4 b).mpr ⟨i,hb⟩),h2,h3,h4⟩
theorem Go.otherL{P H P' H':Hp}{G G' g:Fp}{ds:List D}{vs:List V}(s:Go P H G P' H' G')(h:OwnL K mg P H g ds vs)(dj:∀b,g b -> ¬G b):OwnL K mg P' H' g ds vs /\ ∀b,g b -> ¬G' b:=by
 have hn:∀b,g b->H b≠none:=fun b hb e=>by
  obtain⟨⟨o,q⟩,_⟩:=h.at b hb
  rw[q] at e;cases e
 refine⟨h.frame s.mono (fun b o hb e=>s.frame b o (dj b hb) e) fun b hb=>?_,fun b hb z=>?_⟩
 · cases q:P' b with
   | none=>rfl
   | some o=>
    rcases s.pnew b o q with z | z | z
    · rw[(h.at b hb).2] at z;cases z
    · exact absurd z (dj b hb)
    · exact absurd z (hn b hb)
 · rcases s.new b z with z | z
   · exact dj b hb z
   · exact hn b hb z
def aNil:SA:=fun σ=>.ok [] σ
def Zad(f:SE)(r:SA):SA:=fun σ=>(f σ).bnd fun d σ1=>(r σ1).bnd fun ds σ2=>.ok (d :: ds) σ2
def lend(i:Nat)(σ:Env'):Option (D×Env'):=match σ[i]? with
 | some (.v d)=>some (d,σ.set i .e)
 | some (.x d)=>some (d,σ.set i .h)
 | _=>none
def aIo(i:Nat)(r:SA):SA:=fun σ=>match lend i σ with
 | some (d,σ1)=>(match r σ1 with
  | .ok ds σ2=>.ok (d :: ds) σ2
  | _=>.bad)
 | none=>.bad
def IoOk(io:List (Option Nat))(ν:St)(vs:List V):Prop:=∀(k i:Nat) v,io[k]? = some (some i)->vs[k]? = some v->ν[i]? = some (some v)
variable(K mg)
def ZqI(fx:Nat->Option V)(E:XK)(io:List (Option Nat))(P H:Hp)(gs:Nat->Fp)(ν:St)(Q:List V->Hp->Prop):Out (List D)->Prop
 | .ok ds σ'=>∀P' H' gs' g vs,Go P H (tot gs) P' H' (fun b=>tot gs' b\/g b)->StOk K mg fx P' H' gs' σ' ν->OwnL K mg P' H' g ds vs->(∀b,tot gs' b -> ¬g b)->IoOk io ν vs->Q vs H'
 | .exc c σ'=>PostX K mg fx E P H gs ν c σ'
 | .bad=>False
def TLd(fx:Nat->Option V)(E:XK)(io:List (Option Nat))(t:TA)(f:SA):Prop:=∀P H gs σ ν Q,StOk K mg fx P H gs σ ν->ZqI K mg fx E io P H gs ν Q (f σ)->t ν H Q
variable{K mg}
theorem Zai:TLd K mg fx E [] tNil aNil:=by
 intro P H gs σ ν Q S post
 exact post P H gs (fun _=>False) [] ⟨.refl _,fun _ _ _ h=>h,fun b h=>.inl (h.elim id fun z=>z.elim),fun _ _ h=>.inl h⟩ S .nil (fun _ _ h=>h) fun k i v e=>by simp at e
theorem Zac{io:List (Option Nat)}{t:TE}{f:SE}{tr:TA}{fr:SA}(h:TEd K mg fx E t f)(hr:TLd K mg fx E io tr fr):TLd K mg fx E (none :: io) (Zc8 t tr) (Zad f fr):=by
 intro P H gs σ ν Q S post
 unfold Zad at post
 refine h P H gs σ ν _ S ?_
 cases e:f σ with
 | bad=>rw[e] at post;exact post
 | exc c σ'=>rw[e] at post;exact post
 | ok d σ1=>
  rw[e] at post
  dsimp only[Out.bnd] at post
  intro P1 H1 gs1 g1 v1 s1 S1 o1 dj1
  refine hr P1 H1 gs1 σ1 ν _ S1 ?_
  cases e2:fr σ1 with
  | bad=>rw[e2] at post;exact post
  | exc c σ'=>rw[e2] at post;exact PostX.from (gs1:=gs1) post (s1.weak fun b h=>.inl h)
  | ok ds σ2=>
   rw[e2] at post
   dsimp only at post
   intro P2 H2 gs2 g2 vs s2 S2 o2 dj2 hio
   obtain⟨o1',dj1'⟩:=s2.other o1 fun b h z=>dj1 b z h
   refine post P2 H2 gs2 (fun b=>g1 b\/g2 b) (v1 :: vs) ?_ S2 (.cons o1' o2 fun b h z=>dj1' b h (.inr z)) (fun b h z=>?_) fun k i v ek ev=>?_
   · refine(s1.trans ((s2.wide (F:=g1)).weak (G':=fun b=>g1 b\/(tot gs2 b\/g2 b)) (G2:=fun b=>tot gs2 b\/(g1 b\/g2 b)) ?_ |> fun z=>(⟨z.mono,fun b o n h=>z.frame b o (fun y=>n (y.elim .inr .inl)) h,fun b h=>(z.new b h).imp (fun y=>y.elim .inr .inl) id,fun b o h=>(z.pnew b o h).imp id fun y=>y.imp (fun w=>w.elim .inr .inl) id⟩:Go P1 H1 (fun b=>tot gs1 b\/g1 b) P2 H2 (fun b=>tot gs2 b\/(g1 b\/g2 b)))))
     rintro b (h | h | h)
     · exact .inr (.inl h)
     · exact .inl h
     · exact .inr (.inr h)
   · rcases z with z | z
     · exact dj1' b z (.inl h)
     · exact dj2 b h z
   · cases k with
     | zero=>simp at ek
     | succ k=>exact hio k i v (by simpa using ek) (by simpa using ev)
theorem StOk.lend{P H:Hp}{gs:Nat->Fp}{σ σ1:Env'}{ν:St}{i:Nat}{d:D}(S:StOk K mg fx P H gs σ ν)(e:lend i σ=some (d,σ1)) :
 ∃v,ν[i]? = some (some v)/\Own K mg P H (gs i) d v/\StOk K mg fx P H (fun j=>if j=i then fun _=>False else gs j) σ1 ν/\(∀b,tot (fun j=>if j=i then fun _=>False else gs j) b -> ¬gs i b) /\ ∀b,tot gs b ↔ gs i b\/tot (fun j=>if j=i then fun _=>False else gs j) b:=by
 have key:∀z:Sl,Sl.get z=none->(σ[i]? = some (.v d)/\z=.e\/σ[i]? = some (.x d)/\z=.h) -> ∃v,ν[i]? = some (some v)/\Own K mg P H (gs i) d v/\StOk K mg fx P H (fun j=>if j=i then fun _=>False else gs j) (σ.set i z) ν/\(∀b,tot (fun j=>if j=i then fun _=>False else gs j) b -> ¬gs i b) /\ ∀b,tot gs b ↔ gs i b\/tot (fun j=>if j=i then fun _=>False else gs j) b:=by
  intro z hz hσ
  have hget:(σ[i]?).bind Sl.get=some d:=by rcases hσ with⟨h,_⟩ | ⟨h,_⟩<;>rw[h]<;>rfl
  have hi:i<σ.length:=by rcases hσ with⟨h,_⟩ | ⟨h,_⟩<;>exact Zcn h
  obtain⟨v,hv,o⟩:=S.slot i d hget
  refine⟨v,hv,o,⟨S.sub,by rw[List.length_set];exact S.len,fun j d' e'=>?_,fun j b e'=>?_,fun j k b hjk hj=>?_,fun j e'=>?_,fun j w h=>?_⟩,fun b ⟨j,h⟩=>?_,fun b=>⟨fun ⟨j,h⟩=>?_,fun h=>?_⟩⟩
  · by_cases hj:j=i
    · subst hj
      rw[List.getElem?_set_self hi] at e'
      rw[show(some z).bind Sl.get=z.get from rfl,hz] at e'
      cases e'
    · rw[List.getElem?_set_ne (Ne.symm hj)] at e'
      simp only[hj,if_false]
      exact S.slot j d' e'
  · by_cases hj:j=i
    · simp only[hj,if_true];exact fun h=>h
    · rw[List.getElem?_set_ne (Ne.symm hj)] at e'
      simp only[hj,if_false]
      exact S.emp j b e'
  · by_cases hj':j=i
    · simp only[hj',if_true] at hj
    · simp only[hj',if_false] at hj
      by_cases hk':k=i
      · simp only[hk',if_true];exact fun h=>h
      · simp only[hk',if_false];exact S.dis j k b hjk hj
  · by_cases hj:j=i
    · subst hj
      rw[List.getElem?_set_self hi] at e'
      rcases hσ with⟨h,hz'⟩ | ⟨h,hz'⟩
      · subst hz';rcases e' with e' | ⟨_,e'⟩<;>cases e'
      · exact S.fix j (.inr ⟨d,h⟩)
    · rw[List.getElem?_set_ne (Ne.symm hj)] at e'
      exact S.fix j e'
  · obtain⟨h1,h2⟩:=S.fixed j w h
    refine⟨h1,?_⟩
    by_cases hj:j=i
    · subst hj
      rw[List.getElem?_set_self hi]
      rcases hσ with⟨h,hz'⟩ | ⟨h,hz'⟩
      · rw[h] at h2;rcases h2 with h2 | ⟨_,h2⟩<;>cases h2
      · exact .inl (by rw[hz'])
    · rw[List.getElem?_set_ne (Ne.symm hj)];exact h2
  · by_cases hj:j=i
    · simp only[hj,if_true] at h
    · simp only[hj,if_false] at h;exact S.dis j i b hj h
  · by_cases hj:j=i
    · rw[hj] at h;exact .inl h
    · exact .inr ⟨j,by simp only[hj,if_false];exact h⟩
  · rcases h with h | ⟨j,h⟩
    · exact⟨i,h⟩
    · by_cases hj:j=i
      · simp only[hj,if_true] at h
      · simp only[hj,if_false] at h;exact⟨j,h⟩
 unfold DL.lend at e
 split at e
 · rename_i d' q;cases e;exact key .e rfl (.inl ⟨q,rfl⟩)
 · rename_i d' q;cases e;exact key .h rfl (.inr ⟨q,rfl⟩)
 · cases e
theorem ZgK{io:List (Option Nat)}{i:Nat}{tr:TA}{fr:SA}(hr:TLd K mg fx E io tr fr):TLd K mg fx E (some i :: io) (Zc8 (tVar i) tr) (aIo i fr):=by
 intro P H gs σ ν Q S post
 unfold aIo at post
 split at post
 · rename_i d σ1 el
   obtain⟨v,hv,o,S1,dj,ht⟩:=S.lend el
   refine⟨v,hv,?_⟩
   refine hr P H _ σ1 ν _ S1 ?_
   cases e2:fr σ1 with
   | bad=>rw[e2] at post;exact post
   | exc c σ'=>rw[e2] at post;exact post.elim
   | ok ds σ2=>
    rw[e2] at post
    dsimp only at post
    intro P2 H2 gs2 g2 vs s2 S2 o2 dj2 hio
    obtain⟨o1',dj1'⟩:=s2.other o fun b h z=>dj b z h
    refine post P2 H2 gs2 (fun b=>gs i b\/g2 b) (v :: vs) ⟨s2.mono,fun b w n h=>s2.frame b w (fun y=>n ((ht b).mpr (.inr y))) h,fun b h=>?_,fun b w h=>(s2.pnew b w h).imp id fun y=>y.imp (fun z=>(ht b).mpr (.inr z)) id⟩ S2 (.cons o1' o2 fun b h z=>dj1' b h (.inr z)) (fun b h z=>?_) fun k j w ek ev=>?_
    · rcases h with h | h | h
      · exact(s2.new b (.inl h)).imp (fun y=>(ht b).mpr (.inr y)) id
      · exact .inl ((ht b).mpr (.inl h))
      · exact(s2.new b (.inr h)).imp (fun y=>(ht b).mpr (.inr y)) id
    · rcases z with z | z
      · exact dj1' b z (.inl h)
      · exact dj2 b h z
    · cases k with
      | zero=>simp at ek ev;subst ek ev;exact hv
      | succ k=>exact hio k j w (by simpa using ek) (by simpa using ev)
 · exact post.elim
def put(i:Nat)(d:D)(σ:Env'):Option Env':=match σ[i]? with
 | some .e=>some (σ.set i (.v d))
 | some .h=>some (σ.set i (.x d))
 | _=>none
theorem StOk.put{P H:Hp}{gs:Nat->Fp}{σ σ1:Env'}{ν:St}{i:Nat}{d:D}{g:Fp}{v:V}(S:StOk K mg fx P H gs σ ν)(e:put i d σ=some σ1)(hv:ν[i]? = some (some v))(o:Own K mg P H g d v)(dj:∀b,tot gs b -> ¬g b) :
 StOk K mg fx P H (fun j=>if j=i then g else gs j) σ1 ν /\ ∀b,tot (fun j=>if j=i then g else gs j) b ↔ g b\/tot gs b:=by
 have key:∀z:Sl,Sl.get z=some d->(σ[i]? = some .e/\z=.v d\/σ[i]? = some .h/\z=.x d)->StOk K mg fx P H (fun j=>if j=i then g else gs j) (σ.set i z) ν /\ ∀b,tot (fun j=>if j=i then g else gs j) b ↔ g b\/tot gs b:=by
  intro z hz hσ
  have hget:(σ[i]?).bind Sl.get=none:=by rcases hσ with⟨h,_⟩ | ⟨h,_⟩<;>rw[h]<;>rfl
  have hi:i<σ.length:=by rcases hσ with⟨h,_⟩ | ⟨h,_⟩<;>exact Zcn h
  refine⟨⟨S.sub,by rw[List.length_set];exact S.len,fun j d' e'=>?_,fun j b e'=>?_,fun j k b hjk hj hk=>?_,fun j e'=>?_,fun j w h=>?_⟩,fun b=>⟨fun ⟨j,h⟩=>?_,fun h=>?_⟩⟩
  · by_cases hj:j=i
    · subst hj
      rw[List.getElem?_set_self hi,show(some z).bind Sl.get=z.get from rfl,hz] at e'
      cases e'
      simp only[if_true]
      exact⟨v,hv,o⟩
    · rw[List.getElem?_set_ne (Ne.symm hj)] at e'
      simp only[hj,if_false]
      exact S.slot j d' e'
  · by_cases hj:j=i
    · subst hj
      rw[List.getElem?_set_self hi,show(some z).bind Sl.get=z.get from rfl,hz] at e'
      cases e'
    · rw[List.getElem?_set_ne (Ne.symm hj)] at e'
      simp only[hj,if_false]
      exact S.emp j b e'
  · by_cases hj':j=i
    · by_cases hk':k=i
      · exact hjk (hj'.trans hk'.symm)
      · simp only[hj',if_true] at hj
        simp only[hk',if_false] at hk
        exact dj b ⟨k,hk⟩ hj
    · simp only[hj',if_false] at hj
      by_cases hk':k=i
      · simp only[hk',if_true] at hk;exact dj b ⟨j,hj⟩ hk
      · simp only[hk',if_false] at hk;exact S.dis j k b hjk hj hk
  · by_cases hj:j=i
    · subst hj
      rcases hσ with⟨h,hz'⟩ | ⟨h,hz'⟩
      · rw[List.getElem?_set_self hi,hz'] at e'
        rcases e' with e' | ⟨_,e'⟩<;>cases e'
      · exact S.fix j (.inl h)
    · rw[List.getElem?_set_ne (Ne.symm hj)] at e'
      exact S.fix j e'
  · obtain⟨h1,h2⟩:=S.fixed j w h
    refine⟨h1,?_⟩
    by_cases hj:j=i
    · subst hj
      rw[List.getElem?_set_self hi]
      rcases hσ with⟨h,hz'⟩ | ⟨h,hz'⟩
      · rw[h] at h2;rcases h2 with h2 | ⟨_,h2⟩<;>cases h2
      · exact .inr ⟨d,by rw[hz']⟩
    · rw[List.getElem?_set_ne (Ne.symm hj)];exact h2
  · by_cases hj:j=i
    · simp only[hj,if_true] at h;exact .inl h
    · simp only[hj,if_false] at h;exact .inr ⟨j,h⟩
  · rcases h with h | ⟨j,h⟩
    · exact⟨i,by simp only[if_true];exact h⟩
    · by_cases hj:j=i
      · rw[hj] at h;exact absurd h (S.emp i b hget)
      · exact⟨j,by simp only[hj,if_false];exact h⟩
 unfold DL.put at e
 split at e
 · rename_i q;cases e;exact key (.v d) rfl (.inl ⟨q,rfl⟩)
 · rename_i q;cases e;exact key (.x d) rfl (.inr ⟨q,rfl⟩)
 · cases e
def wb:List (Option Nat)->List D->Env'->Option Env'
 | some i :: io,d :: ds,σ=>(put i d σ).bind (wb io ds)
 | none :: io,_ :: ds,σ=>wb io ds σ
 | _,_,σ=>some σ
theorem StOk.wb{P H:Hp}{ν:St}:∀{io:List (Option Nat)}{ds:List D}{vs:List V}{gs:Nat->Fp}{σ σ1:Env'}{g:Fp},StOk K mg fx P H gs σ ν->wb io ds σ=some σ1->OwnL K mg P H g ds vs->IoOk io ν vs->(∀b,tot gs b -> ¬g b) ->
 ∃gs1,StOk K mg fx P H gs1 σ1 ν /\ ∀b,tot gs1 b->tot gs b\/g b
 | [],ds,vs,gs,σ,σ1,g,S,e,o,hio,dj=>by
  simp only[DL.wb] at e
  cases e
  exact⟨gs,S,fun b h=>.inl h⟩
 | none :: io,[],vs,gs,σ,σ1,g,S,e,o,hio,dj=>by
  simp only[DL.wb] at e
  cases e
  exact⟨gs,S,fun b h=>.inl h⟩
 | some i :: io,[],vs,gs,σ,σ1,g,S,e,o,hio,dj=>by
  simp only[DL.wb] at e
  cases e
  exact⟨gs,S,fun b h=>.inl h⟩
 | none :: io,d :: ds,vs,gs,σ,σ1,g,S,e,o,hio,dj=>by
  cases vs with
  | nil=>exact absurd o.len (by simp)
  | cons v vs=>
   obtain⟨g1,gr,o1,o2,d12,hg⟩:=o.uncons
   obtain⟨gs1,S1,h1⟩:=StOk.wb (io:=io) S (by simpa only[DL.wb] using e) o2 (fun k i w ek ev=>hio (k+1) i w (by simpa using ek) (by simpa using ev)) fun b h z=>dj b h ((hg b).mpr (.inr z))
   exact⟨gs1,S1,fun b h=>(h1 b h).imp id fun z=>(hg b).mpr (.inr z)⟩
 | some i :: io,d :: ds,vs,gs,σ,σ1,g,S,e,o,hio,dj=>by
  cases vs with
  | nil=>exact absurd o.len (by simp)
  | cons v vs=>
   obtain⟨g1,gr,o1,o2,d12,hg⟩:=o.uncons
   simp only[DL.wb] at e
   cases ep:DL.put i d σ with
   | none=>rw[ep] at e;cases e
   | some σ2=>
    rw[ep] at e
    obtain⟨S2,ht⟩:=S.put ep (hio 0 i v rfl rfl) o1 fun b h z=>dj b h ((hg b).mpr (.inl z))
    obtain⟨gs1,S1,h1⟩:=StOk.wb (io:=io) S2 e o2 (fun k i w ek ev=>hio (k+1) i w (by simpa using ek) (by simpa using ev)) fun b h z=>((ht b).mp h).elim (fun y=>d12 b y z) fun y=>dj b y ((hg b).mpr (.inr z))
    refine⟨gs1,S1,fun b h=>?_⟩
    rcases h1 b h with z | z
    · rcases(ht b).mp z with y | y
      · exact .inr ((hg b).mpr (.inl y))
      · exact .inl y
    · exact .inr ((hg b).mpr (.inr z))
inductive FO where
 | ret (d:D) (ds:List D) | exc (c:Str) (ds:List D) | bad
variable(K mg)
def spF(n:Nat)(F:List D->FO):Sp:=fun vs H Q E=>vs.length=n /\ ∃P g ds,Sub P H/\OwnL K mg P H g ds vs/\match F ds with
 | .ret d ds'=>∀P' H' g' gd v,Go P H g P' H' (fun b=>g' b\/gd b)->Sub P' H'->OwnL K mg P' H' g' ds' vs->Own K mg P' H' gd d v->(∀b,g' b -> ¬gd b)->Q v H'
 | .exc c ds'=>∀P' H' g',Go P H g P' H' g'->Sub P' H'->OwnL K mg P' H' g' ds' vs -> ∀C,mg c=some (.ref C)->E (.ref C) none H'
 | .bad=>False
variable{K mg}
def Zaw(n:Nat)(F:List D->FO)(io:List (Option Nat))(fa:SA):SE:=fun σ=>(fa σ).bnd fun ds σ1=>if ds.length=n then(match F ds with
 | .ret d ds'=>(match wb io ds' σ1 with | some σ2=>.ok d σ2 | none=>.bad)
 | .exc c ds'=>(match wb io ds' σ1 with | some σ2=>.exc c σ2 | none=>.bad)
 | .bad=>.bad) else .bad
theorem ZnX{n:Nat}{F:List D->FO}{io:List (Option Nat)}{P H P1 H1:Hp}{gs gs1:Nat->Fp}{ν:St}{ds:List D}{vs:List V}{σ1:Env'}{g1:Fp}{Q:VK}(s1:Go P H (tot gs) P1 H1 (fun b=>tot gs1 b\/g1 b))(S1:StOk K mg fx P1 H1 gs1 σ1 ν)(o1:OwnL K mg P1 H1 g1 ds vs)(dj1:∀b,tot gs1 b -> ¬g1 b)(hio:IoOk io ν vs)
 (post:PostE K mg fx E P H gs ν Q (if ds.length=n then(match F ds with
   | .ret d ds'=>(match wb io ds' σ1 with | some σ2=>.ok d σ2 | none=>.bad)
   | .exc c ds'=>(match wb io ds' σ1 with | some σ2=>.exc c σ2 | none=>.bad)
   | .bad=>.bad) else .bad)):spF K mg n F vs H1 Q E:=by
 have hn:ds.length=n:=Decidable.byContradiction fun z=>by rw[if_neg z] at post;exact post
 rw[if_pos hn] at post
 refine⟨by rw[<- o1.len];exact hn,P1,g1,ds,S1.sub,o1,?_⟩
 cases eF:F ds with
 | bad=>rw[eF] at post;exact post
 | ret d ds'=>
  rw[eF] at post
  dsimp only at post ⊢
  intro P2 H2 g2 gd v s2 sb o2 od dj2
  have S2:=S1.go s2 sb fun b h z=>dj1 b h z
  have far:∀b,tot gs1 b -> ¬(g2 b\/gd b):=fun b h z=>by
   rcases s2.new b z with y | y
   · exact dj1 b h y
   · obtain⟨⟨o,e⟩,_⟩:=S1.here h
     rw[e] at y;cases y
  split at post
  · rename_i σ2 ew
    obtain⟨gs2,S3,h3⟩:=S2.wb ew o2 hio fun b h z=>far b h (.inl z)
    refine post P2 H2 gs2 gd v ⟨s1.mono.trans s2.mono,?_,?_,?_⟩ S3 od fun b h z=>?_
    · exact(s1.trans ((s2.wide (F:=tot gs1)))).frame
    · intro b h
      refine(s1.trans ((s2.wide (F:=tot gs1)))).new b ?_
      rcases h with h | h
      · exact(h3 b h).imp id fun y=>.inl y
      · exact .inr (.inr h)
    · exact(s1.trans ((s2.wide (F:=tot gs1)))).pnew
    · rcases h3 b h with y | y
      · exact far b y (.inr z)
      · exact dj2 b y z
  · exact post.elim
 | exc c ds'=>
  rw[eF] at post
  dsimp only at post ⊢
  intro P2 H2 g2 s2 sb o2 C hC
  have S2:=S1.go s2 sb fun b h z=>dj1 b h z
  have far:∀b,tot gs1 b -> ¬g2 b:=fun b h z=>by
   rcases s2.new b z with y | y
   · exact dj1 b h y
   · obtain⟨⟨o,e⟩,_⟩:=S1.here h
     rw[e] at y;cases y
  split at post
  · rename_i σ2 ew
    obtain⟨gs2,S3,h3⟩:=S2.wb ew o2 hio far
    refine post P2 H2 gs2 ?_ S3 C hC
    have z:=s1.trans ((s2.wide (F:=tot gs1)))
    exact⟨z.mono,z.frame,fun b h=>z.new b (h3 b h),z.pnew⟩
  · exact post.elim
theorem Zaq{n:Nat}{F:List D->FO}{io:List (Option Nat)}{ta:TA}{fa:SA}(ha:TLd K mg fx E io ta fa):TEd K mg fx E (ZjI (spF K mg n F) [] E ta) (Zaw n F io fa):=by
 intro P H gs σ ν Q S post
 unfold Zaw at post
 refine ha P H gs σ ν _ S ?_
 cases e:fa σ with
 | bad=>rw[e] at post;exact post
 | exc c σ'=>rw[e] at post;exact post
 | ok ds σ1=>
  rw[e] at post
  intro P1 H1 gs1 g1 vs s1 S1 o1 dj1 hio
  rw[List.append_nil]
  exact ZnX s1 S1 o1 dj1 hio post
end DL
set_option autoImplicit false
namespace DL
open PySem L2
variable{K:PySem.W.Frag}{mg:Str->Option Value}{fx:Nat->Option V}{E:XK}
inductive OutS where
 | next (σ:Env') | ret (d:D) (σ:Env') | brk (σ:Env') | cont (σ:Env') | exc (c:Str) (σ:Env') | bad
abbrev SS:=Env'->OutS
variable(K mg)
def PostS(fx:Nat->Option V)(E:XK)(P H:Hp)(gs:Nat->Fp)(N:Ends):OutS->Prop
 | .next σ'=>∀P' H' gs' ν',Go P H (tot gs) P' H' (tot gs')->StOk K mg fx P' H' gs' σ' ν'->N.nx ν' H'
 | .brk σ'=>∀P' H' gs' ν',Go P H (tot gs) P' H' (tot gs')->StOk K mg fx P' H' gs' σ' ν'->N.bk ν' H'
 | .cont σ'=>∀P' H' gs' ν',Go P H (tot gs) P' H' (tot gs')->StOk K mg fx P' H' gs' σ' ν'->N.ct ν' H'
 | .ret d σ'=>∀P' H' gs' g v ν',Go P H (tot gs) P' H' (fun b=>tot gs' b\/g b)->StOk K mg fx P' H' gs' σ' ν'->Own K mg P' H' g d v->(∀b,tot gs' b -> ¬g b)->N.rt v H'
 | .exc c σ'=>∀P' H' gs' ν',Go P H (tot gs) P' H' (tot gs')->StOk K mg fx P' H' gs' σ' ν' -> ∀C,mg c=some (.ref C)->E (.ref C) none H'
 | .bad=>False
def TSd(fx:Nat->Option V)(E:XK)(t:TS)(f:SS):Prop:=∀P H gs σ ν N,StOk K mg fx P H gs σ ν->PostS K mg fx E P H gs N (f σ)->t N ν H
variable{K mg}
theorem PostS.from{P H P1 H1:Hp}{gs gs1:Nat->Fp}{N:Ends}{o:OutS}(h:PostS K mg fx E P H gs N o)(s:Go P H (tot gs) P1 H1 (tot gs1)):PostS K mg fx E P1 H1 gs1 N o:=by
 cases o with
 | bad=>exact h
 | next σ'=>exact fun P' H' gs' ν' s'=>h P' H' gs' ν' (s.trans s')
 | brk σ'=>exact fun P' H' gs' ν' s'=>h P' H' gs' ν' (s.trans s')
 | cont σ'=>exact fun P' H' gs' ν' s'=>h P' H' gs' ν' (s.trans s')
 | exc c σ'=>exact fun P' H' gs' ν' s'=>h P' H' gs' ν' (s.trans s')
 | ret d σ'=>exact fun P' H' gs' g v ν' s'=>h P' H' gs' g v ν' (s.trans s')
theorem PostS.x{P H:Hp}{gs:Nat->Fp}{N:Ends}{c:Str}{σ':Env'}{ν:St}(h:PostS K mg fx E P H gs N (.exc c σ')):PostX K mg fx E P H gs ν c σ':=fun P' H' gs' s S=>h P' H' gs' ν s S
def ZaS:SS:=fun σ=>.next σ
def sSeq(f g:SS):SS:=fun σ=>match f σ with
 | .next σ1=>g σ1
 | o=>o
theorem ZaP:TSd K mg fx E Zo5 ZaS:=fun P H gs σ ν N S post=>post P H gs ν .refl S
theorem Zap{t u:TS}{f g:SS}(h:TSd K mg fx E t f)(h':TSd K mg fx E u g):TSd K mg fx E (tSeq t u) (sSeq f g):=by
 intro P H gs σ ν N S post
 unfold sSeq at post
 refine h P H gs σ ν _ S ?_
 cases e:f σ with
 | bad=>rw[e] at post;exact post
 | next σ1=>
  rw[e] at post
  exact fun P1 H1 gs1 ν1 s1 S1=>h' P1 H1 gs1 σ1 ν1 N S1 (PostS.from post s1)
 | brk σ1=>rw[e] at post;exact post
 | cont σ1=>rw[e] at post;exact post
 | exc c σ1=>rw[e] at post;exact post
 | ret d σ1=>rw[e] at post;exact post
def Out.th{α:Type}:Out α->(α->Env'->OutS)->OutS
 | .ok a σ,f=>f a σ
 | .exc c σ,_=>.exc c σ
 | .bad,_=>.bad
def Zcb(f:SE):SS:=fun σ=>(f σ).th fun _ σ1=>.next σ1
def sRet(f:SE):SS:=fun σ=>(f σ).th fun d σ1=>.ret d σ1
def ZqJ:SS:=fun σ=>.ret (.t .non) σ
def sIf(c:ST)(f g:SS):SS:=fun σ=>(c σ).th fun k σ1=>if k=true then f σ1 else g σ1
theorem Za5{t:TE}{f:SE}(h:TEd K mg fx E t f):TSd K mg fx E (Zlw t) (Zcb f):=by
 intro P H gs σ ν N S post
 unfold Zcb at post
 refine h P H gs σ ν _ S ?_
 cases e:f σ with
 | bad=>rw[e] at post;exact post
 | exc c σ1=>rw[e] at post;exact PostS.x post
 | ok d σ1=>
  rw[e] at post
  exact fun P1 H1 gs1 g v s1 S1 _ _=>post P1 H1 gs1 ν (s1.weak fun b h=>.inl h) S1
theorem ZaH{t:TE}{f:SE}(h:TEd K mg fx E t f):TSd K mg fx E (tRet t) (sRet f):=by
 intro P H gs σ ν N S post
 unfold sRet at post
 refine h P H gs σ ν _ S ?_
 cases e:f σ with
 | bad=>rw[e] at post;exact post
 | exc c σ1=>rw[e] at post;exact PostS.x post
 | ok d σ1=>
  rw[e] at post
  exact fun P1 H1 gs1 g v s1 S1 o dj=>post P1 H1 gs1 g v ν s1 S1 o dj
theorem Zb7{c:TT}{t u:TS}{sc:ST}{f g:SS}(hc:TTd K mg fx E c sc)(h:TSd K mg fx E t f)(h':TSd K mg fx E u g):TSd K mg fx E (tIfS c t u) (sIf sc f g):=by
 intro P H gs σ ν N S post
 unfold sIf at post
 refine hc.run (Q:=fun b H1=>if b=true then t N ν H1 else u N ν H1) S (fun c σ' e=>by rw[e] at post;exact PostS.x post) (fun e=>by rw[e] at post;exact post) fun k σ' e P1 H1 gs1 s1 S1=>?_
 rw[e] at post
 dsimp only[Out.th] at post
 cases k with
 | true=>exact h P1 H1 gs1 σ' ν N S1 (PostS.from post s1)
 | false=>exact h' P1 H1 gs1 σ' ν N S1 (PostS.from post s1)
variable(K mg)
def TGd(fx:Nat->Option V)(g:TG)(k:D->Env'->Option Env'):Prop:=∀P H gs σ ν gd d v (Q:St->Hp->Prop),StOk K mg fx P H gs σ ν->Own K mg P H gd d v->(∀b,tot gs b -> ¬gd b) ->
 (match k d σ with | some σ'=>∀gs' ν',(∀b,tot gs' b->tot gs b\/gd b)->StOk K mg fx P H gs' σ' ν'->Q ν' H | none=>False)->g v ν H Q
def TGsd(fx:Nat->Option V)(g:TGs)(k:List D->Env'->Option Env'):Prop:=∀P H gs σ ν gd ds vs (Q:St->Hp->Prop),StOk K mg fx P H gs σ ν->OwnL K mg P H gd ds vs->(∀b,tot gs b -> ¬gd b) ->
 (match k ds σ with | some σ'=>∀gs' ν',(∀b,tot gs' b->tot gs b\/gd b)->StOk K mg fx P H gs' σ' ν'->Q ν' H | none=>False)->g vs ν H Q
variable{K mg}
def Zag(i:Nat)(d:D)(σ:Env'):Option Env':=match σ[i]? with
 | some .e=>some (σ.set i (.v d))
 | some (.v _)=>some (σ.set i (.v d))
 | _=>none
theorem StOk.store{P H:Hp}{gs:Nat->Fp}{σ σ1:Env'}{ν:St}{i:Nat}{d:D}{g:Fp}{v:V}(S:StOk K mg fx P H gs σ ν)(e:Zag i d σ=some σ1)(o:Own K mg P H g d v)(dj:∀b,tot gs b -> ¬g b) :
 StOk K mg fx P H (fun j=>if j=i then g else gs j) σ1 (ν.set i (some v)) /\ ∀b,tot (fun j=>if j=i then g else gs j) b->tot gs b\/g b:=by
 have key:(σ[i]? = some .e \/ ∃d0,σ[i]? = some (.v d0))->StOk K mg fx P H (fun j=>if j=i then g else gs j) (σ.set i (.v d)) (ν.set i (some v)) /\ ∀b,tot (fun j=>if j=i then g else gs j) b->tot gs b\/g b:=by
  intro hσ
  have hi:i<σ.length:=by rcases hσ with h | ⟨_,h⟩<;>exact Zcn h
  have hi':i<ν.length:=S.len▸hi
  refine⟨⟨S.sub,by rw[List.length_set,List.length_set];exact S.len,fun j d' e'=>?_,fun j b e'=>?_,fun j k b hjk hj hk=>?_,fun j e'=>?_,fun j w h=>?_⟩,fun b ⟨j,h⟩=>?_⟩
  · by_cases hj:j=i
    · subst hj
      rw[List.getElem?_set_self hi] at e'
      cases(show some d=some d' from e')
      simp only[if_true]
      exact⟨v,List.getElem?_set_self hi',o⟩
    · rw[List.getElem?_set_ne (Ne.symm hj)] at e'
      simp only[hj,if_false]
      obtain⟨w,h1,h2⟩:=S.slot j d' e'
      exact⟨w,by rw[List.getElem?_set_ne (Ne.symm hj)];exact h1,h2⟩
  · by_cases hj:j=i
    · subst hj
      rw[List.getElem?_set_self hi] at e'
      cases(show some d=none from e')
    · rw[List.getElem?_set_ne (Ne.symm hj)] at e'
      simp only[hj,if_false]
      exact S.emp j b e'
  · by_cases hj':j=i
    · by_cases hk':k=i
      · exact hjk (hj'.trans hk'.symm)
      · simp only[hj',if_true] at hj
        simp only[hk',if_false] at hk
        exact dj b ⟨k,hk⟩ hj
    · simp only[hj',if_false] at hj
      by_cases hk':k=i
      · simp only[hk',if_true] at hk;exact dj b ⟨j,hj⟩ hk
      · simp only[hk',if_false] at hk;exact S.dis j k b hjk hj hk
  · by_cases hj:j=i
    · subst hj
      rw[List.getElem?_set_self hi] at e'
      rcases e' with e' | ⟨_,e'⟩<;>cases e'
    · rw[List.getElem?_set_ne (Ne.symm hj)] at e'
      obtain⟨w,h1,h2⟩:=S.fix j e'
      exact⟨w,h1,by rw[List.getElem?_set_ne (Ne.symm hj)];exact h2⟩
  · obtain⟨h1,h2⟩:=S.fixed j w h
    by_cases hj:j=i
    · subst hj
      rcases hσ with h | ⟨_,h⟩<;>rw[h] at h2<;>rcases h2 with h2 | ⟨_,h2⟩<;>cases h2
    · exact⟨by rw[List.getElem?_set_ne (Ne.symm hj)];exact h1,by rw[List.getElem?_set_ne (Ne.symm hj)];exact h2⟩
  · by_cases hj:j=i
    · simp only[hj,if_true] at h;exact .inr h
    · simp only[hj,if_false] at h;exact .inl ⟨j,h⟩
 unfold Zag at e
 split at e
 · rename_i q;cases e;exact key (.inl q)
 · rename_i d0 q;cases e;exact key (.inr ⟨d0,q⟩)
 · cases e
theorem Zah{i:Nat}:TGd K mg fx (ZgF i) (Zag i):=by
 intro P H gs σ ν gd d v Q S o dj post
 split at post
 · rename_i σ1 e
   obtain⟨S1,h⟩:=S.store e o dj
   exact post _ _ h S1
 · exact post.elim
def Zcc(ds:List D)(σ:Env'):Option Env':=match ds with
 | []=>some σ
 | _=>none
def Zay(k:D->Env'->Option Env')(r:List D->Env'->Option Env')(ds:List D)(σ:Env'):Option Env':=match ds with
 | d :: ds=>(k d σ).bind (r ds)
 | []=>none
theorem ZdW:TGsd K mg fx gNil Zcc:=by
 intro P H gs σ ν gd ds vs Q S o dj post
 unfold Zcc at post
 split at post
 · rename_i σ1 e
   split at e
   · cases e
     have:=o.len
     cases vs with
     | nil=>exact⟨rfl,post gs ν (fun b h=>.inl h) S⟩
     | cons v vs=>simp at this
   · cases e
 · exact post.elim
theorem ZaY{t:TG}{k:D->Env'->Option Env'}{u:TGs}{r:List D->Env'->Option Env'}(h:TGd K mg fx t k)(h':TGsd K mg fx u r):TGsd K mg fx (Zo6 t u) (Zay k r):=by
 intro P H gs σ ν gd ds vs Q S o dj post
 cases ds with
 | nil=>exact post.elim
 | cons d ds=>
  cases vs with
  | nil=>exact absurd o.len (by simp)
  | cons v vs=>
   obtain⟨g1,gr,o1,o2,d12,hg⟩:=o.uncons
   refine⟨v,vs,rfl,?_⟩
   refine h P H gs σ ν g1 d v _ S o1 (fun b y z=>dj b y ((hg b).mpr (.inl z))) ?_
   simp only[Zay] at post
   cases e:k d σ with
   | none=>rw[e] at post;exact post
   | some σ1=>
    rw[e] at post
    intro gs1 ν1 h1 S1
    refine h' P H gs1 σ1 ν1 gr ds vs Q S1 o2 (fun b y z=>?_) ?_
    · rcases h1 b y with w | w
      · exact dj b w ((hg b).mpr (.inr z))
      · exact d12 b w z
    · dsimp only[Option.bind] at post
      split at post
      · rename_i σ2 e2
        skip
        intro gs2 ν2 h2 S2
        refine post gs2 ν2 (fun b y=>?_) S2
        rcases h2 b y with w | w
        · rcases h1 b w with q | q
          · exact .inl q
          · exact .inr ((hg b).mpr (.inl q))
        · exact .inr ((hg b).mpr (.inr w))
      · exact post.elim
def ZfR:D->Option (List D)
 | .t (.lst ts)=>some (ts.map .t)
 | .lst ds=>some ds
 | _=>none
def Zbp:D->Option (List D)
 | .t (.tup ts)=>some (ts.map .t)
 | _=>none
theorem ZiD{P H:Hp}{ts:List T}{vs:List V}(hl:ts.length=vs.length)(h:∀(i:Nat) t v,ts[i]? = some t->vs[i]? = some v->Den K mg P t v):OwnL K mg P H (fun _=>False) (ts.map D.t) vs:=
 ⟨by rw[List.length_map];exact hl,fun _ _=>False,fun i d v e e'=>by
  rw[List.getElem?_map] at e
  cases q:ts[i]? with
  | none=>rw[q] at e;cases e
  | some t=>rw[q] at e;cases e;exact .t (h i t v q e') fun _ h=>h,fun _ _ _ _ h=>h.elim,fun _ _ _ h=>h,fun b=>⟨fun h=>h.elim,fun ⟨_,h⟩=>h⟩⟩
def kTup(parts:D->Option (List D))(n:Nat)(r:List D->Env'->Option Env')(d:D)(σ:Env'):Option Env':=match parts d with
 | some ds=>if ds.length=n then r ds σ else none
 | none=>none
theorem Zke{n:Nat}{t:TGs}{r:List D->Env'->Option Env'}(h:TGsd K mg fx t r):TGd K mg fx (ZnM K n t) (kTup ZfR n r):=by
 intro P H gs σ ν gd d v Q S o dj post
 unfold kTup at post
 cases d with
 | t x=>
  cases x with
  | lst ts=>
   cases o with
   | t hd hg=>
    cases hd with
    | @lst _ a vs h1 h2 h3=>
     simp only[ZfR] at post
     split at post
     · rename_i σ1 e
       split at e
       · rename_i hn
         rw[List.length_map] at hn
         refine⟨a,vs,rfl,.of (S.sub _ _ h1),by omega,?_⟩
         refine h P H gs σ ν (fun _=>False) _ vs Q S (ZiD h2 h3) (fun _ _ z=>z) ?_
         rw[e]
         exact fun gs' ν' hh S'=>post gs' ν' (fun b y=>(hh b y).imp id fun z=>z.elim) S'
       · cases e
     · exact post.elim
  | _=>exact post.elim
 | lst ds=>
  cases o with
  | @lst _ gg _ a vs h1 h2 h3 h4 h5 h6 h7 h8=>
   simp only[ZfR] at post
   split at post
   · rename_i σ1 e
     split at e
     · rename_i hn
       refine⟨a,vs,rfl,.of h1,by omega,?_⟩
       refine h P H gs σ ν (fun b=>∃i,gg i b) ds vs Q S ⟨h3,gg,h4,h6,h7,fun b=>Iff.rfl⟩ (fun b y z=>dj b y ((h8 b).mpr (.inr z))) ?_
       rw[e]
       exact fun gs' ν' hh S'=>post gs' ν' (fun b y=>(hh b y).imp id fun z=>(h8 b).mpr (.inr z)) S'
     · cases e
   · exact post.elim
 | _=>exact post.elim
theorem Zgv{n:Nat}{t:TGs}{r:List D->Env'->Option Env'}(h:TGsd K mg fx t r):TGd K mg fx (gTup K n t) (kTup Zbp n r):=by
 intro P H gs σ ν gd d v Q S o dj post
 unfold kTup at post
 cases d with
 | t x=>
  cases x with
  | tup ts=>
   cases o with
   | t hd hg=>
    cases hd with
    | @tup _ a vs h1 h2 h3=>
     simp only[Zbp] at post
     split at post
     · rename_i σ1 e
       split at e
       · rename_i hn
         rw[List.length_map] at hn
         refine⟨a,vs,rfl,.of (S.sub _ _ h1),by omega,?_⟩
         refine h P H gs σ ν (fun _=>False) _ vs Q S (ZiD h2 h3) (fun _ _ z=>z) ?_
         rw[e]
         exact fun gs' ν' hh S'=>post gs' ν' (fun b y=>(hh b y).imp id fun z=>z.elim) S'
       · cases e
     · exact post.elim
  | _=>exact post.elim
 | _=>exact post.elim
def sAsg(f:SE)(k:D->Env'->Option Env'):SS:=fun σ=>(f σ).th fun d σ1=>match k d σ1 with
 | some σ2=>.next σ2
 | none=>.bad
theorem ZaD{t:TE}{f:SE}{g:TG}{k:D->Env'->Option Env'}(h:TEd K mg fx E t f)(hg:TGd K mg fx g k):TSd K mg fx E (tAsg t g) (sAsg f k):=by
 intro P H gs σ ν N S post
 unfold sAsg at post
 refine h P H gs σ ν _ S ?_
 cases e:f σ with
 | bad=>rw[e] at post;exact post
 | exc c σ1=>rw[e] at post;exact PostS.x post
 | ok d σ1=>
  rw[e] at post
  dsimp only[Out.th] at post
  intro P1 H1 gs1 g1 v s1 S1 o dj
  refine hg P1 H1 gs1 σ1 ν g1 d v _ S1 o dj ?_
  split at post
  · rename_i σ2 e2
    skip
    exact fun gs2 ν2 h2 S2=>post P1 H1 gs2 ν2 (s1.weak h2) S2
  · exact post.elim
variable(K mg)
def ItD(P:Hp)(J:It)(ts:List T):Prop:=∀P' H',Sub P P'->Sub P' H' ->
 (∀(i:Nat) t,ts[i]? = some t->J.go i H' /\ ∀x H2,J.yld i H' x H2 -> ∃P2,Go P' H' (fun _=>False) P2 H2 (fun _=>False)/\Sub P2 H2/\Den K mg P2 t x)/\J.stop ts.length H'
abbrev SI:=Env'->Out (List T)
def ZqK(fx:Nat->Option V)(E:XK)(P H:Hp)(gs:Nat->Fp)(ν:St)(R:It->Hp->Prop):Out (List T)->Prop
 | .ok ts σ'=>∀P' H' gs' J,Go P H (tot gs) P' H' (tot gs')->StOk K mg fx P' H' gs' σ' ν->ItD K mg P' J ts->R J H'
 | .exc c σ'=>PostX K mg fx E P H gs ν c σ'
 | .bad=>False
def TId(fx:Nat->Option V)(E:XK)(w:TI)(f:SI):Prop:=∀P H gs σ ν R,StOk K mg fx P H gs σ ν->ZqK K mg fx E P H gs ν R (f σ)->w ν H R
variable{K mg}
def forS(k:D->Env'->Option Env')(body:SS):List T->Env'->OutS
 | [],σ=>.next σ
 | t :: ts,σ=>match k (.t t) σ with
  | some σ1=>(match body σ1 with
   | .next σ2=>forS k body ts σ2
   | .cont σ2=>forS k body ts σ2
   | .brk σ2=>.next σ2
   | o=>o)
  | none=>.bad
def sFor(fi:SI)(k:D->Env'->Option Env')(body:SS):SS:=fun σ=>(fi σ).th fun ts σ1=>forS k body ts σ1
theorem Zcp{w:TI}{fi:SI}{g:TG}{k:D->Env'->Option Env'}{tb:TS}{body:SS}(hi:TId K mg fx E w fi)(hg:TGd K mg fx g k)(hb:TSd K mg fx E tb body):TSd K mg fx E (tFor w g tb) (sFor fi k body):=by
 intro P H gs σ ν N S post
 unfold sFor at post
 refine hi P H gs σ ν _ S ?_
 cases e:fi σ with
 | bad=>rw[e] at post;exact post
 | exc c σ1=>rw[e] at post;exact PostS.x post
 | ok ts σ1=>
  rw[e] at post
  dsimp only[Out.th] at post
  intro P1 H1 gs1 J s1 S1 hJ
  have post1:=PostS.from post s1
  refine⟨fun i m ν' H'=>m=ts.length - i/\i<=ts.length /\ ∃P' gs' σ',Go P1 H1 (tot gs1) P' H' (tot gs')/\StOk K mg fx P' H' gs' σ' ν'/\PostS K mg fx E P' H' gs' N (forS k body (ts.drop i) σ'),⟨ts.length,by simp,Nat.zero_le _,P1,gs1,σ1,.refl,S1,post1⟩,?_⟩
  rintro i m ν' H' ⟨rfl,hle,P',gs',σ',s',S',p'⟩
  obtain⟨hgo,hstop⟩:=hJ P' H' s'.mono S'.sub
  by_cases hlt:i<ts.length
  · obtain⟨t,ht⟩:=Zdk hlt
    have hd:ts.drop i=t :: ts.drop (i+1):=by
     rw[List.drop_eq_getElem_cons hlt]
     rw[List.getElem?_eq_getElem hlt] at ht
     rw[Option.some.inj ht]
    rw[hd] at p'
    obtain⟨go,yld⟩:=hgo i t ht
    refine .inr ⟨go,fun ν2 H2=>ts.length - (i+1)=ts.length - (i+1)/\i+1<=ts.length /\ ∃P' gs' σ',Go P1 H1 (tot gs1) P' H2 (tot gs')/\StOk K mg fx P' H2 gs' σ' ν2/\PostS K mg fx E P' H2 gs' N (forS k body (ts.drop (i+1)) σ'),fun ν2 H2 h=>⟨_,by omega,h⟩,fun x H2 y=>?_⟩
    obtain⟨P2,s2,sb2,hx⟩:=yld x H2 y
    have S2:=S'.go s2 sb2 fun _ _ z=>z
    have s2':Go P' H' (tot gs') P2 H2 (tot gs'):=(s2.alloc (F:=tot gs')).weak fun b h=>.inl h
    refine hg P2 H2 gs' σ' ν' (fun _=>False) (.t t) x _ S2 (.t hx fun _ h=>h) (fun _ _ z=>z) ?_
    simp only[forS] at p'
    split at p'
    · rename_i σ3 e3
      skip
      intro gs3 ν3 h3 S3
      have s3:Go P' H' (tot gs') P2 H2 (tot gs3):=s2'.weak fun b h=>(h3 b h).elim id fun z=>z.elim
      refine hb P2 H2 gs3 σ3 ν3 _ S3 ?_
      cases eb:body σ3 with
      | bad=>rw[eb] at p';exact p'
      | next σ4=>
       rw[eb] at p'
       exact fun P4 H4 gs4 ν4 s4 S4=>⟨rfl,hlt,P4,gs4,σ4,s'.trans (s3.trans s4),S4,PostS.from p' (s3.trans s4)⟩
      | cont σ4=>
       rw[eb] at p'
       exact fun P4 H4 gs4 ν4 s4 S4=>⟨rfl,hlt,P4,gs4,σ4,s'.trans (s3.trans s4),S4,PostS.from p' (s3.trans s4)⟩
      | brk σ4=>
       rw[eb] at p'
       exact fun P4 H4 gs4 ν4 s4 S4=>p' P4 H4 gs4 ν4 (s3.trans s4) S4
      | ret d σ4=>
       rw[eb] at p'
       exact fun P4 H4 gs4 g4 v4 ν4 s4 S4=>p' P4 H4 gs4 g4 v4 ν4 (s3.trans s4) S4
      | exc c σ4=>
       rw[eb] at p'
       exact fun P4 H4 gs4 ν4 s4 S4=>p' P4 H4 gs4 ν4 (s3.trans s4) S4
    · exact p'.elim
  · have ei:i=ts.length:=by omega
    subst ei
    rw[List.drop_length] at p'
    exact .inl ⟨hstop,p' P' H' gs' ν' .refl S'⟩
end DL
set_option autoImplicit false
namespace DL
open PySem L2
variable{K:PySem.W.Frag}{mg:Str->Option Value}{fx:Nat->Option V}{E:XK}
def isT:D->Bool
 | .t _=>true
 | _=>false
def Zh9:D->Sl
 | .t x=>.v (.t x)
 | d=>.x d
theorem Zkf(d:D):(Zh9 d).get=some d:=by cases d<;>rfl
def Zbx(n:Nat)(ds:List D):Env':=ds.map Zh9++List.replicate (n - ds.length) .e
def outA:List D->Env'->Option (List D)
 | [],_=>some []
 | .t x :: ds,_ :: σ=>(outA ds σ).map (.t x :: ·)
 | _ :: ds,.x d :: σ=>(outA ds σ).map (d :: ·)
 | _,_=>none
theorem Zkg:∀{ds:List D}{σ:Env'}{ds':List D},outA ds σ=some ds'->ds'.length=ds.length /\ ∀(i:Nat) d,ds[i]? = some d -> ∃d',ds'[i]? = some d'/\(isT d=true/\d'=d\/isT d=false/\σ[i]? = some (.x d'))
 | [],σ,ds',e=>by
  simp only[outA] at e
  cases e
  exact⟨rfl,fun i d h=>by simp at h⟩
 | d0 :: ds,[],ds',e=>by cases d0<;>simp[outA] at e
 | d0 :: ds,s :: σ,ds',e=>by
  have step:∀d1,(outA ds σ).map (d1 :: ·)=some ds'->(isT d0=true/\d1=d0\/isT d0=false/\s=.x d1)->ds'.length=(d0 :: ds).length /\ ∀(i:Nat) d,(d0 :: ds)[i]? = some d -> ∃d',ds'[i]? = some d'/\(isT d=true/\d'=d\/isT d=false/\(s :: σ)[i]? = some (.x d')):=by
   intro d1 e h
   cases q:outA ds σ with
   | none=>rw[q] at e;cases e
   | some r=>
    rw[q] at e
    cases e
    obtain⟨l,k⟩:=Zkg q
    refine⟨by simp[l],fun i d hd=>?_⟩
    cases i with
    | zero=>
     simp at hd
     subst hd
     exact⟨d1,rfl,h.imp id fun z=>⟨z.1,by rw[z.2];rfl⟩⟩
    | succ i=>
     obtain⟨d',h1,h2⟩:=k i d (by simpa using hd)
     exact⟨d',by simpa using h1,h2.imp id fun z=>⟨z.1,by simpa using z.2⟩⟩
  cases d0 with
  | t x=>exact step (.t x) (by simpa only[outA] using e) (.inl ⟨rfl,rfl⟩)
  | lst l=>cases s with
   | x d=>exact step d (by simpa only[outA] using e) (.inr ⟨rfl,rfl⟩)
   | _=>simp[outA] at e
  | dct l=>cases s with
   | x d=>exact step d (by simpa only[outA] using e) (.inr ⟨rfl,rfl⟩)
   | _=>simp[outA] at e
  | obj c l=>cases s with
   | x d=>exact step d (by simpa only[outA] using e) (.inr ⟨rfl,rfl⟩)
   | _=>simp[outA] at e
def FO.of(o:Option FO):FO:=o.getD .bad
def runF(n:Nat)(body:SS)(ds:List D):FO:=match body (Zbx n ds) with
 | .next σ=>.of ((outA ds σ).map (.ret (.t .non)))
 | .ret d σ=>.of ((outA ds σ).map (.ret d))
 | .exc c σ=>.of ((outA ds σ).map (.exc c))
 | _=>.bad
theorem StOk.args{P H P' H':Hp}{g:Fp}{ds ds':List D}{vs:List V}{σ':Env'}{ν':St}{gs':Nat->Fp}(own:OwnL K mg P H g ds vs)(mono:Sub P P')
 (S:StOk K mg (fun i=>match ds[i]? with | some d=>if isT d=true then none else vs[i]? | none=>none) P' H' gs' σ' ν') (e:outA ds σ'=some ds') :
 OwnL K mg P' H' (fun b=>∃i,(match ds[i]? with | some d=>isT d=false | none=>False)/\gs' i b) ds' vs:=by
 obtain⟨hl,gs,h1,h2,h3,h4⟩:=own
 obtain⟨l,k⟩:=Zkg e
 refine⟨by rw[l];exact hl,fun i b=>(match ds[i]? with | some d=>isT d=false | none=>False)/\gs' i b,fun i d' v hd hv=>?_,fun i j b hij hi hj=>S.dis i j b hij hi.2 hj.2,fun i b hle hi=>?_,fun b=>Iff.rfl⟩
 · have hi:i<ds.length:=by have:=Zcn hd;omega
   obtain⟨d,hd0⟩:=Zdk hi
   obtain⟨d2,q1,q2⟩:=k i d hd0
   rw[hd] at q1
   cases q1
   rcases q2 with⟨t1,t2⟩ | ⟨t1,t2⟩
   · subst t2
     cases d' with
     | t x=>
      have o:=h1 i _ v hd0 hv
      cases o with
      | t hx _=>
       refine .t (hx.mono mono) fun b z=>?_
       dsimp only at z
       rw[hd0] at z
       exact absurd z.1 (by simp[isT])
     | _=>cases t1
   · obtain⟨w,f1,f2⟩:=S.fix i (.inr ⟨d',t2⟩)
     rw[hd0] at f1
     dsimp only at f1
     rw[if_neg (by rw[t1];exact Bool.false_ne_true),hv] at f1
     cases f1
     obtain⟨v2,g1,g2⟩:=S.slot i d' (by rw[t2];rfl)
     rw[f2] at g1
     cases g1
     have eg:(fun b=>(match ds[i]? with | some d=>isT d=false | none=>False)/\gs' i b)=gs' i:=by
      funext b
      rw[hd0]
      exact propext ⟨fun z=>z.2,fun z=>⟨t1,z⟩⟩
     show Own K mg P' H' (fun b=>(match ds[i]? with | some d=>isT d=false | none=>False)/\gs' i b) d' v
     rw[eg]
     exact g2
 · have:ds[i]? = none:=List.getElem?_eq_none (by omega)
   dsimp only at hi
   rw[this] at hi
   exact hi.1
theorem ZmJ{t:TS}{body:SS}{N:List Str}{n:Nat}{F:List D->FO}{vs:List V}{H:Hp}{Q:VK}(hF:∀ds,F ds=.bad\/F ds=runF N.length body ds)(h:∀fx,TSd K mg fx E t body)(hn:n<=N.length)(hsp:spF K mg n F vs H Q E) :
 t { nx:=fun _ H'=>Q .non H',rt:=Q } (L2.start N vs) H:=by
 obtain⟨hvs,P,g,ds,sub,own,post⟩:=hsp
 have own':=own
 obtain⟨hl,gs,h1,h2,h3,h4⟩:=own
 have Sget:∀(i:Nat),((Zbx N.length ds)[i]?).bind Sl.get=ds[i]?:=fun i=>by
  unfold Zbx
  by_cases hi:i<ds.length
  · rw[List.getElem?_append_left (by simpa using hi),List.getElem?_map]
    obtain⟨d,e⟩:=Zdk hi
    rw[e]
    exact Zkf d
  · rw[List.getElem?_append_right (by simpa using hi),List.getElem?_replicate,List.getElem?_eq_none (by omega)]
    split<;>rfl
 have Sx:∀(i:Nat),((Zbx N.length ds)[i]? = some .h \/ ∃d,(Zbx N.length ds)[i]? = some (.x d)) -> ∃d,ds[i]? = some d/\isT d=false/\(Zbx N.length ds)[i]? = some (.x d):=fun i hx=>by
  unfold Zbx at hx ⊢
  by_cases hi:i<ds.length
  · rw[List.getElem?_append_left (by simpa using hi),List.getElem?_map] at hx ⊢
    obtain⟨d,e⟩:=Zdk hi
    rw[e] at hx ⊢
    cases d with
    | t x=>rcases hx with hx | ⟨_,hx⟩<;>cases hx
    | lst l=>exact⟨_,rfl,rfl,rfl⟩
    | dct l=>exact⟨_,rfl,rfl,rfl⟩
    | obj c l=>exact⟨_,rfl,rfl,rfl⟩
  · rw[List.getElem?_append_right (by simpa using hi),List.getElem?_replicate] at hx
    split at hx<;>rcases hx with hx | ⟨_,hx⟩<;>cases hx
 have Vget:∀(i:Nat),i<vs.length->(L2.start N vs)[i]? = (vs[i]?).map some:=fun i hi=>by
  unfold L2.start
  rw[List.getElem?_append_left (by simpa using hi),List.getElem?_map]
 have S:StOk K mg (fun i=>match ds[i]? with | some d=>if isT d=true then none else vs[i]? | none=>none) P H gs (Zbx N.length ds) (L2.start N vs):=by
  refine⟨sub,?_,fun i d e=>?_,fun i b e hb=>?_,h2,fun i hx=>?_,fun i v hv=>?_⟩
  · unfold Zbx L2.start
    rw[List.length_append,List.length_map,List.length_replicate,List.length_append,List.length_map,List.length_replicate,hl]
  · rw[Sget] at e
    have hi:i<vs.length:=by have:=Zcn e;omega
    obtain⟨v,hv⟩:=Zdk hi
    exact⟨v,by rw[Vget i hi,hv];rfl,h1 i d v e hv⟩
  · rw[Sget] at e
    exact h3 i b (List.getElem?_eq_none_iff.mp e) hb
  · obtain⟨d,e1,e2,e3⟩:=Sx i hx
    have hi:i<vs.length:=by have:=Zcn e1;omega
    obtain⟨v,hv⟩:=Zdk hi
    exact⟨v,by rw[e1];dsimp only;rw[if_neg (by rw[e2];exact Bool.false_ne_true)];exact hv,by rw[Vget i hi,hv];rfl⟩
  · cases e:ds[i]? with
    | none=>rw[e] at hv;cases hv
    | some d=>
     rw[e] at hv
     dsimp only at hv
     by_cases ht:isT d=true
     · rw[if_pos ht] at hv;cases hv
     · rw[if_neg ht] at hv
       refine⟨by rw[Vget i (Zcn hv),hv];rfl,.inr ⟨d,?_⟩⟩
       unfold Zbx
       rw[List.getElem?_append_left (by simpa using Zcn e),List.getElem?_map,e]
       cases d with
       | t x=>exact absurd rfl ht
       | _=>rfl
 refine h _ P H gs _ _ _ S ?_
 rcases hF ds with hb | hb
 · rw[hb] at post;exact post.elim
 rw[hb] at post
 unfold runF at post
 have tg:∀b,tot gs b->g b:=fun b z=>(h4 b).mpr z
 have gt:∀b,g b->tot gs b:=fun b z=>(h4 b).mp z
 have sub2:∀{gs':Nat->Fp}{b:Addr},(∃i,(match ds[i]? with | some d=>isT d=false | none=>False)/\gs' i b)->tot gs' b:=fun ⟨i,z⟩=>⟨i,z.2⟩
 cases eb:body (Zbx N.length ds) with
 | bad=>rw[eb] at post;exact post
 | brk σ'=>rw[eb] at post;exact post.elim
 | cont σ'=>rw[eb] at post;exact post.elim
 | next σ'=>
  rw[eb] at post
  dsimp only at post
  intro P' H' gs' ν' s S'
  cases eo:outA ds σ' with
  | none=>rw[eo] at post;exact post.elim
  | some ds'=>
   rw[eo] at post
   exact post P' H' _ (fun _=>False) .non ⟨s.mono,fun b o n z=>s.frame b o (fun y=>n (tg b y)) z,fun b z=>(s.new b (z.elim sub2 fun y=>y.elim)).imp (tg b) id,fun b o z=>(s.pnew b o z).imp id fun y=>y.imp (tg b) id⟩ S'.sub (StOk.args own' s.mono S' eo) (.t .non fun _ h=>h) fun _ _ h=>h
 | ret d σ'=>
  rw[eb] at post
  dsimp only at post
  intro P' H' gs' gd v ν' s S' od dj
  cases eo:outA ds σ' with
  | none=>rw[eo] at post;exact post.elim
  | some ds'=>
   rw[eo] at post
   exact post P' H' _ gd v ⟨s.mono,fun b o n z=>s.frame b o (fun y=>n (tg b y)) z,fun b z=>(s.new b (z.imp sub2 id)).imp (tg b) id,fun b o z=>(s.pnew b o z).imp id fun y=>y.imp (tg b) id⟩ S'.sub (StOk.args own' s.mono S' eo) od fun b z y=>dj b (sub2 z) y
 | exc c σ'=>
  rw[eb] at post
  dsimp only at post
  intro P' H' gs' ν' s S' C hC
  cases eo:outA ds σ' with
  | none=>rw[eo] at post;exact post.elim
  | some ds'=>
   rw[eo] at post
   exact post P' H' _ ⟨s.mono,fun b o n z=>s.frame b o (fun y=>n (tg b y)) z,fun b z=>(s.new b (sub2 z)).imp (tg b) id,fun b o z=>(s.pnew b o z).imp id fun y=>y.imp (tg b) id⟩ S'.sub (StOk.args own' s.mono S' eo) C hC
end DL
set_option autoImplicit false
namespace DL
open PySem L2
variable{K:PySem.W.Frag}{mg:Str->Option Value}{fx:Nat->Option V}{E:XK}
theorem Sub.fresh{P H:Hp}(s:Sub P H){l:Addr}(h:H l=none):P l=none:=by
 cases q:P l with
 | none=>rfl
 | some o=>rw[s l o q] at h;cases h
theorem ZmK{P H:Hp}{g:Fp}{ds:List D}{vs:List V}{l:Addr}(s:Sub P H)(o:OwnL K mg P H g ds vs)(hl:H l=none):Own K mg P (upd H l (.lst vs)) (fun b=>b=l\/g b) (.lst ds) (.ref l)/\Sub P (upd H l (.lst vs)) /\ ¬g l:=by
 have hP:=s.fresh hl
 have ng:¬g l:=fun z=>by
  obtain⟨⟨w,e⟩,_⟩:=o.at l z
  rw[hl] at e;cases e
 obtain⟨hn,gs,h1,h2,h3,h4⟩:=o
 refine⟨.lst (gs:=gs) ZaA hP hn (fun i d v e e'=>?_) (fun i z=>ng ((h4 l).mpr ⟨i,z⟩)) h2 h3 fun b=>by rw[h4 b],fun b w e=>by rw[Zan (Zak e hP)];exact s b w e,ng⟩
 have q:=h1 i d v e e'
 exact q.frame (.refl _) (fun b w _ z=>by rw[Zan (Zak z hl)];exact z) fun b z=>(q.at b z).2
def eLst(fa:SA):SE:=fun σ=>(fa σ).bnd fun ds σ1=>if ds.length<=1000 then .ok (.lst ds) σ1 else .bad
theorem Zbq{ta:TA}{fa:SA}{io:List (Option Nat)}(ha:TLd K mg fx E io ta fa):TEd K mg fx E (tLst ta) (eLst fa):=by
 intro P H gs σ ν Q S post
 unfold eLst at post
 refine ha P H gs σ ν _ S ?_
 cases e:fa σ with
 | bad=>rw[e] at post;exact post
 | exc c σ1=>rw[e] at post;exact post
 | ok ds σ1=>
  rw[e] at post
  dsimp only[Out.bnd] at post
  intro P1 H1 gs1 g1 vs s1 S1 o1 dj1 _
  have hn:ds.length<=1000:=Decidable.byContradiction fun z=>by rw[if_neg z] at post;exact post
  rw[if_pos hn] at post
  refine⟨by rw[<- o1.len];exact Nat.le_of_lt (Zhp hn),fun p hp=>?_⟩
  obtain⟨ol,sb,ng⟩:=ZmK S1.sub o1 hp
  refine post P1 (upd H1 p (.lst vs)) gs1 _ (.ref p) ⟨s1.mono,fun b w n z=>by rw[Zan (Zak (s1.frame b w n z) hp)];exact s1.frame b w n z,fun b z=>?_,s1.pnew⟩ ?_ ol fun b z y=>?_
  · rcases z with z | z | z
    · exact s1.new b (.inl z)
    · rw[z]
      by_cases q:tot gs p
      · exact .inl q
      · cases w:H p with
        | none=>exact .inr rfl
        | some o=>rw[s1.frame p o q w] at hp;cases hp
    · exact s1.new b (.inr z)
  · exact⟨sb,S1.len,fun i d e=>by
     obtain⟨v,q1,q2⟩:=S1.slot i d e
     exact⟨v,q1,q2.frame (.refl _) (fun b w _ z=>by rw[Zan (Zak z hp)];exact z) fun b z=>(q2.at b z).2⟩,S1.emp,S1.dis,S1.fix,S1.fixed⟩
  · rcases y with y | y
    · obtain⟨⟨o,w⟩,_⟩:=S1.here z
      rw[y,hp] at w;cases w
    · exact dj1 b z y
theorem OwnL.den{P H P':Hp}{g:Fp}{ds:List D}{vs:List V}(o:OwnL K mg P H g ds vs)(sP:Sub P P')(hg:∀b w,g b->H b=some w->P' b=some w):∀(i:Nat) t v,(ds.map frz)[i]? = some t->vs[i]? = some v->Den K mg P' t v:=fun i t v e e'=>by
 obtain⟨hn,gs,h1,h2,h3,h4⟩:=o
 rw[List.getElem?_map] at e
 cases q:ds[i]? with
 | none=>rw[q] at e;cases e
 | some d=>
  rw[q] at e
  cases e
  exact(h1 i d v q e').den sP fun b w z=>hg b w ((h4 b).mpr ⟨i,z⟩)
def eTup(fa:SA):SE:=fun σ=>(fa σ).bnd fun ds σ1=>if ds.length<=1000 then .ok (.t (.tup (ds.map frz))) σ1 else .bad
theorem ZiE{ta:TA}{fa:SA}{io:List (Option Nat)}(ha:TLd K mg fx E io ta fa):TEd K mg fx E (tTup ta) (eTup fa):=by
 intro P H gs σ ν Q S post
 unfold eTup at post
 refine ha P H gs σ ν _ S ?_
 cases e:fa σ with
 | bad=>rw[e] at post;exact post
 | exc c σ1=>rw[e] at post;exact post
 | ok ds σ1=>
  rw[e] at post
  dsimp only[Out.bnd] at post
  intro P1 H1 gs1 g1 vs s1 S1 o1 dj1 _
  have hn:ds.length<=1000:=Decidable.byContradiction fun z=>by rw[if_neg z] at post;exact post
  rw[if_pos hn] at post
  refine⟨by rw[<- o1.len];exact Nat.le_of_lt (Zhp hn),fun p hp=>?_⟩
  have hg:∀b,g1 b->P1 b=none:=fun b z=>(o1.at b z).2
  have fp:froz P1 H1 g1 p=none:=(ZeE S1.sub).fresh hp
  have u1:Sub (froz P1 H1 g1) (upd (froz P1 H1 g1) p (.tup vs)):=fun b w z=>by rw[Zan (Zak z fp)];exact z
  have u2:Sub (upd (froz P1 H1 g1) p (.tup vs)) (upd H1 p (.tup vs)):=fun b w z=>by
   by_cases q:b=p
   · subst q;rw[ZaA] at z ⊢;exact z
   · rw[Zan q] at z ⊢;exact ZeE S1.sub b w z
  refine okT (P1:=upd (froz P1 H1 g1) p (.tup vs)) (H1:=upd H1 p (.tup vs)) (gs1:=gs1) post ⟨(s1.mono.trans (ZcF hg)).trans u1,fun b w n z=>by rw[Zan (Zak (s1.frame b w n z) hp)];exact s1.frame b w n z,fun b z=>s1.new b (.inl z),fun b w z=>?_⟩
   ⟨u2,S1.len,fun i d e=>?_,S1.emp,S1.dis,S1.fix,S1.fixed⟩ (.tup ZaA (by rw[List.length_map];exact o1.len) (o1.den ((ZcF hg).trans u1) fun b w z q=>u1 b w (by rw[Zes z];exact q)))
  · by_cases q:b=p
    · rw[q]
      by_cases q2:tot gs p
      · exact .inr (.inl q2)
      · cases w2:H p with
        | none=>exact .inr (.inr rfl)
        | some o=>rw[s1.frame p o q2 w2] at hp;cases hp
    · rw[Zan q] at z
      by_cases q3:g1 b
      · exact(s1.new b (.inr q3)).elim (fun y=>.inr (.inl y)) fun y=>.inr (.inr y)
      · rw[Zc9 q3] at z;exact s1.pnew b w z
  · obtain⟨v,q1,q2⟩:=S1.slot i d e
    refine⟨v,q1,q2.frame ((ZcF hg).trans u1) (fun b w _ z=>by rw[Zan (Zak z hp)];exact z) fun b z=>?_⟩
    obtain⟨⟨o,w⟩,w2⟩:=q2.at b z
    rw[Zan (Zak w hp),Zc9 (dj1 b ⟨i,z⟩)]
    exact w2
theorem StOk.freeze{P H:Hp}{gs:Nat->Fp}{σ:Env'}{ν:St}{i:Nat}{d:D}(S:StOk K mg fx P H gs σ ν)(e:σ[i]? = some (.v d)) :
 ∃P' gs',Go P H (tot gs) P' H (tot gs')/\StOk K mg fx P' H gs' (σ.set i (.v (.t (frz d)))) ν:=by
 obtain⟨v,hv,o⟩:=S.slot i d (by rw[e];rfl)
 have hg:∀b,gs i b->P b=none:=fun b h=>(o.at b h).2
 have hi:=Zcn e
 have S0:=S.lend (i:=i) (d:=d) (σ1:=σ.set i .e) (by unfold DL.lend;rw[e])
 obtain⟨v',hv',o',S1,dj,ht⟩:=S0
 obtain⟨P',s',S',dn⟩:=S1.temp o' dj
 have ep:DL.put i (.t (frz d)) (σ.set i .e)=some ((σ.set i .e).set i (.v (.t (frz d)))):=by unfold DL.put;rw[List.getElem?_set_self hi]
 obtain⟨S2,h2⟩:=S'.put (g:=fun _=>False) ep hv' (.t dn fun _ h=>h) fun _ _ h=>h
 rw[List.set_set] at S2
 refine⟨P',_,⟨s'.mono,fun b w n z=>z,fun b z=>?_,fun b w z=>?_⟩,S2⟩
 · rcases(h2 b).mp z with y | y
   · exact y.elim
   · exact .inl ((ht b).mpr (.inr y))
 · rcases s'.pnew b w z with y | (y | y) | y
   · exact .inl y
   · exact .inr (.inl ((ht b).mpr (.inr y)))
   · exact .inr (.inl ((ht b).mpr (.inl y)))
   · exact .inr (.inr y)
def ZaC:List (Option Nat)->Env'->Option Env'
 | [],σ=>some σ
 | none :: r,σ=>ZaC r σ
 | some i :: r,σ=>match σ[i]? with
  | some (.v d)=>ZaC r (σ.set i (.v (.t (frz d))))
  | _=>none
theorem StOk.freezes{H:Hp}{ν:St}:∀{caps:List (Option Nat)}{P:Hp}{gs:Nat->Fp}{σ σ':Env'},StOk K mg fx P H gs σ ν->ZaC caps σ=some σ' -> ∃P' gs',Go P H (tot gs) P' H (tot gs')/\StOk K mg fx P' H gs' σ' ν
 | [],P,gs,σ,σ',S,e=>by
  simp only[ZaC] at e
  cases e
  exact⟨P,gs,.refl,S⟩
 | none :: r,P,gs,σ,σ',S,e=>StOk.freezes (caps:=r) S (by simpa only[ZaC] using e)
 | some i :: r,P,gs,σ,σ',S,e=>by
  simp only[ZaC] at e
  split at e
  · rename_i d q
    obtain⟨P1,gs1,s1,S1⟩:=S.freeze q
    obtain⟨P2,gs2,s2,S2⟩:=StOk.freezes (caps:=r) S1 e
    exact⟨P2,gs2,s1.trans s2,S2⟩
  · cases e
def capE(σ:Env'):List (Option Nat)->Option Env'
 | []=>some []
 | none :: r=>(capE σ r).map (.e :: ·)
 | some j :: r=>match σ[j]? with
  | some (.v (.t x))=>(capE σ r).map (.v (.t x) :: ·)
  | _=>none
theorem StOk.capt{P H:Hp}{gs:Nat->Fp}{σ:Env'}{ν:St}(S:StOk K mg fx P H gs σ ν):∀{caps:List (Option Nat)}{σi:Env'},capE σ caps=some σi ->
 σi.length=(capt ν caps).length/\(∀(i:Nat) d,(σi[i]?).bind Sl.get=some d -> ∃v,(capt ν caps)[i]? = some (some v)/\Own K mg P H (fun _=>False) d v)/\(∀i:Nat,σi[i]? = some .h\/(∃d,σi[i]? = some (.x d))->False)
 | [],σi,e=>by
  simp only[capE] at e
  cases e
  exact⟨rfl,fun i d h=>by simp at h,fun i h=>by simp at h⟩
 | none :: r,σi,e=>by
  simp only[capE] at e
  cases q:capE σ r with
  | none=>rw[q] at e;cases e
  | some σr=>
   rw[q] at e
   cases e
   obtain⟨a,b,c⟩:=StOk.capt S q
   refine⟨by simpa[L2.capt] using a,fun i d h=>?_,fun i h=>?_⟩
   · cases i with
     | zero=>cases(show(none:Option D)=some d from h)
     | succ i=>exact b i d (by simpa using h)
   · cases i with
     | zero=>rcases h with h | ⟨_,h⟩<;>cases h
     | succ i=>exact c i (by simpa using h)
 | some j :: r,σi,e=>by
  simp only[capE] at e
  split at e
  · rename_i x hx
    cases q:capE σ r with
    | none=>rw[q] at e;cases e
    | some σr=>
     rw[q] at e
     cases e
     obtain⟨a,b,c⟩:=StOk.capt S q
     obtain⟨v,hv,o⟩:=S.slot j (.t x) (by rw[hx];rfl)
     refine⟨by simpa[L2.capt] using a,fun i d h=>?_,fun i h=>?_⟩
     · cases i with
       | zero=>
        cases(show some (D.t x)=some d from h)
        refine⟨v,by simp[L2.capt,hv],?_⟩
        cases o with
        | t h1 _=>exact .t h1 fun _ h=>h
       | succ i=>exact b i d (by simpa using h)
     · cases i with
       | zero=>rcases h with h | ⟨_,h⟩<;>cases h
       | succ i=>exact c i (by simpa using h)
  · cases e
theorem StOk.block{P H:Hp}{gs:Nat->Fp}{σ σi:Env'}{ν:St}{caps:List (Option Nat)}(S:StOk K mg fx P H gs σ ν)(e:capE σ caps=some σi):StOk K mg (fun _=>none) P H (fun _ _=>False) σi (L2.capt ν caps):=by
 obtain⟨a,b,c⟩:=StOk.capt S e
 exact⟨S.sub,a,b,fun _ _ _ h=>h,fun _ _ _ _ h=>h.elim,fun i h=>(c i h).elim,fun i v h=>nomatch h⟩
def Zbk(k:D->Env'->Option Env')(ft:ST)(fe:SE):List T->Env'->Option (List D)
 | [],_=>some []
 | t :: ts,σ=>(k (.t t) σ).bind fun σ1=>match ft σ1 with
  | .ok true σ2=>(match fe σ2 with
   | .ok d σ3=>(Zbk k ft fe ts σ3).map (d :: ·)
   | _=>none)
  | .ok false σ2=>Zbk k ft fe ts σ2
  | _=>none
def Zbh(fi:SI)(caps:List (Option Nat))(k:D->Env'->Option Env')(ft:ST)(fe:SE):SE:=fun σ=>(fi σ).bnd fun ts σ1=>if ts.length<sizeLine then(match ZaC caps σ1 with
 | some σ2=>(match capE σ2 caps with
  | some σi=>(match Zbk k ft fe ts σi with
   | some ds=>.ok (.lst ds) σ2
   | none=>.bad)
  | none=>.bad)
 | none=>.bad) else .bad
theorem OwnL.snoc{P H:Hp}:∀{ds:List D}{vs:List V}{g gd:Fp}{d:D}{v:V},OwnL K mg P H g ds vs->Own K mg P H gd d v->(∀b,g b -> ¬gd b)->OwnL K mg P H (fun b=>g b\/gd b) (ds++[d]) (vs++[v])
 | [],[],g,gd,d,v,o,od,dj=>by
  have:=OwnL.cons od (OwnL.nil (K:=K) (mg:=mg) (P:=P) (H:=H)) fun b _ h=>h
  obtain⟨hn,gs,h1,h2,h3,h4⟩:=o
  have e:(fun b=>g b\/gd b)=fun b=>gd b\/False:=by
   funext b
   refine propext ⟨fun h=>h.elim (fun z=>?_) .inl,fun h=>h.elim .inr fun z=>z.elim⟩
   obtain⟨i,z⟩:=(h4 b).mp z
   exact absurd z (h3 i b (Nat.zero_le _))
  rw[e]
  exact this
 | [],w :: vs,g,gd,d,v,o,od,dj=>absurd o.len (by simp)
 | x :: ds,[],g,gd,d,v,o,od,dj=>absurd o.len (by simp)
 | x :: ds,w :: vs,g,gd,d,v,o,od,dj=>by
  obtain⟨g1,gr,o1,o2,d12,hg⟩:=o.uncons
  have:=OwnL.cons o1 (OwnL.snoc o2 od fun b z=>dj b ((hg b).mpr (.inr z))) fun b z y=>y.elim (fun q=>d12 b z q) fun q=>dj b ((hg b).mpr (.inl z)) q
  have e:(fun b=>g b\/gd b)=fun b=>g1 b\/(gr b\/gd b):=by
   funext b
   rw[hg b]
   exact propext ⟨fun h=>h.elim (fun z=>z.imp id .inl) fun z=>.inr (.inr z),fun h=>h.elim (fun z=>.inl (.inl z)) fun z=>z.imp .inr id⟩
  rw[e]
  exact this
theorem Zba{w:TI}{fi:SI}{caps:List (Option Nat)}{g:TG}{k:D->Env'->Option Env'}{tt:TT}{ft:ST}{te:TE}{fe:SE}(hi:TId K mg fx E w fi)(hg:TGd K mg (fun _=>none) g k)(ht:TTd K mg (fun _=>none) E0 tt ft)(he:TEd K mg (fun _=>none) E0 te fe) :
 TEd K mg fx E (Zhq w caps g tt te) (Zbh fi caps k ft fe):=by
 intro P H gs σ ν Q S post
 unfold Zbh at post
 rw[ZlL]
 refine hi P H gs σ ν _ S ?_
 cases e:fi σ with
 | bad=>rw[e] at post;exact post
 | exc c σ1=>rw[e] at post;exact post
 | ok ts σ1=>
  rw[e] at post
  dsimp only[Out.bnd] at post
  intro P1 H1 gs1 J s1 S1 hJ
  have hn:ts.length<sizeLine:=Decidable.byContradiction fun z=>by rw[if_neg z] at post;exact post
  rw[if_pos hn] at post
  split at post
  · rename_i σ2 e2
    split at post
    · rename_i σi ei
      split at post
      · rename_i ds ed
        obtain⟨P2,gs2,s2,S2⟩:=S1.freezes e2
        have B:=S2.block ei
        have hJ2:ItD K mg P2 J ts:=fun P' H' a b=>hJ P' H' (s2.mono.trans a) b
        refine⟨fun i m ν' H' ys=>m=ts.length - i/\i<=ts.length/\ys.length<=i /\ ∃P' gs' σ' gy ds0 dr,Go P2 H1 (fun _=>False) P' H' (fun b=>tot gs' b\/gy b)/\StOk K mg (fun _=>none) P' H' gs' σ' ν'/\OwnL K mg P' H' gy ds0 ys/\(∀b,tot gs' b -> ¬gy b)/\Zbk k ft fe (ts.drop i) σ'=some dr/\ds=ds0++dr,
         ⟨ts.length,by simp,Nat.zero_le _,Nat.zero_le _,P2,(fun _ _=>False),σi,(fun _=>False),[],ds,⟨.refl _,fun _ _ _ h=>h,fun b h=>.inl (h.elim (fun ⟨_,z⟩=>z) id),fun _ _ h=>.inl h⟩,B,.nil,fun _ _ h=>h,ed,rfl⟩,?_⟩
        rintro i m ν' H' ys ⟨rfl,hle,hy,P',gs',σ',gy,ds0,dr,s',S',o',dj',ec,eds⟩
        obtain⟨hgo,hstop⟩:=hJ2 P' H' s'.mono S'.sub
        by_cases hlt:i<ts.length
        · obtain⟨t,ht0⟩:=Zdk hlt
          have hd:ts.drop i=t :: ts.drop (i+1):=by
           rw[List.drop_eq_getElem_cons hlt]
           rw[List.getElem?_eq_getElem hlt] at ht0
           rw[Option.some.inj ht0]
          rw[hd] at ec
          simp only[Zbk] at ec
          obtain⟨go,yld⟩:=hgo i t ht0
          refine .inr ⟨go,fun ν2 H2 ys2=>ts.length - (i+1)=ts.length - (i+1)/\i+1<=ts.length/\ys2.length<=i+1 /\ ∃P' gs' σ' gy ds0 dr,Go P2 H1 (fun _=>False) P' H2 (fun b=>tot gs' b\/gy b)/\StOk K mg (fun _=>none) P' H2 gs' σ' ν2/\OwnL K mg P' H2 gy ds0 ys2/\(∀b,tot gs' b -> ¬gy b)/\Zbk k ft fe (ts.drop (i+1)) σ'=some dr/\ds=ds0++dr,fun ν2 H2 ys2 h=>⟨_,by omega,h⟩,fun x H2 y=>?_⟩
          obtain⟨P3,s3,sb3,hx⟩:=yld x H2 y
          have S3:=S'.go s3 sb3 fun _ _ z=>z
          obtain⟨o3,_⟩:=s3.otherL o' fun _ _ z=>z
          have s3':Go P2 H1 (fun _=>False) P3 H2 (fun b=>tot gs' b\/gy b):=s'.trans ((s3.alloc (F:=fun b=>tot gs' b\/gy b)).weak fun b h=>.inl h)
          refine hg P3 H2 gs' σ' ν' (fun _=>False) (.t t) x _ S3 (.t hx fun _ h=>h) (fun _ _ z=>z) ?_
          cases ek:k (.t t) σ' with
          | none=>rw[ek] at ec;cases ec
          | some σ3=>
           rw[ek] at ec
           dsimp only[Option.bind] at ec
           intro gs3 ν3 h3 S4
           have h3':∀b,tot gs3 b->tot gs' b:=fun b z=>(h3 b z).elim id fun q=>q.elim
           refine ht.run S4 (fun c σ' e=>?_) (fun e=>?_) fun kb σ4 e4 P4 H4 gs4 s4 S4'=>?_
           · rw[e] at ec;cases ec
           · rw[e] at ec;cases ec
           rw[e4] at ec
           obtain⟨o4,f4⟩:=s4.otherL o3 fun b z q=>dj' b (h3' b q) z
           have s34:Go P2 H1 (fun _=>False) P4 H4 (fun b=>tot gs4 b\/gy b):=by
            refine s3'.trans (Go.weak (G':=fun b=>gy b\/tot gs4 b) ?_ fun b h=>h.symm)
            have:=s4.wide (F:=gy)
            exact⟨this.mono,fun b w n z=>this.frame b w (fun q=>n (q.elim .inr fun y=>.inl (h3' b y))) z,fun b z=>(this.new b z).imp (fun q=>q.elim .inr fun y=>.inl (h3' b y)) id,fun b w z=>(this.pnew b w z).imp id fun q=>q.imp (fun y=>y.elim .inr fun y=>.inl (h3' b y)) id⟩
           cases kb with
           | false=>
            rw[if_neg Bool.false_ne_true]
            exact⟨rfl,hlt,Nat.le_succ_of_le hy,P4,gs4,σ4,gy,ds0,dr,s34,S4',o4,fun b z q=>f4 b q z,ec,eds⟩
           | true=>
            rw[if_pos rfl]
            dsimp only at ec
            refine he P4 H4 gs4 σ4 ν3 _ S4' ?_
            cases e5:fe σ4 with
            | bad=>rw[e5] at ec;cases ec
            | exc c σ'=>rw[e5] at ec;cases ec
            | ok d σ5=>
             rw[e5] at ec
             dsimp only at ec
             intro P5 H5 gs5 gd v s5 S5 od dj5
             obtain⟨o5,f5⟩:=s5.otherL o4 fun b z q=>f4 b z q
             cases er:Zbk k ft fe (ts.drop (i+1)) σ5 with
             | none=>rw[er] at ec;cases ec
             | some dr'=>
              rw[er] at ec
              cases ec
              refine⟨by omega,rfl,hlt,by rw[List.length_append,List.length_singleton];omega,P5,gs5,σ5,fun b=>gy b\/gd b,ds0++[d],dr',?_,S5,o5.snoc od fun b z q=>f5 b z (.inr q),fun b z q=>q.elim (fun y=>f5 b y (.inl z)) fun y=>dj5 b z y,er,by rw[eds,List.append_assoc];rfl⟩
              have:=s5.wide (F:=gy)
              refine s34.trans ⟨this.mono,fun b w n z=>this.frame b w (fun q=>n q.symm) z,fun b z=>?_,fun b w z=>(this.pnew b w z).imp id fun q=>q.imp (fun y=>y.symm) id⟩
              refine(this.new b ?_).imp (fun q=>q.symm) id
              rcases z with z | z | z
              · exact .inr (.inl z)
              · exact .inl z
              · exact .inr (.inr z)
        · have ei':i=ts.length:=by omega
          subst ei'
          rw[List.drop_length] at ec
          simp only[Zbk] at ec
          cases ec
          rw[List.append_nil] at eds
          subst eds
          refine .inl ⟨hstop,by omega,fun p hp=>?_⟩
          obtain⟨ol,sb,ng⟩:=ZmK S'.sub o' hp
          have S2':StOk K mg fx P' (upd H' p (.lst ys)) gs2 σ2 ν:=by
           have q:=S2.go s' S'.sub fun _ _ z=>z
           exact⟨sb,q.len,fun i d e=>by
            obtain⟨v,q1,q2⟩:=q.slot i d e
            exact⟨v,q1,q2.frame (.refl _) (fun b w _ z=>by rw[Zan (Zak z hp)];exact z) fun b z=>(q2.at b z).2⟩,q.emp,q.dis,q.fix,q.fixed⟩
          have far:∀b,tot gs2 b -> ¬gy b:=fun b z q=>by
           obtain⟨⟨o,w⟩,_⟩:=S2.here z
           rcases s'.new b (.inr q) with y | y
           · exact y
           · rw[w] at y;cases y
          have s12:=s1.trans s2
          have sA:=s12.trans (s'.alloc (F:=tot gs2))
          refine post P' (upd H' p (.lst ys)) gs2 _ (.ref p) ⟨sA.mono,fun b w n z=>by rw[Zan (Zak (sA.frame b w n z) hp)];exact sA.frame b w n z,fun b z=>?_,sA.pnew⟩ S2' ol fun b z q=>?_
          · rcases z with z | z | z
            · exact sA.new b (.inl z)
            · rw[z]
              by_cases q:tot gs p
              · exact .inl q
              · cases w:H p with
                | none=>exact .inr rfl
                | some o=>rw[sA.frame p o q w] at hp;cases hp
            · exact sA.new b (.inr (.inr z))
          · rcases q with q | q
            · obtain⟨⟨o,w⟩,_⟩:=S2'.here z
              have hpp:H' p=none:=hp
              obtain⟨⟨o2,w2⟩,_⟩:=(S2.go s' S'.sub fun _ _ z=>z).here z
              rw[q,hpp] at w2;cases w2
            · exact far b z q
      · exact post.elim
    · exact post.elim
  · exact post.elim
end DL
set_option autoImplicit false
namespace DL
open PySem L2
variable{K:PySem.W.Frag}{mg:Str->Option Value}{fx:Nat->Option V}{E:XK}
def oI(c:Int->Int->Bool)(g:Int->Int->Int):T->T->Option D
 | .int i,.int j=>if c i j=true then some (.t (.int (g i j))) else none
 | _,_=>none
theorem Zl0{C:Int->Int->Prop}{c:Int->Int->Bool}{g:Int->Int->Int}(hc:∀i j,c i j=true->C i j):OpD K mg (rI C fun i j=>.int (g i j)) (oI c g):=by
 intro P H x y v w d Q s hx hy e k
 unfold oI at e
 split at e
 · cases hx;cases hy
   split at e
   · rename_i hcc
     cases e
     exact⟨_,_,rfl,rfl,hc _ _ hcc,done s .int k⟩
   · cases e
 · cases e
theorem ZmL{g:Int->Int->Int}:OpD K mg (rI0 fun i j=>.int (g i j)) (oI (fun _ _=>true) g):=by
 intro P H x y v w d Q s hx hy e k
 unfold oI at e
 split at e
 · cases hx;cases hy
   cases e
   exact⟨_,_,rfl,rfl,done s .int k⟩
 · cases e
def cMul(i j:Int):Bool:=decide (i.natAbs<2 ^ 64) || decide (j.natAbs<2 ^ 64) || (decide (i.natAbs<2 ^ 10000)&&decide (j.natAbs<2 ^ 10000))
theorem ZnY:∀i j,cMul i j=true->ZnL i j:=fun i j h=>by
 unfold cMul at h
 simp only[Bool.or_eq_true,Bool.and_eq_true,decide_eq_true_eq] at h
 rcases h with(h | h) | h
 · exact .inl (.inl ⟨by omega,by omega⟩)
 · exact .inl (.inr ⟨by omega,by omega⟩)
 · exact .inr h
def cDiv(_ j:Int):Bool:=decide (0<j)&&decide (j<1073741824)
theorem ZnZ:∀i j,cDiv i j=true->CDiv i j:=fun i j h=>by
 unfold cDiv at h
 simpa[CDiv] using h
def cPos(_ j:Int):Bool:=decide (0<j)
theorem Zn0:∀i j:Int,cPos i j=true->0<j:=fun i j h=>by simpa[cPos] using h
def oAdd:=oI (fun _ _=>true) (· + ·)
def oSub:=oI (fun _ _=>true) (· - ·)
def oMul:=oI cMul (· * ·)
def oDiv:=oI cDiv (· / ·)
def oMod:=oI cPos (· % ·)
theorem ZdX:OpD K mg (rI0 fun i j=>.int (i+j)) oAdd:=ZmL
theorem Zhy:OpD K mg (rI0 fun i j=>.int (i - j)) oSub:=ZmL
theorem ZfS:OpD K mg (rI ZnL fun i j=>.int (i*j)) oMul:=Zl0 ZnY
theorem ZdY:OpD K mg (rI CDiv fun i j=>.int (i / j)) oDiv:=Zl0 ZnZ
theorem ZbE:OpD K mg (rI (fun _ j=>0<j) fun i j=>.int (i % j)) oMod:=Zl0 Zn0
def oNeg:T->Option D
 | .int i=>some (.t (.int (-i)))
 | _=>none
theorem Zpx:UnD K mg (rU fun i=>.int (-i)) oNeg:=by
 intro P H x v d Q s hx e k
 unfold oNeg at e
 split at e
 · cases hx;cases e
   exact⟨_,rfl,done s .int k⟩
 · cases e
def oB(g:Int->Int->Bool):T->T->Option Bool
 | .int i,.int j=>some (g i j)
 | _,_=>none
theorem Zl1{g:Int->Int->Bool}:OpB K mg (rI0 fun i j=>.bl (g i j)) (oB g):=by
 intro P H x y v w k Q s hx hy e q
 unfold oB at e
 split at e
 · cases hx;cases hy;cases e
   exact⟨_,_,rfl,rfl,q⟩
 · cases e
def oLt:=oB fun i j=>decide (i<j)
def oLe:=oB fun i j=>decide (i<=j)
def oGt:=oB fun i j=>decide (j<i)
def oGe:=oB fun i j=>decide (j<=i)
theorem Zn1:OpB K mg (rI0 fun i j=>.bl (decide (i<j))) oLt:=Zl1
theorem Zpy:OpB K mg (rI0 fun i j=>.bl (decide (i<=j))) oLe:=Zl1
theorem Zkh:OpB K mg (rI0 fun i j=>.bl (decide (j<i))) oGt:=Zl1
theorem ZqL:OpB K mg (rI0 fun i j=>.bl (decide (j<=i))) oGe:=Zl1
def oEq:T->T->Option Bool
 | .int i,.int j=>some (decide (i=j))
 | .str i,.str j=>some (decide (i=j))
 | .bl i,.bl j=>some (decide (i=j))
 | .non,.non=>some true
 | .non,.int _=>some false
 | .int _,.non=>some false
 | .non,.bl _=>some false
 | .bl _,.non=>some false
 | .non,.str _=>some false
 | .str _,.non=>some false
 | .int _,.str _=>some false
 | .str _,.int _=>some false
 | .bl _,.str _=>some false
 | .str _,.bl _=>some false
 | _,_=>none
def oNe(x y:T):Option Bool:=(oEq x y).map (!·)
theorem Zpz{P:Hp}{x y:T}{v w:V}{k:Bool}(hx:Den K mg P x v)(hy:Den K mg P y w)(e:oEq x y=some k):scal v w=true/\decide (v=w)=k:=by
 unfold oEq at e
 split at e
 all_goals first
  | (cases e;done)
  | (cases hx;cases hy;cases e;exact⟨rfl,by first | rfl | (simp;done) | (congr 1;simp)⟩)
theorem Zfn:OpB K mg rEq oEq:=by
 intro P H x y v w k Q s hx hy e q
 obtain⟨h1,h2⟩:=Zpz hx hy e
 exact⟨h1,by rw[h2];exact q⟩
theorem Zia:OpB K mg rNe oNe:=by
 intro P H x y v w k Q s hx hy e q
 unfold oNe at e
 cases e2:oEq x y with
 | none=>rw[e2] at e;cases e
 | some b=>
  rw[e2] at e
  cases e
  obtain⟨h1,h2⟩:=Zpz hx hy e2
  exact⟨h1,by rw[h2];exact q⟩
def isN:T->Bool
 | .non=>true
 | _=>false
theorem ZqM{P:Hp}{x:T}{v:V}(hx:Den K mg P x v):decide (v=V.non)=isN x:=by
 cases hx<;>simp[isN]
def oIsN(x y:T):Option Bool:=match y with
 | .non=>some (isN x)
 | _=>none
theorem ZmM:OpB K mg (fun x y H Q=>y=.non/\Q (.bl (decide (x=.non))) H) oIsN:=by
 intro P H x y v w k Q s hx hy e q
 unfold oIsN at e
 split at e
 · cases hy;cases e
   exact⟨rfl,by rw[ZqM hx];exact q⟩
 · cases e
def ZdR:T->Bool
 | .non=>true
 | .bl _=>true
 | .int _=>true
 | .str _=>true
 | _=>false
def eqT:T->T->Bool
 | .non,.non=>true
 | .bl a,.bl b=>a == b
 | .bl a,.int b=>(if a then 1 else 0) == b
 | .int a,.bl b=>a == (if b then 1 else 0)
 | .int a,.int b=>a == b
 | .str a,.str b=>a == b
 | _,_=>false
theorem Zki{P:Hp}{x:T}{v:V}(h:Den K mg P x v)(e:ZdR x=true):Zeo v=true:=by cases h<;>first | rfl | cases e
theorem ZpA{P:Hp}{x y:T}{v w:V}(hx:Den K mg P x v)(hy:Den K mg P y w):eqV v w=eqT x y\/ZdR x=false\/ZdR y=false:=by
 cases hx<;>cases hy<;>first | exact .inl rfl | exact .inr (.inl rfl) | exact .inr (.inr rfl)
def items:T->Option (List T)
 | .lst ts=>some ts
 | .tup ts=>some ts
 | .scr ns=>some (ns.map .int)
 | _=>none
theorem Zeb{P:Hp}{y:T}{w:V}{ts:List T}(h:Den K mg P y w)(e:items y=some ts):∃p vs,w=.ref p/\(SqL K P p vs\/P p=some (.tup vs))/\ts.length=vs.length /\ ∀(i:Nat) t v,ts[i]? = some t->vs[i]? = some v->Den K mg P t v:=by
 unfold items at e
 split at e
 · cases e;cases h with
   | lst h1 h2 h3=>exact⟨_,_,rfl,.inl (.of h1),h2,h3⟩
 · cases e;cases h with
   | tup h1 h2 h3=>exact⟨_,_,rfl,.inr h1,h2,h3⟩
 · cases e;cases h with
   | scr h1=>
    refine⟨_,_,rfl,.inl h1,by simp,fun i t v e e'=>?_⟩
    rw[List.getElem?_map] at e e'
    cases q:(_:List Int)[i]? with
    | none=>rw[q] at e;cases e
    | some n=>rw[q] at e e';cases e;cases e';exact .int
 · cases e
theorem Zdo{P H:Hp}{p:Addr}{vs:List V}(s:Sub P H)(h:SqL K P p vs\/P p=some (.tup vs)):SqL K H p vs\/SqT K H p vs:=h.imp (fun z=>s.sqL z) fun z=>.of (s _ _ z)
theorem all2{P:Hp}:∀{ts:List T}{vs:List V},ts.length=vs.length->(∀(i:Nat) t v,ts[i]? = some t->vs[i]? = some v->Den K mg P t v)->ts.all ZdR=true->vs.all Zeo=true
 | [],[],_,_,_=>rfl
 | [],_ :: _,h,_,_=>by simp at h
 | _ :: _,[],h,_,_=>by simp at h
 | t :: ts,v :: vs,h,f,e=>by
  simp only[List.all_cons,Bool.and_eq_true] at e ⊢
  exact⟨Zki (f 0 t v rfl rfl) e.1,all2 (by simpa using h) (fun i t v a b=>f (i+1) t v (by simpa using a) (by simpa using b)) e.2⟩
theorem any2{P:Hp}{x:T}{w:V}(hx:Den K mg P x w)(fxx:ZdR x=true):∀{ts:List T}{vs:List V},ts.length=vs.length->(∀(i:Nat) t v,ts[i]? = some t->vs[i]? = some v->Den K mg P t v)->ts.all ZdR=true->inV w vs=ts.any fun y=>eqT y x
 | [],[],_,_,_=>rfl
 | [],_ :: _,h,_,_=>by simp at h
 | _ :: _,[],h,_,_=>by simp at h
 | t :: ts,v :: vs,h,f,e=>by
  simp only[List.all_cons,Bool.and_eq_true] at e
  have e1:eqV v w=eqT t x:=by
   rcases ZpA (f 0 t v rfl rfl) hx with z | z | z
   · exact z
   · rw[e.1] at z;cases z
   · rw[fxx] at z;cases z
  show(eqV v w || inV w vs)=(eqT t x || ts.any fun y=>eqT y x)
  rw[e1,any2 hx fxx (by simpa using h) (fun i t v a b=>f (i+1) t v (by simpa using a) (by simpa using b)) e.2]
def oIn(x y:T):Option Bool:=match items y with
 | some ts=>if ZdR x&&ts.all ZdR then some (ts.any fun z=>eqT z x) else none
 | none=>none
def Zda(x y:T):Option Bool:=(oIn x y).map (!·)
theorem ZpB{P H:Hp}{x y:T}{v w:V}{k:Bool}(s:Sub P H)(hx:Den K mg P x v)(hy:Den K mg P y w)(e:oIn x y=some k):∃p vs,w=.ref p/\(SqL K H p vs\/SqT K H p vs)/\Zeo v=true/\vs.all Zeo=true/\inV v vs=k:=by
 unfold oIn at e
 split at e
 · rename_i ts ei
   split at e
   · rename_i hf
     rw[Bool.and_eq_true] at hf
     cases e
     obtain⟨p,vs,rfl,h1,h2,h3⟩:=Zeb hy ei
     exact⟨p,vs,rfl,Zdo s h1,Zki hx hf.1,all2 h2 h3 hf.2,any2 hx hf.1 h2 h3 hf.2⟩
   · cases e
 · cases e
theorem Zn2:OpB K mg (rIn K false) oIn:=by
 intro P H x y v w k Q s hx hy e q
 obtain⟨p,vs,rfl,h1,h2,h3,h4⟩:=ZpB s hx hy e
 exact⟨p,vs,rfl,h1,h2,h3,by rw[h4];exact q⟩
theorem ZfA:OpB K mg (rIn K true) Zda:=by
 intro P H x y v w k Q s hx hy e q
 unfold Zda at e
 cases e2:oIn x y with
 | none=>rw[e2] at e;cases e
 | some b=>
  rw[e2] at e
  cases e
  obtain⟨p,vs,rfl,h1,h2,h3,h4⟩:=ZpB s hx hy e2
  exact⟨p,vs,rfl,h1,h2,h3,by rw[h4];exact q⟩
def oCat:T->T->Option D
 | .lst a,.lst b=>if a.length+b.length<=1000000 then some (.lst ((a++b).map .t)) else none
 | _,_=>none
theorem Zn3{P:Hp}{ts us:List T}{vs ws:List V}(h1:ts.length=vs.length)(h2:∀(i:Nat) t v,ts[i]? = some t->vs[i]? = some v->Den K mg P t v)(h3:us.length=ws.length)(h4:∀(i:Nat) t v,us[i]? = some t->ws[i]? = some v->Den K mg P t v) :
 (ts++us).length=(vs++ws).length /\ ∀(i:Nat) t v,(ts++us)[i]? = some t->(vs++ws)[i]? = some v->Den K mg P t v:=by
 refine⟨by simp[h1,h3],fun i t v e e'=>?_⟩
 by_cases hi:i<ts.length
 · rw[List.getElem?_append_left hi] at e
   rw[List.getElem?_append_left (h1▸hi)] at e'
   exact h2 i t v e e'
 · rw[List.getElem?_append_right (by omega)] at e
   rw[List.getElem?_append_right (by omega)] at e'
   exact h4 (i - ts.length) t v e (by rw[h1];exact e')
theorem Zhz:OpD K mg rCat oCat:=by
 intro P H x y v w d Q s hx hy e k
 unfold oCat at e
 split at e
 · split at e
   · rename_i hz
     cases e
     cases hx with
     | lst a1 a2 a3=>cases hy with
      | lst b1 b2 b3=>
       obtain⟨c1,c2⟩:=Zn3 a2 a3 b2 b3
       refine⟨_,_,_,_,rfl,rfl,s _ _ a1,s _ _ b1,by rw[<- a2,<- b2];exact Nat.le_trans hz (by decide),fun p hp=>newL s hp c1 c2 k⟩
   · cases e
 · cases e
def oIx(x y:T):Option D:=match y with
 | .int i=>(match items x with
  | some ts=>(atI ts i).map .t
  | none=>none)
 | _=>none
theorem Zkj{P:Hp}{ts:List T}{vs:List V}{i:Int}{t:T}(h1:ts.length=vs.length)(h2:∀(i:Nat) t v,ts[i]? = some t->vs[i]? = some v->Den K mg P t v)(e:atI ts i=some t):∃v,atI vs i=some v/\Den K mg P t v:=by
 unfold atI at e ⊢
 rw[<- h1]
 cases q:ixN ts.length i with
 | none=>rw[q] at e;cases e
 | some j=>
  rw[q] at e
  dsimp only[Option.bind] at e ⊢
  have hj:=Zcn e
  obtain⟨v,hv⟩:=Zdk (h1▸hj)
  exact⟨v,hv,h2 j t v e hv⟩
theorem ZqN{P H:Hp}{x y:T}{v w:V}{d:D}{Q:VK}(s:Sub P H)(hx:Den K mg P x v)(hy:Den K mg P y w)(e:oIx x y=some d)(k:∀P' H' g u,Go P H (fun _=>False) P' H' g->Sub P' H'->Own K mg P' H' g d u->Q u H') :
 ∃p vs i u,v=.ref p/\w=.int i/\(SqL K H p vs\/SqT K H p vs)/\atI vs i=some u/\Q u H:=by
 unfold oIx at e
 split at e
 · cases hy
   split at e
   · rename_i ts ei
     obtain⟨p,vs,rfl,h1,h2,h3⟩:=Zeb hx ei
     cases q:atI ts _ with
     | none=>rw[q] at e;cases e
     | some t=>
      rw[q] at e
      cases e
      obtain⟨u,hu,dn⟩:=Zkj h2 h3 q
      exact⟨p,vs,_,u,rfl,rfl,Zdo s h1,hu,done s dn k⟩
   · cases e
 · cases e
def Zn4(K:PySem.W.Frag):R2:=fun x y H Q=>rIxL K x y H Q\/rIxT K x y H Q
theorem ZbW:OpD K mg (Zn4 K) oIx:=by
 intro P H x y v w d Q s hx hy e k
 obtain⟨p,vs,i,u,rfl,rfl,h,hu,q⟩:=ZqN s hx hy e k
 rcases h with h | h
 · exact .inl ⟨p,vs,i,u,rfl,rfl,h,hu,q⟩
 · exact .inr ⟨p,vs,i,u,rfl,rfl,h,hu,q⟩
def oIxS:T->T->Option D
 | .str z,.int i=>if z.length<=1000000 then(atI z.cps.toList i).map fun c=>.t (.str ⟨#[c]⟩) else none
 | _,_=>none
theorem Zkk:OpD K mg rIxS oIxS:=by
 intro P H x y v w d Q s hx hy e k
 unfold oIxS at e
 split at e
 · cases hx;cases hy
   split at e
   · rename_i z i hz
     cases q:atI z.cps.toList i with
     | none=>rw[q] at e;cases e
     | some c=>
      rw[q] at e
      cases e
      exact⟨_,_,c,rfl,rfl,Nat.le_trans hz (by decide),q,done s .str k⟩
   · cases e
 · cases e
theorem Zbd{r:List V->Hp->VK->Prop}{op:T->Option D}{ta:TE}{fa:SE}(ho:UnD K mg (fun x H Q=>r [x] H Q) op)(ha:TEd K mg fx E ta fa):TEd K mg fx E (tCB r (Zc8 ta tNil)) (e1 op fa):=Zhx ho ha
def oLen:T->Option D
 | .str z=>if z.length<=1000000 then some (.t (.int z.length)) else none
 | x=>(items x).map fun ts=>.t (.int ts.length)
def rLen(K:PySem.W.Frag):List V->Hp->VK->Prop:=fun xs H Q=>(∃p ys,xs=[.ref p]/\(SqL K H p ys\/SqT K H p ys)/\Q (.int ys.length) H) \/ ∃z,xs=[.str z]/\z.length<=sizeLine/\Q (.int z.length) H
theorem ZcA:UnD K mg (fun x H Q=>rLen K [x] H Q) oLen:=by
 intro P H x v d Q s hx e k
 unfold oLen at e
 split at e
 · split at e
   · rename_i hz
     cases hx;cases e
     exact .inr ⟨_,rfl,Nat.le_trans hz (by decide),done s .int k⟩
   · cases e
 · cases q:items x with
   | none=>rw[q] at e;cases e
   | some ts=>
    rw[q] at e
    cases e
    obtain⟨p,vs,rfl,h1,h2,h3⟩:=Zeb hx q
    exact .inl ⟨p,vs,rfl,Zdo s h1,by rw[<- h2];exact done s .int k⟩
def oList(x:T):Option D:=(items x).map fun ts=>.lst (ts.map .t)
theorem Zn5:UnD K mg (fun x H Q=>∃p ys,[x]=[.ref p]/\(SqL K H p ys\/SqT K H p ys) /\ ∀l,H l=none->Q (.ref l) (upd H l (.lst ys))) oList:=by
 intro P H x v d Q s hx e k
 unfold oList at e
 cases q:items x with
 | none=>rw[q] at e;cases e
 | some ts=>
  rw[q] at e
  cases e
  obtain⟨p,vs,rfl,h1,h2,h3⟩:=Zeb hx q
  exact⟨p,vs,rfl,Zdo s h1,fun l hl=>newL s hl h2 h3 k⟩
def oAbs:T->Option D
 | .int i=>some (.t (.int (if i<0 then -i else i)))
 | _=>none
theorem ZpC:UnD K mg (fun x H Q=>∃i,[x]=[V.int i]/\Q (.int (if i<0 then -i else i)) H) oAbs:=by
 intro P H x v d Q s hx e k
 unfold oAbs at e
 split at e
 · cases hx;cases e
   exact⟨_,rfl,done s .int k⟩
 · cases e
def oInt:T->Option D
 | .int i=>some (.t (.int i))
 | .bl b=>some (.t (.int (if b then 1 else 0)))
 | _=>none
theorem ZmN:UnD K mg (fun x H Q=>(∃i,[x]=[V.int i]/\Q (.int i) H) \/ ∃k,[x]=[V.bl k]/\Q (.int (if k then 1 else 0)) H) oInt:=by
 intro P H x v d Q s hx e k
 unfold oInt at e
 split at e
 · cases hx;cases e
   exact .inl ⟨_,rfl,done s .int k⟩
 · cases hx;cases e
   exact .inr ⟨_,rfl,done s .int k⟩
 · cases e
def iLst(f:SE):SI:=fun σ=>(f σ).bnd fun d σ1=>match frz d with
 | .lst ts=>.ok ts σ1
 | .scr ns=>.ok (ns.map .int) σ1
 | _=>.bad
def ZdZ:T->Option (List T)
 | .lst ts=>some ts
 | .scr ns=>some (ns.map .int)
 | _=>none
theorem ZpD{P:Hp}{a:Addr}{ts:List T}{vs:List V}(h:SqL K P a vs)(h1:ts.length=vs.length)(h2:∀(i:Nat) t v,ts[i]? = some t->vs[i]? = some v->Den K mg P t v):ItD K mg P (Itl K a) ts:=fun P' H' s s'=>by
 have sq:SqL K H' a vs:=(s.trans s').sqL h
 refine⟨fun i t e=>?_,vs,sq,by omega⟩
 obtain⟨v,hv⟩:=Zdk (h1▸Zcn e)
 refine⟨⟨vs,v,sq,hv⟩,fun x H2 y=>?_⟩
 obtain⟨rfl,y⟩:=y
 have:=y vs sq
 rw[hv] at this
 cases this
 exact⟨P',.refl,s',(h2 i t v e hv).mono s⟩
theorem Zbr{t:TE}{f:SE}(h:TEd K mg fx E t f):TId K mg fx E (Znq K t) (iLst f):=by
 intro P H gs σ ν R S post
 unfold iLst at post
 refine h.run S (fun c σ' e=>by rw[e] at post;exact post) (fun e=>by rw[e] at post;exact post) fun d σ1 e P1 H1 gs1 v s1 S1 dn=>?_
 rw[e] at post
 dsimp only[Out.bnd] at post
 split at post
 · rename_i ts et
   rw[et] at dn
   cases dn with
   | @lst _ a vs h1 h2 h3=>exact⟨a,rfl,⟨vs,.of (S1.sub _ _ h1)⟩,post P1 H1 gs1 _ s1 S1 (ZpD (.of h1) h2 h3)⟩
 · rename_i ns et
   rw[et] at dn
   cases dn with
   | @scr _ a h1=>
    refine⟨a,rfl,⟨_,S1.sub.sqL h1⟩,post P1 H1 gs1 _ s1 S1 (ZpD h1 (by simp) fun i t v e e'=>?_)⟩
    rw[List.getElem?_map] at e e'
    cases q:ns[i]? with
    | none=>rw[q] at e;cases e
    | some n=>rw[q] at e e';cases e;cases e';exact .int
 · exact post.elim
def rngT(lo:Int)(n:Nat):List T:=(List.range n).map fun i=>.int (lo+(i:Nat))
theorem ZqO{P:Hp}{lo:Int}{n:Nat}:ItD K mg P (Itr lo n) (rngT lo n):=fun P' H' s s'=>by
 have hl:(rngT lo n).length=n:=by simp[rngT]
 refine⟨fun i t e=>?_,by rw[hl];exact Nat.le_refl n⟩
 have hi:i<n:=by have:=Zcn e;rwa [hl] at this
 refine⟨hi,fun x H2 y=>?_⟩
 obtain⟨rfl,rfl⟩:=y
 have:t=.int (lo+(i:Nat)):=by
  simp only[rngT,List.getElem?_map,List.getElem?_range hi,Option.map_some] at e
  exact(Option.some.inj e).symm
 subst this
 exact⟨P',.refl,s',.int⟩
def ZbC(f:SE):SI:=fun σ=>(f σ).bnd fun d σ1=>match frz d with
 | .int j=>if j.natAbs<1000000 then .ok (rngT 0 j.toNat) σ1 else .bad
 | _=>.bad
theorem Za6{t:TE}{f:SE}(h:TEd K mg fx E t f):TId K mg fx E (Zpa (Zc8 t tNil)) (ZbC f):=by
 intro P H gs σ ν R S post
 unfold ZbC at post
 refine h.run (Q:=fun x H1=>∃j:Int,[x]=[V.int j] /\ -(2 ^ 62)<=j/\j<2 ^ 62/\R (Itr 0 j.toNat) H1) S (fun c σ' e=>by rw[e] at post;exact post) (fun e=>by rw[e] at post;exact post) fun d σ1 e P1 H1 gs1 v s1 S1 dn=>?_
 rw[e] at post
 dsimp only[Out.bnd] at post
 split at post
 · rename_i j et
   rw[et] at dn
   cases dn
   split at post
   · rename_i hj
     exact⟨j,rfl,by omega,by omega,post P1 H1 gs1 _ s1 S1 ZqO⟩
   · exact post.elim
 · exact post.elim
theorem ZfT{P:Hp}{x:T}{v:V}{ts:List T}(h:Den K mg P x v)(e:ZdZ x=some ts):∃p vs,v=.ref p/\SqL K P p vs/\ts.length=vs.length /\ ∀(i:Nat) t v,ts[i]? = some t->vs[i]? = some v->Den K mg P t v:=by
 unfold ZdZ at e
 split at e
 · cases e;cases h with
   | lst h1 h2 h3=>exact⟨_,_,rfl,.of h1,h2,h3⟩
 · cases e;cases h with
   | scr h1=>
    refine⟨_,_,rfl,h1,by simp,fun i t v e e'=>?_⟩
    rw[List.getElem?_map] at e e'
    cases q:(_:List Int)[i]? with
    | none=>rw[q] at e;cases e
    | some n=>rw[q] at e e';cases e;cases e';exact .int
 · cases e
theorem tup2{P' H':Hp}{t u:T}{v w:V}{l:Addr}(s:Sub P' H')(hl:H' l=none)(h1:Den K mg P' t v)(h2:Den K mg P' u w):∃P2,Go P' H' (fun _=>False) P2 (upd H' l (.tup [v,w])) (fun _=>False)/\Sub P2 (upd H' l (.tup [v,w]))/\Den K mg P2 (.tup [t,u]) (.ref l):=by
 have hP:=s.fresh hl
 have u1:Sub P' (upd P' l (.tup [v,w])):=fun b o e=>by rw[Zan (Zak e hP)];exact e
 refine⟨upd P' l (.tup [v,w]),⟨u1,fun b o _ e=>by rw[Zan (Zak e hl)];exact e,fun b h=>h.elim,fun b o e=>?_⟩,fun b o e=>?_,.tup ZaA rfl fun i t' v' e e'=>?_⟩
 · by_cases q:b=l
   · exact .inr (.inr (by rw[q];exact hl))
   · rw[Zan q] at e;exact .inl e
 · by_cases q:b=l
   · subst q;rw[ZaA] at e ⊢;exact e
   · rw[Zan q] at e ⊢;exact s b o e
 · match i with
   | 0=>simp at e e';subst e e';exact h1.mono u1
   | 1=>simp at e e';subst e e';exact h2.mono u1
   | i+2=>simp at e
theorem ZqP{P:Hp}{a b:Addr}{ts us:List T}{vs ws:List V}(h:SqL K P a vs)(h1:ts.length=vs.length)(h2:∀(i:Nat) t v,ts[i]? = some t->vs[i]? = some v->Den K mg P t v)(h':SqL K P b ws)(h1':us.length=ws.length)(h2':∀(i:Nat) t v,us[i]? = some t->ws[i]? = some v->Den K mg P t v) :
 ItD K mg P (Itz K a b) (List.zipWith (fun x y=>.tup [x,y]) ts us):=fun P' H' s s'=>by
 have sq:SqL K H' a vs:=(s.trans s').sqL h
 have sq':SqL K H' b ws:=(s.trans s').sqL h'
 refine⟨fun i t e=>?_,vs,ws,sq,sq',by rw[List.length_zipWith];omega⟩
 rw[List.getElem?_zipWith] at e
 cases e1:ts[i]? with
 | none=>rw[e1] at e;cases e
 | some x=>
  cases e2:us[i]? with
  | none=>rw[e1,e2] at e;cases e
  | some y=>
   rw[e1,e2] at e
   cases e
   obtain⟨v,hv⟩:=Zdk (h1▸Zcn e1)
   obtain⟨w,hw⟩:=Zdk (h1'▸Zcn e2)
   refine⟨⟨vs,ws,v,w,sq,sq',hv,hw⟩,fun z H2 yl=>?_⟩
   obtain⟨l,x',y',hl,rfl,rfl,q1,q2⟩:=yl
   have z1:=q1 vs sq
   have z2:=q2 ws sq'
   rw[hv] at z1
   rw[hw] at z2
   cases z1;cases z2
   exact tup2 s' hl ((h2 i x v e1 hv).mono s) ((h2' i y w e2 hw).mono s)
end DL
set_option autoImplicit false
namespace DL
open PySem L2
variable{K:PySem.W.Frag}{mg:Str->Option Value}{fx:Nat->Option V}{E:XK}
def upSl(i:Nat)(d:D)(σ:Env'):Option Env':=match σ[i]? with
 | some (.v _)=>some (σ.set i (.v d))
 | some (.x _)=>some (σ.set i (.x d))
 | _=>none
theorem StOk.mut{P H H2:Hp}{gs:Nat->Fp}{σ σ1:Env'}{ν:St}{i:Nat}{d2:D}{v:V}{g2 g0:Fp}(S:StOk K mg fx P H gs σ ν)(e:upSl i d2 σ=some σ1)(hv:ν[i]? = some (some v))(hg0:∀b,tot gs b -> ¬g0 b)
 (hH:∀b o,¬gs i b->H b=some o->H2 b=some o) (sb:Sub P H2) (o2:Own K mg P H2 g2 d2 v) (hn:∀b,g2 b->gs i b\/g0 b\/H b=none) :
 StOk K mg fx P H2 (fun j=>if j=i then g2 else gs j) σ1 ν/\Go P H (fun b=>tot gs b\/g0 b) P H2 (tot fun j=>if j=i then g2 else gs j):=by
 have key:∀z:Sl,Sl.get z=some d2->((∃d,σ[i]? = some (.v d))/\z=.v d2\/(∃d,σ[i]? = some (.x d))/\z=.x d2)->StOk K mg fx P H2 (fun j=>if j=i then g2 else gs j) (σ.set i z) ν:=by
  intro z hz hσ
  have hi:i<σ.length:=by rcases hσ with⟨⟨_,h⟩,_⟩ | ⟨⟨_,h⟩,_⟩<;>exact Zcn h
  refine⟨sb,by rw[List.length_set];exact S.len,fun j d' e'=>?_,fun j b e'=>?_,fun j k b hjk hj hk=>?_,fun j e'=>?_,fun j w h=>?_⟩
  · by_cases hj:j=i
    · subst hj
      rw[List.getElem?_set_self hi,show(some z).bind Sl.get=z.get from rfl,hz] at e'
      cases e'
      simp only[if_true]
      exact⟨v,hv,o2⟩
    · rw[List.getElem?_set_ne (Ne.symm hj)] at e'
      simp only[hj,if_false]
      obtain⟨w,h1,h2⟩:=S.slot j d' e'
      exact⟨w,h1,h2.frame (.refl _) (fun b o hb=>hH b o (S.dis j i b hj hb)) fun b hb=>(h2.at b hb).2⟩
  · by_cases hj:j=i
    · subst hj
      rw[List.getElem?_set_self hi,show(some z).bind Sl.get=z.get from rfl,hz] at e'
      cases e'
    · rw[List.getElem?_set_ne (Ne.symm hj)] at e'
      simp only[hj,if_false]
      exact S.emp j b e'
  · have far:∀j',j'≠i->gs j' b -> ¬g2 b:=fun j' hj' h1 h2=>by
     rcases hn b h2 with q | q | q
     · exact S.dis j' i b hj' h1 q
     · exact hg0 b ⟨j',h1⟩ q
     · obtain⟨⟨o,w⟩,_⟩:=S.here ⟨j',h1⟩
       rw[w] at q;cases q
    by_cases hj':j=i
    · by_cases hk':k=i
      · exact hjk (hj'.trans hk'.symm)
      · simp only[hj',if_true] at hj
        simp only[hk',if_false] at hk
        exact far k hk' hk hj
    · simp only[hj',if_false] at hj
      by_cases hk':k=i
      · simp only[hk',if_true] at hk;exact far j hj' hj hk
      · simp only[hk',if_false] at hk;exact S.dis j k b hjk hj hk
  · by_cases hj:j=i
    · subst hj
      rcases hσ with⟨⟨_,h⟩,hz'⟩ | ⟨⟨dd,h⟩,hz'⟩
      · rw[List.getElem?_set_self hi,hz'] at e'
        rcases e' with e' | ⟨_,e'⟩<;>cases e'
      · exact S.fix j (.inr ⟨dd,h⟩)
    · rw[List.getElem?_set_ne (Ne.symm hj)] at e'
      exact S.fix j e'
  · obtain⟨h1,h2⟩:=S.fixed j w h
    refine⟨h1,?_⟩
    by_cases hj:j=i
    · subst hj
      rw[List.getElem?_set_self hi]
      rcases hσ with⟨⟨_,h⟩,hz'⟩ | ⟨⟨_,h⟩,hz'⟩
      · rw[h] at h2;rcases h2 with h2 | ⟨_,h2⟩<;>cases h2
      · exact .inr ⟨d2,by rw[hz']⟩
    · rw[List.getElem?_set_ne (Ne.symm hj)];exact h2
 refine⟨?_,.refl _,fun b o n h=>hH b o (fun z=>n (.inl ⟨i,z⟩)) h,fun b ⟨j,h⟩=>?_,fun _ _ h=>.inl h⟩
 · unfold upSl at e
   split at e
   · rename_i d q;cases e;exact key (.v d2) rfl (.inl ⟨⟨d,q⟩,rfl⟩)
   · rename_i d q;cases e;exact key (.x d2) rfl (.inr ⟨⟨d,q⟩,rfl⟩)
   · cases e
 · by_cases hj:j=i
   · simp only[hj,if_true] at h
     rcases hn b h with q | q | q
     · exact .inl (.inl ⟨i,q⟩)
     · exact .inl (.inr q)
     · exact .inr q
   · simp only[hj,if_false] at h
     exact .inl (.inl ⟨j,h⟩)
theorem Own.sub_upd{P H:Hp}{a:Addr}{o:HO}(s:Sub P H)(h:P a=none):Sub P (upd H a o):=fun b w e=>by rw[Zan (Zak e h)];exact s b w e
theorem Own.app{P H:Hp}{g g0:Fp}{ds:List D}{d0:D}{v v0:V}(h:Own K mg P H g (.lst ds) v)(h0:Own K mg P H g0 d0 v0)(dj:∀b,g b -> ¬g0 b) :
 ∃a vs,v=.ref a/\g a/\P a=none/\H a=some (.lst vs)/\ds.length=vs.length/\Own K mg P (upd H a (.lst (vs++[v0]))) (fun b=>g b\/g0 b) (.lst (ds++[d0])) v:=by
 cases h with
 | @lst _ gs _ a vs h1 h2 h3 h4 h5 h6 h7 h8=>
  have ga:g a:=(h8 a).mpr (.inl rfl)
  refine⟨a,vs,rfl,ga,h2,h1,h3,?_⟩
  refine .lst (gs:=fun i=>if i=ds.length then g0 else gs i) ZaA h2 (by simp[h3]) (fun i d v e e'=>?_) (fun i z=>?_) (fun i j b hij hi hj=>?_) (fun i b hle z=>?_) fun b=>?_
  · by_cases hi:i<ds.length
    · rw[List.getElem?_append_left hi] at e
      rw[List.getElem?_append_left (h3▸hi)] at e'
      simp only[Nat.ne_of_lt hi,if_false]
      have q:=h4 i d v e e'
      refine q.frame (.refl _) (fun b w z y=>?_) fun b z=>(q.at b z).2
      rw[Zan (fun z2=>h5 i (by rw[<- z2];exact z))];exact y
    · have hi2:i=ds.length:=by have:=Zcn e;simp at this;omega
      subst hi2
      rw[List.getElem?_append_right (Nat.le_refl _),Nat.sub_self] at e
      rw[h3,List.getElem?_append_right (Nat.le_refl _),Nat.sub_self] at e'
      cases e;cases e'
      simp only[if_true]
      refine h0.frame (.refl _) (fun b w z y=>?_) fun b z=>(h0.at b z).2
      rw[Zan (fun z2=>dj a ga (by rw[<- z2];exact z))];exact y
  · by_cases hi:i=ds.length
    · simp only[hi,if_true] at z;exact dj a ga z
    · simp only[hi,if_false] at z;exact h5 i z
  · by_cases hi':i=ds.length
    · by_cases hj':j=ds.length
      · exact hij (hi'.trans hj'.symm)
      · simp only[hi',if_true] at hi
        simp only[hj',if_false] at hj
        exact dj b ((h8 b).mpr (.inr ⟨j,hj⟩)) hi
    · simp only[hi',if_false] at hi
      by_cases hj':j=ds.length
      · simp only[hj',if_true] at hj;exact dj b ((h8 b).mpr (.inr ⟨i,hi⟩)) hj
      · simp only[hj',if_false] at hj;exact h6 i j b hij hi hj
  · have hi:i≠ds.length:=by simp at hle;omega
    simp only[hi,if_false] at z
    exact h7 i b (by simp at hle;omega) z
  · rw[h8 b]
    constructor
    · rintro((z | ⟨i,z⟩) | z)
      · exact .inl z
      · refine .inr ⟨i,?_⟩
        by_cases hi:i=ds.length
        · exact absurd z (h7 i b (by omega))
        · simp only[hi,if_false];exact z
      · exact .inr ⟨ds.length,by simp only[if_true];exact z⟩
    · rintro(z | ⟨i,z⟩)
      · exact .inl (.inl z)
      · by_cases hi:i=ds.length
        · simp only[hi,if_true] at z;exact .inr z
        · simp only[hi,if_false] at z;exact .inl (.inr ⟨i,z⟩)
theorem Own.setAt{P H H2:Hp}{g g0 gk:Fp}{gs:Nat->Fp}{ds:List D}{d0:D}{a:Addr}{vs vs2:List V}{k:Nat}{v0:V}(h2:P a=none)(h3:ds.length=vs.length)
 (h4:∀(i:Nat) d v,ds[i]? = some d->vs[i]? = some v->Own K mg P H (gs i) d v) (h5:∀i,¬gs i a) (h6:∀i j b,i≠j->gs i b -> ¬gs j b) (h7:∀i b,ds.length<=i -> ¬gs i b)
 (hk:k<ds.length) (hv:vs2=vs.set k v0) (ha:H2 a=some (.lst vs2)) (hH:∀b o,b≠a -> ¬gs k b->H b=some o->H2 b=some o) (o0:Own K mg P H2 g0 d0 v0) (f1:¬g0 a) (f2:∀i b,i≠k->gs i b -> ¬g0 b) :
 Own K mg P H2 (fun b=>b=a\/(∃i,i≠k/\gs i b)\/g0 b) (.lst (ds.set k d0)) (.ref a):=by
 subst hv
 refine .lst (gs:=fun i=>if i=k then g0 else gs i) ha h2 (by simp[h3]) (fun i d v e e'=>?_) (fun i z=>?_) (fun i j b hij hi hj=>?_) (fun i b hle z=>?_) fun b=>?_
 · by_cases hi:i=k
   · subst hi
     rw[List.getElem?_set_self hk] at e
     rw[List.getElem?_set_self (h3▸hk)] at e'
     cases e;cases e'
     simp only[if_true]
     exact o0
   · rw[List.getElem?_set_ne (Ne.symm hi)] at e e'
     simp only[hi,if_false]
     have q:=h4 i d v e e'
     exact q.frame (.refl _) (fun b w z y=>hH b w (fun z2=>h5 i (by rw[<- z2];exact z)) (h6 i k b hi z) y) fun b z=>(q.at b z).2
 · by_cases hi:i=k
   · simp only[hi,if_true] at z;exact f1 z
   · simp only[hi,if_false] at z;exact h5 i z
 · by_cases hi':i=k
   · by_cases hj':j=k
     · exact hij (hi'.trans hj'.symm)
     · simp only[hi',if_true] at hi
       simp only[hj',if_false] at hj
       exact f2 j b hj' hj hi
   · simp only[hi',if_false] at hi
     by_cases hj':j=k
     · simp only[hj',if_true] at hj;exact f2 i b hi' hi hj
     · simp only[hj',if_false] at hj;exact h6 i j b hij hi hj
 · have hi:i≠k:=by simp at hle;omega
   simp only[hi,if_false] at z
   exact h7 i b (by simpa using hle) z
 · constructor
   · rintro(z | ⟨i,hi,z⟩ | z)
     · exact .inl z
     · exact .inr ⟨i,by simp only[hi,if_false];exact z⟩
     · exact .inr ⟨k,by simp only[if_true];exact z⟩
   · rintro(z | ⟨i,z⟩)
     · exact .inl z
     · by_cases hi:i=k
       · simp only[hi,if_true] at z;exact .inr (.inr z)
       · simp only[hi,if_false] at z;exact .inr (.inl ⟨i,hi,z⟩)
def sApp(i:Nat)(f:SE):SS:=fun σ=>match (σ[i]?).bind Sl.get with
 | some (.lst _)=>(f σ).th fun d σ1=>(match (σ1[i]?).bind Sl.get with
  | some (.lst ds)=>if ds.length<1000000 then(match upSl i (.lst (ds++[d])) σ1 with
   | some σ2=>.next σ2
   | none=>.bad) else .bad
  | _=>.bad)
 | _=>.bad
theorem Zgw{i:Nat}{t:TE}{f:SE}(h:TEd K mg fx E t f):TSd K mg fx E (Zlw (tBM K "list" ZgH (tVar i) (Zc8 t tNil))) (sApp i f):=by
 intro P H gs σ ν N S post
 unfold sApp at post
 split at post
 · rename_i ds0 e0
   obtain⟨v,hv,o⟩:=S.slot i _ e0
   refine⟨v,hv,?_,?_⟩
   · cases o with
     | lst h1=>exact .inl ⟨rfl,_,.of h1⟩
   · refine h P H gs σ ν _ S ?_
     cases e:f σ with
     | bad=>rw[e] at post;exact post
     | exc c σ1=>rw[e] at post;exact PostS.x post
     | ok d σ1=>
      rw[e] at post
      dsimp only[Out.th] at post
      intro P1 H1 gs1 g1 v1 s1 S1 o1 dj1
      split at post
      · rename_i ds e1
        obtain⟨v',hv',o'⟩:=S1.slot i _ e1
        rw[hv] at hv'
        cases hv'
        obtain⟨a,vs,rfl,ga,hP,ha,hl,on⟩:=o'.app o1 fun b z y=>dj1 b ⟨i,z⟩ y
        split at post
        · rename_i hz
          split at post
          · rename_i σ2 e2
            refine⟨a,vs,v1,rfl,rfl,ha,by rw[<- hl];exact Nat.lt_trans hz (by decide),?_⟩
            obtain⟨S2,s2⟩:=S1.mut e2 hv dj1 (fun b w n z=>by rw[Zan (fun q=>n (by rw[q];exact ga))];exact z) (Own.sub_upd S1.sub hP) on fun b z=>z.elim .inl fun q=>.inr (.inl q)
            exact post P1 _ _ ν (s1.trans s2) S2
          · exact post.elim
        · exact post.elim
      · exact post.elim
 · exact post.elim
end DL
set_option autoImplicit false
namespace DL
open PySem L2
variable{K:PySem.W.Frag}{mg:Str->Option Value}{fx:Nat->Option V}{E:XK}
abbrev SB:=Env'->Option D
abbrev SP:=Env'->Option T
variable(K mg)
def TBd(fx:Nat->Option V)(t:TE)(f:SB):Prop:=∀P H gs σ ν Q,StOk K mg fx P H gs σ ν->(match f σ with | some d=>∀g v,Own K mg P H g d v->(∀b,g b->tot gs b)->Q v H | none=>False)->t ν H Q
def TPd(fx:Nat->Option V)(t:TE)(f:SP):Prop:=∀P H gs σ ν Q,StOk K mg fx P H gs σ ν->(match f σ with | some x=>∀v,Den K mg P x v->Q v H | none=>False)->t ν H Q
variable{K mg}
def bVar(i:Nat):SB:=fun σ=>(σ[i]?).bind Sl.get
theorem Zel{i:Nat}:TBd K mg fx (tVar i) (bVar i):=by
 intro P H gs σ ν Q S post
 unfold bVar at post
 split at post
 · rename_i d e
   obtain⟨v,hv,o⟩:=S.slot i d e
   exact⟨v,hv,post _ v o fun b h=>⟨i,h⟩⟩
 · exact post.elim
def fldD(c f:Str):D->Option D
 | .obj c' fs=>if c'=c then fs.lookup f else none
 | .t (.ins c' fs)=>if c'=c then(fs.lookup f).map .t else none
 | _=>none
theorem ZfU{α:Type}{f:Str}{d:α}:∀{fs:List (Str×α)},fs.lookup f=some d -> ∃k:Nat,fs[k]? = some (f,d) /\ ∀{β:Type} (ws:List (Str×β)),ws.map (·.1)=fs.map (·.1) -> ∃w,ws[k]? = some (f,w)/\ws.lookup f=some w
 | [],e=>by simp at e
 | (g,x) :: r,e=>by
  rw[List.lookup_cons] at e
  cases q:f == g with
  | true=>
   rw[q] at e
   cases e
   have eg:f=g:=eq_of_beq q
   refine⟨0,by rw[eg];rfl,fun ws hw=>?_⟩
   cases ws with
   | nil=>simp at hw
   | cons p ws=>
    obtain⟨g',w⟩:=p
    simp only[List.map_cons,List.cons.injEq] at hw
    refine⟨w,by rw[hw.1,eg];rfl,?_⟩
    rw[List.lookup_cons,hw.1,q]
  | false=>
   rw[q] at e
   obtain⟨k,h1,h2⟩:=ZfU e
   refine⟨k+1,by simpa using h1,fun ws hw=>?_⟩
   cases ws with
   | nil=>simp at hw
   | cons p ws=>
    obtain⟨g',w⟩:=p
    simp only[List.map_cons,List.cons.injEq] at hw
    obtain⟨w',h3,h4⟩:=h2 ws hw.2
    refine⟨w',by simpa using h3,?_⟩
    rw[List.lookup_cons,hw.1,q]
    exact h4
def FOk(K:PySem.W.Frag)(mg:Str->Option Value)(c f:Str):Prop:=∀C,mg c=some (.ref C)->Cls K C/\NoAttr K C f
def rFld(K:PySem.W.Frag)(f:Str):V->Hp->VK->Prop:=fun x H Q=>∃a C dx fs v,x=.ref a/\H a=some (.ins C dx fs)/\Cls K C/\NoAttr K C f/\fs.lookup f=some v/\Q v H
theorem ZmO{P H:Hp}{g:Fp}{d d':D}{v:V}{c f:Str}{Q:VK}(ok:FOk K mg c f)(s:Sub P H)(o:Own K mg P H g d v)(e:fldD c f d=some d')(k:∀g' w,Own K mg P H g' d' w->(∀b,g' b->g b)->Q w H):rFld K f v H Q:=by
 unfold fldD at e
 split at e
 · split at e
   · rename_i c' fs hc
     subst hc
     cases o with
     | @obj _ gs _ _ a C dx ws h1 h2 h3 h4 h5 h6 h7 h8 h9=>
      obtain⟨i,q1,q2⟩:=ZfU e
      obtain⟨w,q3,q4⟩:=q2 ws h4
      obtain⟨c1,c2⟩:=ok C h3
      exact⟨a,C,dx,ws,w,rfl,h1,c1,c2,q4,k _ w (h5 i f d' w q1 q3) fun b z=>(h9 b).mpr (.inr ⟨i,z⟩)⟩
   · cases e
 · split at e
   · rename_i c' fs hc
     subst hc
     cases o with
     | t hx hg=>
      cases hx with
      | @ins _ _ a C dx ws h1 h3 h4 h5=>
       cases q:fs.lookup f with
       | none=>rw[q] at e;cases e
       | some x=>
        rw[q] at e
        cases e
        obtain⟨i,q1,q2⟩:=ZfU q
        obtain⟨w,q3,q4⟩:=q2 ws h4
        obtain⟨c1,c2⟩:=ok C h3
        exact⟨a,C,dx,ws,w,rfl,s _ _ h1,c1,c2,q4,k (fun _=>False) w (.t (h5 i f x w q1 q3) fun _ h=>h) fun _ h=>h.elim⟩
   · cases e
 · cases e
def bFld(c f:Str)(b:SB):SB:=fun σ=>(b σ).bind (fldD c f)
theorem ZmP{c f:Str}{t:TE}{b:SB}(ok:FOk K mg c f)(h:TBd K mg fx t b):TBd K mg fx (tFld K t f) (bFld c f b):=by
 intro P H gs σ ν Q S post
 unfold bFld at post
 refine h P H gs σ ν _ S ?_
 cases e:b σ with
 | none=>rw[e] at post;exact post
 | some d=>
  rw[e] at post
  dsimp only[Option.bind] at post ⊢
  intro g v o hg
  cases e2:fldD c f d with
  | none=>rw[e2] at post;exact post.elim
  | some d'=>
   rw[e2] at post
   exact ZmO ok S.sub o e2 fun g' w o' hs=>post g' w o' fun b z=>hg b (hs b z)
def oFld(c f:Str):T->Option D
 | .ins c' fs=>if c'=c then(fs.lookup f).map .t else none
 | _=>none
theorem ZpE{c f:Str}(ok:FOk K mg c f):UnD K mg (rFld K f) (oFld c f):=by
 intro P H x v d Q s hx e k
 unfold oFld at e
 split at e
 · rename_i c' fs
   refine ZmO (d:=.t (.ins c' fs)) (d':=d) ok s (.t hx fun _ h=>h) e fun g' w o' _=>?_
   split at e
   · cases q:fs.lookup f with
     | none=>rw[q] at e;cases e
     | some x=>
      rw[q] at e
      cases e
      cases o' with
      | t h1 _=>exact done s h1 k
   · cases e
 · cases e
theorem ZaU{c f:Str}{t:TE}{fa:SE}(ok:FOk K mg c f)(h:TEd K mg fx E t fa):TEd K mg fx E (tFld K t f) (e1 (oFld c f) fa):=Zhx (r:=rFld K f) (ZpE ok) h
def pC(x:T):SP:=fun _=>some x
theorem Zl2{x:T}{v:V}(h:∀P,Den K mg P x v):TPd K mg fx (tC v) (pC x):=fun P H gs σ ν Q S post=>post v (h P)
def pB(b:SB):SP:=fun σ=>(b σ).bind fun | .t x=>some x | _=>none
theorem tp_b{t:TE}{b:SB}(h:TBd K mg fx t b):TPd K mg fx t (pB b):=by
 intro P H gs σ ν Q S post
 unfold pB at post
 refine h P H gs σ ν _ S ?_
 cases e:b σ with
 | none=>rw[e] at post;exact post
 | some d=>
  rw[e] at post
  intro g v o _
  cases d with
  | t x=>cases o with
   | t h1 _=>exact post v h1
  | _=>exact post.elim
def lenD:D->Option T
 | .lst ds=>some (.int ds.length)
 | .t x=>(match items x with
  | some ts=>some (.int ts.length)
  | none=>none)
 | _=>none
def pLen(b:SB):SP:=fun σ=>(b σ).bind lenD
theorem ZpF{t:TE}{b:SB}(h:TBd K mg fx t b):TPd K mg fx (tCB (rLen K) (Zc8 t tNil)) (pLen b):=by
 intro P H gs σ ν Q S post
 unfold pLen at post
 refine h P H gs σ ν _ S ?_
 cases e:b σ with
 | none=>rw[e] at post;exact post
 | some d=>
  rw[e] at post
  intro g v o _
  dsimp only[Option.bind] at post
  cases d with
  | t x=>
   simp only[lenD] at post
   cases q:items x with
   | none=>rw[q] at post;exact post.elim
   | some ts=>
    rw[q] at post
    cases o with
    | t h1 _=>
     obtain⟨p,vs,rfl,a1,a2,a3⟩:=Zeb h1 q
     exact .inl ⟨p,vs,rfl,Zdo S.sub a1,by rw[<- a2];exact post _ .int⟩
  | lst ds=>
   cases o with
   | lst h1 h2 h3=>exact .inl ⟨_,_,rfl,.inl (.of h1),by rw[<- h3];exact post _ .int⟩
  | _=>exact post.elim
def p2(op:T->T->Option D)(f g:SP):SP:=fun σ=>(f σ).bind fun x=>(g σ).bind fun y=>(op x y).bind fun | .t z=>some z | _=>none
def pNeg(f:SP):SP:=fun σ=>(f σ).bind fun | .int i=>some (.int (-i)) | _=>none
theorem ZpG{t:TE}{f:SP}(h:TPd K mg fx t f):TPd K mg fx (tUn (rU fun i=>.int (-i)) t) (pNeg f):=by
 intro P H gs σ ν Q S post
 unfold pNeg at post
 refine h P H gs σ ν _ S ?_
 cases e:f σ with
 | none=>rw[e] at post;exact post
 | some x=>
  rw[e] at post
  intro v hx
  cases x with
  | int i=>cases hx;exact⟨i,rfl,post _ .int⟩
  | _=>exact post.elim
def eP(f:SP):SE:=fun σ=>match f σ with
 | some x=>.ok (.t x) σ
 | none=>.bad
theorem td_p{t:TE}{f:SP}(h:TPd K mg fx t f):TEd K mg fx E t (eP f):=by
 intro P H gs σ ν Q S post
 unfold eP at post
 refine h P H gs σ ν _ S ?_
 cases e:f σ with
 | none=>rw[e] at post;exact post
 | some x=>
  rw[e] at post
  intro v hx
  exact okT post .refl S hx
def ixD:D->Int->Option T
 | .lst ds,k=>(atI ds k).bind fun | .t x=>some x | _=>none
 | .t x,k=>(match items x with
  | some ts=>atI ts k
  | none=>none)
 | _,_=>none
def pIx(b:SB)(f:SP):SP:=fun σ=>(b σ).bind fun d=>(f σ).bind fun | .int k=>ixD d k | _=>none
theorem Zn6{ds:List D}{vs:List V}{k:Int}{d:D}(hl:ds.length=vs.length)(e:atI ds k=some d):∃(j:Nat) (v:V),ds[j]? = some d/\vs[j]? = some v/\atI vs k=some v:=by
 unfold atI at e ⊢
 rw[<- hl]
 cases q:ixN ds.length k with
 | none=>rw[q] at e;cases e
 | some j=>
  rw[q] at e
  obtain⟨v,hv⟩:=Zdk (hl▸Zcn e)
  exact⟨j,v,e,hv,hv⟩
theorem Zn7{t u:TE}{b:SB}{f:SP}(h:TBd K mg fx t b)(h':TPd K mg fx u f):TPd K mg fx (tOp (Zn4 K) t u) (pIx b f):=by
 intro P H gs σ ν Q S post
 unfold pIx at post
 refine h P H gs σ ν _ S ?_
 cases e:b σ with
 | none=>rw[e] at post;exact post
 | some d=>
  rw[e] at post
  intro g v o _
  refine h' P H gs σ ν _ S ?_
  cases e2:f σ with
  | none=>rw[e2] at post;exact post
  | some y=>
   rw[e2] at post
   intro w hy
   dsimp only[Option.bind] at post
   cases y with
   | int k=>
    cases hy
    dsimp only at post
    cases d with
    | t x=>
     simp only[ixD] at post
     cases q:items x with
     | none=>rw[q] at post;exact post.elim
     | some ts=>
      rw[q] at post
      dsimp only at post
      cases o with
      | t h1 _=>
       obtain⟨p,vs,rfl,a1,a2,a3⟩:=Zeb h1 q
       cases q2:atI ts k with
       | none=>rw[q2] at post;exact post.elim
       | some z=>
        rw[q2] at post
        obtain⟨u,hu,dn⟩:=Zkj a2 a3 q2
        rcases Zdo (K:=K) S.sub a1 with y | y
        · exact .inl ⟨p,vs,k,u,rfl,rfl,y,hu,post u dn⟩
        · exact .inr ⟨p,vs,k,u,rfl,rfl,y,hu,post u dn⟩
    | lst ds=>
     simp only[ixD] at post
     cases o with
     | lst h1 h2 h3 h4=>
      cases q2:atI ds k with
      | none=>rw[q2] at post;exact post.elim
      | some z=>
       rw[q2] at post
       cases z with
       | t x=>
        obtain⟨j,u,k1,k2,k3⟩:=Zn6 h3 q2
        have ou:=h4 j _ u k1 k2
        cases ou with
        | t dn _=>exact .inl ⟨_,_,k,u,rfl,rfl,.of h1,k3,post u dn⟩
       | _=>exact post.elim
    | _=>exact post.elim
   | _=>exact post.elim
def putD(f:Str)(d:D):List (Str×D)->List (Str×D)
 | []=>[(f,d)]
 | (g,x) :: r=>if g=f then(g,d) :: r else(g,x) :: putD f d r
end DL
set_option autoImplicit false
namespace DL
open PySem L2
variable{K:PySem.W.Frag}{mg:Str->Option Value}{fx:Nat->Option V}{E:XK}
theorem ZgL{f:Str}{d:D}:∀{fs:List (Str×D)},fs.lookup f=some d -> ∃k:Nat,fs[k]? = some (f,d)/\(∀d2,putD f d2 fs=fs.set k (f,d2))/\(∀ws:List (Str×V),ws.map (·.1)=fs.map (·.1) -> ∃w,ws[k]? = some (f,w)/\ws.lookup f=some w /\ ∀y,putF f y ws=ws.set k (f,y))
 | [],e=>by simp at e
 | (g,x) :: r,e=>by
  rw[List.lookup_cons] at e
  cases q:f == g with
  | true=>
   rw[q] at e
   cases e
   have eg:f=g:=eq_of_beq q
   subst eg
   refine⟨0,rfl,fun d2=>by simp[putD],fun ws hw=>?_⟩
   cases ws with
   | nil=>simp at hw
   | cons p ws=>
    obtain⟨g',w⟩:=p
    simp only[List.map_cons,List.cons.injEq] at hw
    obtain⟨rfl,hw⟩:=hw
    exact⟨w,rfl,by rw[List.lookup_cons,q],fun y=>by simp[putF]⟩
  | false=>
   rw[q] at e
   have ng:¬g=f:=fun z=>by rw[z] at q;simp at q
   obtain⟨k,h1,h2,h3⟩:=ZgL e
   refine⟨k+1,by simpa using h1,fun d2=>by rw[putD,if_neg ng,h2 d2];rfl,fun ws hw=>?_⟩
   cases ws with
   | nil=>simp at hw
   | cons p ws=>
    obtain⟨g',w⟩:=p
    simp only[List.map_cons,List.cons.injEq] at hw
    obtain⟨rfl,hw⟩:=hw
    obtain⟨w',h4,h5,h6⟩:=h3 ws hw
    exact⟨w',by simpa using h4,by rw[List.lookup_cons,q];exact h5,fun y=>by rw[putF,if_neg ng,h6 y];rfl⟩
theorem ZiF{f:Str}{d2:D}:∀{fs:List (Str×D)},fs.lookup f=none->putD f d2 fs=fs++[(f,d2)] /\ ∀ws:List (Str×V),ws.map (·.1)=fs.map (·.1) -> ∀y,putF f y ws=ws++[(f,y)]
 | [],e=>⟨rfl,fun ws hw y=>by cases ws with | nil=>rfl | cons p ws=>simp at hw⟩
 | (g,x) :: r,e=>by
  rw[List.lookup_cons] at e
  cases q:f == g with
  | true=>rw[q] at e;cases e
  | false=>
   rw[q] at e
   have ng:¬g=f:=fun z=>by rw[z] at q;simp at q
   obtain⟨h1,h2⟩:=ZiF (d2:=d2) e
   refine⟨by rw[putD,if_neg ng,h1];rfl,fun ws hw y=>?_⟩
   cases ws with
   | nil=>simp at hw
   | cons p ws=>
    obtain⟨g',w⟩:=p
    simp only[List.map_cons,List.cons.injEq] at hw
    obtain⟨rfl,hw⟩:=hw
    rw[putF,if_neg ng,h2 ws hw y];rfl
theorem ZiG{α:Type}{fs:List (Str×α)}{k:Nat}{f:Str}{d x:α}(h:fs[k]? = some (f,d)):(fs.set k (f,x)).map (·.1)=fs.map (·.1):=by
 apply List.ext_getElem?
 intro i
 rw[List.getElem?_map,List.getElem?_map]
 by_cases hi:i=k
 · subst hi;rw[List.getElem?_set_self (Zcn h),h];rfl
 · rw[List.getElem?_set_ne (Ne.symm hi)]
theorem Own.setFld{P H H2:Hp}{gs:Nat->Fp}{c f:Str}{fs:List (Str×D)}{ws:List (Str×V)}{a C dx:Addr}{k:Nat}{d d0:D}{w v0:V}{g0:Fp}(h2:P a=none)(h3:mg c=some (.ref C))(h4:ws.map (·.1)=fs.map (·.1))
 (h5:∀(i:Nat) f d w,fs[i]? = some (f,d)->ws[i]? = some (f,w)->Own K mg P H (gs i) d w) (h6:∀i,¬gs i a) (h7:∀i j b,i≠j->gs i b -> ¬gs j b) (h8:∀i b,fs.length<=i -> ¬gs i b)
 (q1:fs[k]? = some (f,d)) (q4:ws[k]? = some (f,w)) (ha:H2 a=some (.ins C dx (ws.set k (f,v0)))) (hH:∀b o,b≠a -> ¬gs k b->H b=some o->H2 b=some o) (o0:Own K mg P H2 g0 d0 v0) (f1:¬g0 a) (f2:∀i b,i≠k->gs i b -> ¬g0 b) :
 Own K mg P H2 (fun b=>b=a\/(∃i,i≠k/\gs i b)\/g0 b) (.obj c (fs.set k (f,d0))) (.ref a):=by
 refine .obj (gs:=fun i=>if i=k then g0 else gs i) ha h2 h3 (by rw[ZiG q4,ZiG q1];exact h4) (fun i f' d' w' e e'=>?_) (fun i z=>?_) (fun i j b hij hi hj=>?_) (fun i b hle z=>?_) fun b=>?_
 · by_cases hi:i=k
   · subst hi
     rw[List.getElem?_set_self (Zcn q1)] at e
     rw[List.getElem?_set_self (Zcn q4)] at e'
     cases e;cases e'
     simp only[if_true]
     exact o0
   · rw[List.getElem?_set_ne (Ne.symm hi)] at e e'
     simp only[hi,if_false]
     have q:=h5 i f' d' w' e e'
     exact q.frame (.refl _) (fun b w z y=>hH b w (fun z2=>h6 i (by rw[<- z2];exact z)) (h7 i k b hi z) y) fun b z=>(q.at b z).2
 · by_cases hi:i=k
   · simp only[hi,if_true] at z;exact f1 z
   · simp only[hi,if_false] at z;exact h6 i z
 · by_cases hi':i=k
   · by_cases hj':j=k
     · exact hij (hi'.trans hj'.symm)
     · simp only[hi',if_true] at hi
       simp only[hj',if_false] at hj
       exact f2 j b hj' hj hi
   · simp only[hi',if_false] at hi
     by_cases hj':j=k
     · simp only[hj',if_true] at hj;exact f2 i b hi' hi hj
     · simp only[hj',if_false] at hj;exact h7 i j b hij hi hj
 · have hi:i≠k:=by have:=Zcn q1;simp at hle;omega
   simp only[hi,if_false] at z
   exact h8 i b (by simpa using hle) z
 · constructor
   · rintro(z | ⟨i,hi,z⟩ | z)
     · exact .inl z
     · exact .inr ⟨i,by simp only[hi,if_false];exact z⟩
     · exact .inr ⟨k,by simp only[if_true];exact z⟩
   · rintro(z | ⟨i,z⟩)
     · exact .inl z
     · by_cases hi:i=k
       · simp only[hi,if_true] at z;exact .inr (.inr z)
       · simp only[hi,if_false] at z;exact .inr (.inl ⟨i,hi,z⟩)
theorem Own.inField{P H:Hp}{g:Fp}{c f:Str}{fs:List (Str×D)}{d:D}{v:V}(h:Own K mg P H g (.obj c fs) v)(e:fs.lookup f=some d) :
 ∃a C dx ws w gk,v=.ref a/\H a=some (.ins C dx ws)/\mg c=some (.ref C)/\ws.lookup f=some w/\Own K mg P H gk d w/\(∀b,gk b->g b) /\ ∀H2 g2 d2 (g0:Fp),(∀b o,¬gk b->H b=some o->H2 b=some o)->Own K mg P H2 g2 d2 w->(∀b,g2 b->gk b\/g0 b\/H b=none)->(∀b,g b -> ¬g0 b) ->
  ∃g',Own K mg P H2 g' (.obj c (putD f d2 fs)) v /\ ∀b,g' b->g b\/g0 b\/H b=none:=by
 have at_:=h.at
 cases h with
 | @obj _ gs _ _ a C dx ws h1 h2 h3 h4 h5 h6 h7 h8 h9=>
  obtain⟨k,q1,q2,q3⟩:=ZgL e
  obtain⟨w,q4,q5,_⟩:=q3 ws h4
  have ga:g a:=(h9 a).mpr (.inl rfl)
  have gi:∀i b,gs i b->g b:=fun i b z=>(h9 b).mpr (.inr ⟨i,z⟩)
  refine⟨a,C,dx,ws,w,gs k,rfl,h1,h3,q5,h5 k f d w q1 q4,gi k,fun H2 g2 d2 g0 hH o2 hn hg0=>?_⟩
  rw[q2 d2]
  have far:∀b,g b -> ¬gs k b -> ¬g2 b:=fun b z y x=>by
   rcases hn b x with q | q | q
   · exact y q
   · exact hg0 b z q
   · obtain⟨⟨o,w⟩,_⟩:=at_ b z
     rw[w] at q;cases q
  have ha2:H2 a=some (.ins C dx (ws.set k (f,w))):=by
   rw[hH a _ (h6 k) h1]
   congr 2
   apply List.ext_getElem?
   intro i
   by_cases hi:i=k
   · subst hi;rw[List.getElem?_set_self (Zcn q4),q4]
   · rw[List.getElem?_set_ne (Ne.symm hi)]
  refine⟨_,Own.setFld h2 h3 h4 h5 h6 h7 h8 q1 q4 ha2 (fun b o _ n z=>hH b o n z) o2 (far a ga (h6 k)) (fun i b hi z=>far b (gi i b z) (h7 i k b hi z)),fun b z=>?_⟩
  rcases z with z | ⟨i,_,z⟩ | z
  · rw[z];exact .inl ga
  · exact .inl (gi i b z)
  · exact(hn b z).imp (gi k b) id
def Zl3(i:Nat)(c f:Str)(p:SP):SS:=fun σ=>match (σ[i]?).bind Sl.get with
 | some (.obj c' fs)=>if c'=c then(match fs.lookup f with
  | some (.lst ds)=>if ds.length<1000000 then(match p σ with
   | some x=>(match upSl i (.obj c (putD f (.lst (ds++[.t x])) fs)) σ with
    | some σ2=>.next σ2
    | none=>.bad)
   | none=>.bad) else .bad
  | _=>.bad) else .bad
 | _=>.bad
theorem Zn8{i:Nat}{c f:Str}{t:TE}{p:SP}(ok:FOk K mg c f)(h:TPd K mg fx t p):TSd K mg fx E (Zlw (tBM K "list" ZgH (tFld K (tVar i) f) (Zc8 t tNil))) (Zl3 i c f p):=by
 intro P H gs σ ν N S post
 unfold Zl3 at post
 split at post
 · rename_i c' fs e0
   split at post
   · rename_i hc
     subst hc
     split at post
     · rename_i ds e1
       split at post
       · rename_i hz
         split at post
         · rename_i x ep
           split at post
           · rename_i σ2 e2
             obtain⟨v,hv,o⟩:=S.slot i _ e0
             obtain⟨a,C,dx,ws,w,gk,rfl,ha,hm,hl,ok2,hsub,up⟩:=o.inField e1
             obtain⟨c1,c2⟩:=ok C hm
             refine⟨.ref a,hv,a,C,dx,ws,w,rfl,ha,c1,c2,hl,?_,?_⟩
             · cases ok2 with
               | lst q1=>exact .inl ⟨rfl,_,.of q1⟩
             · refine h P H gs σ ν _ S ?_
               rw[ep]
               intro v1 dn
               obtain⟨l,vs,rfl,gl,hP,hl2,hlen,on⟩:=ok2.app (g0:=fun _=>False) (.t dn fun _ h=>h) fun _ _ h=>h
               refine⟨l,vs,v1,rfl,rfl,hl2,by rw[<- hlen];exact Nat.lt_trans hz (by decide),?_⟩
               obtain⟨g',og,hg'⟩:=up (upd H l (.lst (vs++[v1]))) _ _ (fun _=>False) (fun b o n z=>by rw[Zan (fun q=>n (by rw[q];exact gl))];exact z) on (fun b z=>z.elim .inl fun q=>q.elim) fun _ _ h=>h
               obtain⟨S2,s2⟩:=S.mut (g0:=fun _=>False) e2 hv (fun _ _ h=>h) (fun b o n z=>by rw[Zan (fun q=>n (hsub b (by rw[q];exact gl)))];exact z) (Own.sub_upd S.sub hP) og hg'
               exact post P _ _ ν ⟨s2.mono,fun b o n z=>s2.frame b o (fun y=>y.elim n id) z,fun b z=>(s2.new b z).imp (fun y=>y.elim id fun q=>q.elim) id,fun b o z=>(s2.pnew b o z).imp id fun y=>y.imp (fun q=>q.elim id fun r=>r.elim) id⟩ S2
           · exact post.elim
         · exact post.elim
       · exact post.elim
     · exact post.elim
   · exact post.elim
 · exact post.elim
theorem Own.putField{P H:Hp}{g g0:Fp}{c f:Str}{fs:List (Str×D)}{d0:D}{v v0:V}(h:Own K mg P H g (.obj c fs) v)(o0:Own K mg P H g0 d0 v0)(dj:∀b,g b -> ¬g0 b) :
 ∃a C dx ws g',v=.ref a/\g a/\P a=none/\H a=some (.ins C dx ws)/\mg c=some (.ref C)/\ws.length=fs.length/\Own K mg P (upd H a (.ins C dx (putF f v0 ws))) g' (.obj c (putD f d0 fs)) v /\ ∀b,g' b->g b\/g0 b:=by
 cases h with
 | @obj _ gs _ _ a C dx ws h1 h2 h3 h4 h5 h6 h7 h8 h9=>
  have ga:g a:=(h9 a).mpr (.inl rfl)
  have gi:∀i b,gs i b->g b:=fun i b z=>(h9 b).mpr (.inr ⟨i,z⟩)
  have hlen:ws.length=fs.length:=by have:=congrArg List.length h4;simpa using this
  have f1:¬g0 a:=dj a ga
  have o0':Own K mg P (upd H a (.ins C dx (putF f v0 ws))) g0 d0 v0:=o0.frame (.refl _) (fun b w z y=>by rw[Zan (fun q=>f1 (by rw[<- q];exact z))];exact y) fun b z=>(o0.at b z).2
  cases e:fs.lookup f with
  | some d=>
   obtain⟨k,q1,q2,q3⟩:=ZgL e
   obtain⟨w,q4,q5,q6⟩:=q3 ws h4
   refine⟨a,C,dx,ws,fun b=>b=a\/(∃i,i≠k/\gs i b)\/g0 b,rfl,ga,h2,h1,h3,hlen,?_,?_⟩
   · rw[q2 d0]
     exact Own.setFld h2 h3 h4 h5 h6 h7 h8 q1 q4 (by rw[ZaA,q6 v0]) (fun b o n _ z=>by rw[Zan n];exact z) o0' f1 fun i b _ z=>dj b (gi i b z)
   · rintro b (z | ⟨i,_,z⟩ | z)
     · rw[z];exact .inl ga
     · exact .inl (gi i b z)
     · exact .inr z
  | none=>
   obtain⟨q1,q2⟩:=ZiF (d2:=d0) e
   refine⟨a,C,dx,ws,fun b=>g b\/g0 b,rfl,ga,h2,h1,h3,hlen,?_,fun b z=>z⟩
   rw[q1]
   refine .obj (gs:=fun i=>if i=fs.length then g0 else gs i) (by rw[ZaA,q2 ws h4 v0]) h2 h3 (by simp[h4]) (fun i f' d' w' e e'=>?_) (fun i z=>?_) (fun i j b hij hi hj=>?_) (fun i b hle z=>?_) fun b=>?_
   · by_cases hi:i<fs.length
     · rw[List.getElem?_append_left hi] at e
       rw[List.getElem?_append_left (hlen▸hi)] at e'
       simp only[Nat.ne_of_lt hi,if_false]
       have q:=h5 i f' d' w' e e'
       exact q.frame (.refl _) (fun b w z y=>by rw[Zan (fun z2=>h6 i (by rw[<- z2];exact z))];exact y) fun b z=>(q.at b z).2
     · have hi2:i=fs.length:=by have:=Zcn e;simp at this;omega
       subst hi2
       rw[List.getElem?_append_right (Nat.le_refl _),Nat.sub_self] at e
       rw[<- hlen,List.getElem?_append_right (Nat.le_refl _),Nat.sub_self] at e'
       cases e;cases e'
       simp only[if_true]
       exact o0'
   · by_cases hi:i=fs.length
     · simp only[hi,if_true] at z;exact f1 z
     · simp only[hi,if_false] at z;exact h6 i z
   · by_cases hi':i=fs.length
     · by_cases hj':j=fs.length
       · exact hij (hi'.trans hj'.symm)
       · simp only[hi',if_true] at hi
         simp only[hj',if_false] at hj
         exact dj b (gi j b hj) hi
     · simp only[hi',if_false] at hi
       by_cases hj':j=fs.length
       · simp only[hj',if_true] at hj;exact dj b (gi i b hi) hj
       · simp only[hj',if_false] at hj;exact h7 i j b hij hi hj
   · have hi:i≠fs.length:=by simp at hle;omega
     simp only[hi,if_false] at z
     exact h8 i b (by simp at hle;omega) z
   · rw[h9 b]
     constructor
     · rintro((z | ⟨i,z⟩) | z)
       · exact .inl z
       · refine .inr ⟨i,?_⟩
         by_cases hi:i=fs.length
         · exact absurd z (h8 i b (by omega))
         · simp only[hi,if_false];exact z
       · exact .inr ⟨fs.length,by simp only[if_true];exact z⟩
     · rintro(z | ⟨i,z⟩)
       · exact .inl (.inl z)
       · by_cases hi:i=fs.length
         · simp only[hi,if_true] at z;exact .inr z
         · simp only[hi,if_false] at z;exact .inl (.inr ⟨i,z⟩)
def ZhA(i:Nat)(c f:Str)(fa:SE):SS:=fun σ=>(fa σ).th fun d σ1=>match (σ1[i]?).bind Sl.get with
 | some (.obj c' fs)=>if c'=c/\fs.length<1000 then(match upSl i (.obj c (putD f d fs)) σ1 with
  | some σ2=>.next σ2
  | none=>.bad) else .bad
 | _=>.bad
theorem ZfV{i:Nat}{c f:Str}{t:TE}{fa:SE}(ok:FOk K mg c f)(h:TEd K mg fx E t fa):TSd K mg fx E (sFld K (tVar i) t f) (ZhA i c f fa):=by
 intro P H gs σ ν N S post
 unfold ZhA at post
 refine h P H gs σ ν _ S ?_
 cases e:fa σ with
 | bad=>rw[e] at post;exact post
 | exc c σ1=>rw[e] at post;exact PostS.x post
 | ok d σ1=>
  rw[e] at post
  dsimp only[Out.th] at post
  intro P1 H1 gs1 g1 v1 s1 S1 o1 dj1
  split at post
  · rename_i c' fs e1
    split at post
    · rename_i hc
      obtain⟨hc,hz⟩:=hc
      subst hc
      split at post
      · rename_i σ2 e2
        obtain⟨v,hv,o⟩:=S1.slot i _ e1
        obtain⟨a,C,dx,ws,g',rfl,ga,hP,ha,hm,hlen,on,hg'⟩:=o.putField (f:=f) o1 fun b z y=>dj1 b ⟨i,z⟩ y
        obtain⟨c1,c2⟩:=ok C hm
        refine⟨.ref a,hv,a,C,dx,ws,rfl,ha,c1,c2,by omega,?_⟩
        obtain⟨S2,s2⟩:=S1.mut e2 hv dj1 (fun b w n z=>by rw[Zan (fun q=>n (by rw[q];exact ga))];exact z) (Own.sub_upd S1.sub hP) on fun b z=>(hg' b z).imp id .inl
        exact post P1 _ _ ν (s1.trans s2) S2
      · exact post.elim
    · exact post.elim
  · exact post.elim
def Zl4(i:Nat)(fa:SE)(p:SP):SS:=fun σ=>(fa σ).th fun d σ1=>match (σ1[i]?).bind Sl.get,p σ1 with
 | some (.lst ds),some (.int k)=>(match ixN ds.length k with
  | some j=>(match upSl i (.lst (ds.set j d)) σ1 with
   | some σ2=>.next σ2
   | none=>.bad)
  | none=>.bad)
 | _,_=>.bad
theorem Zn9{i:Nat}{t u:TE}{fa:SE}{p:SP}(h:TEd K mg fx E t fa)(h':TPd K mg fx u p):TSd K mg fx E (tAsg t (gSub (tVar i) u Zph)) (Zl4 i fa p):=by
 intro P H gs σ ν N S post
 unfold Zl4 at post
 refine h P H gs σ ν _ S ?_
 cases e:fa σ with
 | bad=>rw[e] at post;exact post
 | exc c σ1=>rw[e] at post;exact PostS.x post
 | ok d σ1=>
  rw[e] at post
  dsimp only[Out.th] at post
  intro P1 H1 gs1 g1 v1 s1 S1 o1 dj1
  split at post
  · rename_i ds k e1 ep
    split at post
    · rename_i j ej
      split at post
      · rename_i σ2 e2
        obtain⟨v,hv,o⟩:=S1.slot i _ e1
        refine⟨v,hv,?_⟩
        refine h' P1 H1 gs1 σ1 ν _ S1 ?_
        rw[ep]
        intro w hw
        cases hw
        cases o with
        | @lst _ gg _ a vs q1 q2 q3 q4 q5 q6 q7 q8=>
         have ga:gs1 i a:=(q8 a).mpr (.inl rfl)
         refine⟨a,vs,k,j,rfl,rfl,q1,by rw[<- q3];exact ej,?_⟩
         have hj:=(Zh0 ej).2.1
         have fa':¬g1 a:=dj1 a ⟨i,ga⟩
         have on:=Own.setAt (H2:=upd H1 a (.lst (vs.set j v1))) (g:=gs1 i) (gk:=fun _=>False) (k:=j) q2 q3 q4 q5 q6 q7 hj rfl ZaA (fun b o n _ z=>by rw[Zan n];exact z) (o1.frame (.refl _) (fun b o z y=>by rw[Zan (fun q=>fa' (by rw[<- q];exact z))];exact y) fun b z=>(o1.at b z).2) fa' fun l b _ z=>dj1 b |> fun f y=>f ⟨i,(q8 b).mpr (.inr ⟨l,z⟩)⟩ y
         obtain⟨S2,s2⟩:=S1.mut e2 hv dj1 (fun b w n z=>by rw[Zan (fun q=>n (by rw[q];exact ga))];exact z) (Own.sub_upd S1.sub q2) on fun b z=>by
          rcases z with z | ⟨l,_,z⟩ | z
          · rw[z];exact .inl ga
          · exact .inl ((q8 b).mpr (.inr ⟨l,z⟩))
          · exact .inr (.inl z)
         exact post P1 _ _ ν (s1.trans s2) S2
      · exact post.elim
    · exact post.elim
  · exact post.elim
end DL
set_option autoImplicit false
namespace DL
open PySem L2
variable{K:PySem.W.Frag}{mg:Str->Option Value}{fx:Nat->Option V}{E:XK}
theorem ZhB{α β:Type}{f:Str}:∀{fs:List (Str×α)}{ws:List (Str×β)},fs.lookup f=none->ws.map (·.1)=fs.map (·.1)->ws.lookup f=none
 | [],[],_,_=>rfl
 | [],_ :: _,_,h=>by simp at h
 | _ :: _,[],_,h=>by simp at h
 | (g,x) :: r,(g',w) :: ws,e,h=>by
  simp only[List.map_cons,List.cons.injEq] at h
  rw[List.lookup_cons] at e ⊢
  rw[h.1]
  cases q:f == g with
  | true=>rw[q] at e;cases e
  | false=>rw[q] at e;exact ZhB e h.2
def Zbs(i:Nat)(c m:Str)(n:Nat)(F:List D->FO)(io:List (Option Nat))(fa:SA):SE:=fun σ=>match (σ[i]?).bind Sl.get with
 | some (.obj c' fs)=>if c'=c/\(fs.lookup m).isNone=true then Zaw n F (some i :: io) (aIo i fa) σ else .bad
 | _=>.bad
theorem ZaW{i:Nat}{c m:Str}{C:Addr}{n:Nat}{F:List D->FO}{io:List (Option Nat)}{ta:TA}{fa:SA}(hC:mg c=some (.ref C))(ha:TLd K mg fx E io ta fa):TEd K mg fx E (ZjJ C m (spF K mg n F) [] E (tVar i) ta) (Zbs i c m n F io fa):=by
 intro P H gs σ ν Q S post
 unfold Zbs at post
 split at post
 · rename_i c' fs e0
   split at post
   · rename_i hc
     obtain⟨hc,hm⟩:=hc
     subst hc
     have hm':fs.lookup m=none:=by
      cases q:fs.lookup m with
      | none=>rfl
      | some z=>rw[q] at hm;cases hm
     obtain⟨v,hv,o⟩:=S.slot i _ e0
     have key:=Zaq (n:=n) (F:=F) (ZgK (i:=i) ha) P H gs σ ν Q S post
     obtain⟨v',hv',key⟩:=key
     rw[hv] at hv'
     cases hv'
     refine⟨v,hv,?_⟩
     cases o with
     | @obj _ gg _ _ a C' dx ws h1 h2 h3 h4=>
      rw[hC] at h3
      cases h3
      refine⟨a,dx,ws,rfl,h1,ZhB hm' h4,?_⟩
      exact key
   · exact post.elim
 · exact post.elim
def ZgM(c:Str)(n:Nat)(F:List D->FO)(fa:SA):SE:=fun σ=>(fa σ).bnd fun ds σ1=>if ds.length+1=n then(match F (.obj c [] :: ds) with
 | .ret (.t .non) (d :: _)=>.ok d σ1
 | _=>.bad) else .bad
theorem ZeX{c:Str}{C:Addr}{n:Nat}{F:List D->FO}{io:List (Option Nat)}{ta:TA}{fa:SA}(hC:mg c=some (.ref C))(ha:TLd K mg fx E io ta fa):TEd K mg fx E (ZjK C (spF K mg n F) [] E ta) (ZgM c n F fa):=by
 intro P H gs σ ν Q S post
 unfold ZgM at post
 refine ha P H gs σ ν _ S ?_
 cases e:fa σ with
 | bad=>rw[e] at post;exact post
 | exc c σ'=>rw[e] at post;exact post
 | ok ds σ1=>
  rw[e] at post
  dsimp only[Out.bnd] at post
  intro P1 H1 gs1 g1 vs s1 S1 o1 dj1 _
  have hn:ds.length+1=n:=Decidable.byContradiction fun z=>by rw[if_neg z] at post;exact post
  rw[if_pos hn] at post
  intro x dx hx hdx hne
  rw[List.append_nil]
  have hPx:=S1.sub.fresh hx
  have hPd:=S1.sub.fresh hdx
  -- the heap with the new instance
  generalize hH':upd (upd H1 dx (.own x)) x (.ins C dx [])=H'
  have up:∀b w,H1 b=some w->H' b=some w:=fun b w z=>by
   rw[<- hH',Zan (Zak z hx),Zan (Zak z hdx)];exact z
  have hx':H' x=some (.ins C dx []):=by rw[<- hH'];exact ZaA
  have sb:Sub P1 H':=fun b w z=>up b w (S1.sub b w z)
  have ox:Own K mg P1 H' (fun b=>b=x) (.obj c []) (.ref x):=.obj (gs:=fun _ _=>False) hx' hPx hC rfl (fun i f d w z=>by simp at z) (fun _ h=>h) (fun _ _ _ _ h=>h.elim) (fun _ _ _ h=>h) fun b=>⟨.inl,fun h=>h.elim id fun ⟨_,z⟩=>z.elim⟩
  have o1':OwnL K mg P1 H' g1 ds vs:=o1.frame (.refl _) (fun b w _ z=>up b w z) fun b z=>(o1.at b z).2
  have nx:¬g1 x:=fun z=>by
   obtain⟨⟨w,q⟩,_⟩:=o1.at x z
   rw[hx] at q;cases q
  refine⟨by rw[List.length_cons,<- o1.len];exact hn,P1,_,_,sb,OwnL.cons ox o1' fun b z y=>nx (by rw[<- show b=x from z];exact y),?_⟩
  cases eF:F (.obj c [] :: ds) with
  | bad=>rw[eF] at post;exact post.elim
  | exc c' ds'=>rw[eF] at post;exact post.elim
  | ret d ds'=>
   rw[eF] at post
   dsimp only at post ⊢
   intro P2 H2 g2 gd v s2 sb2 o2 od dj2
   cases ds' with
   | nil=>exact absurd o2.len (by simp)
   | cons d1 dr=>
    cases d with
    | t z=>
     cases z with
     | non=>
      cases od with
      | t hz _=>
       cases hz
       refine⟨rfl,?_⟩
       obtain⟨gx,gr,ox2,_,_,hg⟩:=o2.uncons
       have S1':StOk K mg fx P1 H' gs1 σ1 ν:=⟨sb,S1.len,fun i d e=>by
        obtain⟨v,q1,q2⟩:=S1.slot i d e
        exact⟨v,q1,q2.frame (.refl _) (fun b w _ z=>up b w z) fun b z=>(q2.at b z).2⟩,S1.emp,S1.dis,S1.fix,S1.fixed⟩
       have far:∀b,tot gs1 b -> ¬(b=x\/g1 b):=fun b z y=>y.elim (fun q=>by
        obtain⟨⟨w,q2⟩,_⟩:=S1.here z
        rw[q,hx] at q2;cases q2) fun q=>dj1 b z q
       have S2:=S1'.go s2 sb2 far
       -- the whole step
       have sA:Go P1 H1 (fun b=>tot gs1 b\/g1 b) P1 H' (fun b=>tot gs1 b\/(b=x\/g1 b)):=⟨.refl _,fun b w _ z=>up b w z,fun b z=>by
        rcases z with z | z | z
        · exact .inl (.inl z)
        · exact .inr (by rw[z];exact hx)
        · exact .inl (.inr z),fun _ _ z=>.inl z⟩
       have sB:=(s1.trans sA).trans (s2.wide (F:=tot gs1))
       refine post P2 H2 gs1 gx (.ref x) ⟨sB.mono,sB.frame,fun b z=>sB.new b ?_,sB.pnew⟩ S2 ox2 fun b z y=>?_
       · rcases z with z | z
         · exact .inl z
         · exact .inr (.inl ((hg b).mpr (.inl z)))
       · rcases s2.new b (.inl ((hg b).mpr (.inl y))) with q | q
         · exact far b z q
         · obtain⟨⟨w,q2⟩,_⟩:=S1'.here z
           rw[q2] at q;cases q
     | _=>exact post.elim
    | _=>exact post.elim
end DL
namespace L2
open PySem PySem.Spec PyProof.Rows PySem.W
theorem ObjOk.here{P:Program}{w:World}{H:Hp}{h:Heap}{a:Addr}{o:HO}(x:ObjOk P w H h a o):∃ob,h.get? a=some ob:=by
 cases o with
 | lst xs=>obtain⟨_,_,_,_,e⟩:=x;exact⟨_,e⟩
 | tup xs=>obtain⟨_,_,_,p⟩:=x;obtain⟨o,e,_⟩:=p;exact⟨_,e⟩
 | dK kvs=>obtain⟨_,_,_,_,o,_,_,e,_⟩:=x;exact⟨_,e⟩
 | dT kvs=>obtain⟨_,_,_,_,o,_,_,e,_⟩:=x;exact⟨_,e⟩
 | set S n=>obtain⟨o,_,_,_,e,_⟩:=x;exact⟨_,e⟩
 | ins C dx fs=>obtain⟨_,_,_,e,_⟩:=x;exact⟨_,e⟩
 | own y=>exact x
 | xd fs=>obtain⟨_,⟨_,_,_,e,_⟩,_⟩:=x;exact⟨_,e⟩
 | rng lo hi=>obtain⟨_,_,_,e⟩:=x;exact⟨_,e⟩
 | frz ob u=>obtain⟨e,_⟩:=x;exact⟨_,e⟩
 | tbl ps=>exact⟨_,show h.get? a=some _ from x⟩
 | met f y=>exact⟨_,show h.get? a=some _ from x⟩
 | ext φ=>obtain⟨_,e,_⟩:=x;exact e
def XC(P:Program)(w:World):CXT:=fun outer H s E e s'=>∃a C t H' B,e=Value.ref a/\s'.os=s.os/\AllBare s'.gens/\Un (frs outer) [] H H' s.heap s'.heap/\HOk P w H' s'.heap/\Heap.FlyingW B outer a (.ref C) (.ref t) s'.heap /\
 H' a=none/\s.heap.get? a=none/\(∀b o,s.heap.get? b=some o->H b=none->b∉frs outer->B.get? b=some o)/\(∀b o u,H' b=some u->s'.heap.get? b=some o->B.get? b=some o) /\
 (∀b o,s.heap.get? b=some o->b∉frs outer -> ∃o',B.get? b=some o')/\E (.ref C) none H'
theorem XC.none{P:Program}{w:World}{outer:List Env}{H:Hp}{s s':Shared}{e:Value}(h:XC P w outer H s E0 e s'):False:=by
 obtain⟨_,_,_,_,_,_,_,_,_,_,_,_,_,_,_,_,q⟩:=h
 exact q
theorem HOk.via{P:Program}{w:World}{H:Hp}{h h':Heap}(x:HOk P w H h)(k:∀b u o,H b=some u->h.get? b=some o->h'.get? b=some o):HOk P w H h':=fun a o e=>
 (x a o e).stay (fun b u hb q=>hb.elim (fun z=>by subst z;exact k b _ u e q) fun z=>k b _ u z q) (fun _ q=>q) fun _ _ q=>q
section
variable{P:Program}{w:World}{K:PySem.W.Frag}{mg:Str->Option Value}{base:Heap}{N:List Str}{qual:Str}{scope:Scope}{f:Addr}{cd:Value}{A:Around}{outer:List Env}{s:Shared}{H:Hp}{E:XK}
theorem Zdv{pins:List (Addr×Obj)}{σ:St}{H1:Hp}{s1:Shared}{e C:Addr}{vs:List Value}{h':Heap}(I:Inv (cxOf (XC P w) P w K mg base N qual scope f cd A outer s H E) pins σ H1 s1)(hx:Heap.MadeExcOf s1.heap h' e (.ref C) vs)(hE:E (.ref C) none H1) :
 (cxOf (XC P w) P w K mg base N qual scope f cd A outer s H E).xe (.ref e) { s1 with heap:=h' }:=by
 have hst:(cxOf (XC P w) P w K mg base N qual scope f cd A outer s H E).stack=envOfC qual scope s.heap.objs.size f cd :: outer:=rfl
 have fr:=I.stack
 rw[hst] at fr
 have hs0:∀b o,s.heap.get? b=some o->b≠s.heap.objs.size:=fun b o q=>Nat.ne_of_lt (Heap.lt_size q)
 have notin:∀b o,s.heap.get? b=some o->b∉frs outer->b∉frs (envOfC qual scope s.heap.objs.size f cd :: outer):=fun b o q n z=>by
  rcases List.mem_cons.mp (show b∈s.heap.objs.size :: frs outer from z) with y | y
  · exact hs0 b o q y
  · exact n y
 have sfree:=I.stkFree
 rw[hst] at sfree
 have keepB:∀b o,s1.heap.get? b=some o->b∉frs (envOfC qual scope s.heap.objs.size f cd :: outer)->(hideAll s1.heap (frs (envOfC qual scope s.heap.objs.size f cd :: outer))).get? b=some o:=fun b o q n=>hideAll_get _ q n
 refine wpAny_leaves_madeW (A:=A.deeper (envOfC qual scope s.heap.objs.size f cd)) (base:=hideAll s1.heap (frs (envOfC qual scope s.heap.objs.size f cd :: outer))) (h:=s1.heap) (I.ok.frames) rfl (fun b o q=>of_hideAll _ q) (funFrames_hide fr fun env he b hb=>List.mem_filterMap.mpr ⟨env,he,hb⟩) hx fun h2 t fl _ _ up=>?_
 have base1:=I.base
 have tr:∀b u,H1 b=some u->b∉frs (envOfC qual scope s.heap.objs.size f cd :: outer):=fun b u q z=>by rw[sfree b z] at q;cases q
 have new:s.heap.get? e=none:=by
  cases q:s.heap.get? e with
  | none=>rfl
  | some o=>
   obtain⟨o',q'⟩:=base1.there e o q (by exact fun z=>nomatch z)
   rw[hx.new] at q';cases q'
 refine⟨e,C,t,H1,_,rfl,I.os,I.bare,⟨fun b o q n hb _=>fl.1 b o (keepB b o (base1.keep b o q n hb (by exact fun z=>nomatch z)) (notin b o q hb)),fun b o q n hb _=>?_,fun b o q n z=>base1.free b o q n (by exact fun z=>nomatch z),fun b o q z=>?_,base1.tups,base1.frzs,base1.tbls⟩,I.hok.via fun b u o q z=>fl.1 b o (keepB b o z (tr b u q)),fl,?_,new,fun b o q n hb=>keepB b o (base1.keep b o q n hb (by exact fun z=>nomatch z)) (notin b o q hb),fun b o u q z=>?_,fun b o q hb=>?_,hE⟩
 · obtain⟨sl,q1⟩:=base1.slot b o q n hb (by exact fun z=>nomatch z)
   obtain⟨_,o2,q2,q3⟩:=fr.mem (show b∈List.filterMap (·.frame) (envOfC qual scope s.heap.objs.size f cd :: outer) from List.mem_cons_of_mem _ hb)
   rw[q1] at q2
   cases q2
   obtain⟨sl2,q4⟩:=up b _ (hx.keeps b _ q1) q3
   exact⟨sl2,q4⟩
 · obtain⟨o1,q1⟩:=base1.there b o q (by exact fun z=>nomatch z)
   by_cases hb:b∈frs (envOfC qual scope s.heap.objs.size f cd :: outer)
   · obtain⟨_,o2,q2,q3⟩:=fr.mem hb
     rw[q1] at q2
     cases q2
     obtain⟨sl2,q4⟩:=up b _ (hx.keeps b _ q1) q3
     exact⟨_,q4⟩
   · exact⟨o1,fl.1 b o1 (keepB b o1 q1 hb)⟩
 · cases q:H1 e with
   | none=>rfl
   | some u=>
    obtain⟨ob,q2⟩:=(I.hok e u q).here
    rw[hx.new] at q2;cases q2
 · obtain⟨o1,q1⟩:=(I.hok b u q).here
   have q2:=keepB b o1 q1 (tr b u q)
   have q3:=fl.1 b o1 q2
   rw[show h2.get? b=some o from z] at q3
   cases q3
   exact q2
 · obtain⟨o1,q1⟩:=base1.there b o q (by exact fun z=>nomatch z)
   exact⟨o1,keepB b o1 q1 (notin b o q hb)⟩
theorem Zaj:ZcM (XC P w) (cxOf (XC P w) P w K mg base N qual scope f cd A outer s H E) E:=by
 intro pins σ H1 s1 e s2 I hx
 obtain⟨a,C,t,H',B,rfl,os,bare,un,hok,fl,na,new,k1,k2,k3,hE⟩:=hx
 have hst:(cxOf (XC P w) P w K mg base N qual scope f cd A outer s H E).stack=envOfC qual scope s.heap.objs.size f cd :: outer:=rfl
 rw[hst] at un fl k1 k3
 have fr:=I.stack
 rw[hst] at fr
 have hs0:∀b o,s.heap.get? b=some o->b≠s.heap.objs.size:=fun b o q=>Nat.ne_of_lt (Heap.lt_size q)
 have notin:∀b o,s.heap.get? b=some o->b∉frs outer->b∉frs (envOfC qual scope s.heap.objs.size f cd :: outer):=fun b o q n z=>by
  rcases List.mem_cons.mp (show b∈s.heap.objs.size :: frs outer from z) with y | y
  · exact hs0 b o q y
  · exact n y
 have base1:=I.base
 have ne:∀b:Addr,b∉(cxOf (XC P w) P w K mg base N qual scope f cd A outer s H E).ex:=fun b z=>nomatch (show b∈([]:List Addr) from z)
 have ne2:∀b:Addr,b∉([]:List Addr):=fun b z=>nomatch z
 refine wpAny_leaves_onW (A:=A.deeper (envOfC qual scope s.heap.objs.size f cd)) (base:=B) (I.ok.frames) rfl fl fun h2 fl2 up=>?_
 have frame:∀b o,s.heap.get? b=some o->H b=none->b∈frs outer -> ∃sl,h2.get? b=some { o with slots:=sl }:=fun b o q n hb=>by
  obtain⟨sl,q1⟩:=base1.slot b o q n hb (ne b)
  have hb':b∈frs (envOfC qual scope s.heap.objs.size f cd :: outer):=List.mem_cons_of_mem _ hb
  obtain⟨sl2,q2⟩:=un.slot b _ q1 (base1.free b o q n (ne b)) hb' (ne2 b)
  obtain⟨_,o3,q3,q4⟩:=fl.2.2.1.mem hb'
  rw[q2] at q3
  cases q3
  obtain⟨sl3,q5⟩:=up b _ q2 q4
  exact⟨sl3,q5⟩
 refine⟨a,C,t,H',B,rfl,os.trans I.os,bare,⟨fun b o q n hb _=>?_,fun b o q n hb _=>frame b o q n hb,fun b o q n _=>?_,fun b o q _=>?_,fun b xs q=>un.tups b xs (base1.tups b xs q),fun b o u q=>un.frzs b o u (base1.frzs b o u q),fun b ps q=>?_⟩,hok.via fun b u o q z=>fl2.1 b o (k2 b o u q z),fl2,na,?_,fun b o q n hb=>k1 b o (base1.keep b o q n hb (ne b)) (base1.free b o q n (ne b)) (notin b o q hb),fun b o u q z=>?_,fun b o q hb=>?_,hE⟩
 · exact fl2.1 b o (k1 b o (base1.keep b o q n hb (ne b)) (base1.free b o q n (ne b)) (notin b o q hb))
 · obtain⟨o1,q1⟩:=base1.there b o q (ne b)
   exact un.free b o1 q1 (base1.free b o q n (ne b)) (ne2 b)
 · by_cases hb:b∈frs outer
   · obtain⟨_,o3,q3,q4⟩:=fl2.2.2.1.mem hb
     exact⟨o3,q3⟩
   · obtain⟨o1,q1⟩:=base1.there b o q (ne b)
     obtain⟨o2,q2⟩:=k3 b o1 q1 (notin b o q hb)
     exact⟨o2,fl2.1 b o2 q2⟩
 · obtain⟨m1,e1⟩:=base1.tbls b ps q
   obtain⟨m2,e2⟩:=un.tbls b _ e1
   exact⟨m1++m2,by rw[e2,Array.append_assoc]⟩
 · cases q:s.heap.get? a with
   | none=>rfl
   | some o=>
    obtain⟨o1,q1⟩:=base1.there a o q (ne a)
    rw[new] at q1;cases q1
 · obtain⟨o1,q1⟩:=(hok b u q).here
   have q2:=k2 b o1 u q q1
   have q3:=fl2.1 b o1 q2
   rw[show h2.get? b=some o from z] at q3
   cases q3
   exact q2
 · obtain⟨o1,q1⟩:=base1.there b o q (ne b)
   exact k3 b o1 q1 (notin b o q hb)
end
end L2
namespace L2
open PySem PySem.Spec PyProof.Rows PySem.W
open PySem.Builtin PySem.Builtin.Str
def ZfW(z:Str):Bool:=decide (z.length<=1000)&&z.cps.toList.all fun c=>decide (c<16 ^ 8)
section
variable{X:Cx}{e:Expr}{es:List Expr}{ta:TE}{pos:Pos}
def ZpH(ta:TE):TE:=fun σ H Q=>ta σ H fun x H1=>∃z,x=.str z/\ZfW z=true /\ ∀y:Str,y.length<=20000->Q (.str y) H1
def ZpI(ta:TE):TE:=fun σ H Q=>ta σ H fun x H1=>∃i:Int,x=.int i/\0<=i/\i<1000000 /\ ∀y:Str,y.length<=20000->Q (.str y) H1
theorem Zl5{z:Str}(h:ZfW z=true):(reprText z).length<=20000:=by
 unfold ZfW at h
 simp only[Bool.and_eq_true,decide_eq_true_eq,List.all_eq_true] at h
 have:=PySem.StrLaws.reprText_len z h.2
 omega
theorem ZfX(ha:PE X e ta):PE X (.FormattedValue e 114 none pos) (ZpH ta):=by
 intro pins s σ H Q I h
 refine wpAny_FormattedValue_repr (thn (ha pins s σ H _ I h) fun u s1 ⟨x,H1,I1,rx,z,ex,hz,q⟩=>?_)
 subst ex
 obtain⟨t,rfl⟩:=rx
 have hl:=Zl5 hz
 have hl2:(reprText z).length<=sizeLine:=Nat.le_trans hl (by decide)
 refine wpAny_pyReprObj_str ?_ hl2
 refine PyProof.Rows.formatField_str (fun t' tk=>?_) hl2
 exact⟨.str _,H1,I1.tok tk,⟨_,rfl⟩,q _ hl⟩
theorem ZfY(ha:PE X e ta):PE X (.FormattedValue e (-1) none pos) (ZpI ta):=by
 intro pins s σ H Q I h
 refine wpAny_FormattedValue_plain (thn (ha pins s σ H _ I h) fun u s1 ⟨x,H1,I1,rx,i,ex,h0,h1,q⟩=>?_)
 subst ex
 obtain⟨t,rfl⟩:=rx
 have hd:i.natAbs.log2<1920:=by
  have:i.natAbs<2 ^ 20:=by omega
  by_cases z:i.natAbs=0
  · rw[z];decide
  · exact Nat.lt_trans ((Nat.log2_lt z).mpr this) (by decide)
 have hl:(Str.ofString (toString i)).length<=20000:=Nat.le_trans (toString_length_le h0 (k:=6) (by decide) (by omega)) (by decide)
 exact wpAny_formatField_int hd ⟨.str _,H1,I1.tok _,⟨_,rfl⟩,q _ hl⟩
abbrev TJ:=St->Hp->Str->(Str->Hp->Prop)->Prop
def PJ(X:Cx)(es:List Expr)(t:TJ):Prop:=∀(pins:List (Addr×Obj)) (s:Shared) (σ:St) (H:Hp) (acc:Str) (Q:Str->Hp->Prop) (R:Str->Shared->Prop),Inv X pins σ H s->(∀out s1 H1,Inv X pins σ H1 s1->Q out H1->R out s1)->t σ H acc Q ->
 Joins (model X.prog X.w) X.A X.xe (evalEach es X.env) acc R s
def jNil:TJ:=fun _ H acc Q=>Q acc H
def ZpJ(te:TE)(t:TJ):TJ:=fun σ H acc Q=>te σ H fun x H1=>∃y,x=.str y/\(acc++y).length<=sizeLine/\t σ H1 (acc++y) Q
theorem Zfi:PJ X [] jNil:=fun _ s _ H acc _ _ I hR h=>hR acc s H I h
theorem Za7{t:TJ}{te:TE}(he:PE X e te)(hr:PJ X es t)(hs:evalEach (e :: es) X.env=eval e X.env :: evalEach es X.env:=by rfl):PJ X (e :: es) (ZpJ te t):=by
 intro pins s σ H acc Q R I hR h
 rw[hs]
 refine thn (he pins s σ H _ I h) fun u s1 ⟨x,H1,I1,rx,y,ex,hl,q⟩=>?_
 subst ex
 obtain⟨t,rfl⟩:=rx
 exact⟨y,t,rfl,hl,hr pins s1 σ H1 (acc++y) Q R I1 hR q⟩
def Zoa(t:TJ):TE:=fun σ H Q=>t σ H Str.empty fun out H1=>out.length<=sizeLine/\Q (.str out) H1
theorem Zd0{e2:Expr}{t:TJ}(h:PJ X (e :: e2 :: es) t):PE X (.JoinedStr (e :: e2 :: es) pos) (Zoa t):=by
 intro pins s σ H Q I hw
 refine wpAny_JoinedStr (h pins s σ H _ _ _ I (fun out s1 H1 I1 q=>?_) hw)
 exact⟨q.1,.str out,H1,I1.tok _,⟨_,rfl⟩,q.2⟩
end
def bmV:List Value:=[.type "ValueError",.type "Exception",.type "BaseException",.type "object"]
structure ExcC(K:PySem.W.Frag)(C:Addr):Prop where
 ok:PySem.W.excIn K C bmV "ValueError.__new__"=true
theorem Zob{K:PySem.W.Frag}{h:Heap}{C:Addr}{bmB:List Value}{newId:String}(X:K.In h)(q:PySem.W.excIn K C bmB newId=true) :
 ∃tl N nm qn bs hdct sn sub ab col dd k0 k1 k2 k3 k5 mN,h.get? C=some (excClassObj nm qn C N bs tl hdct sn sub ab col dd k0 k1 k2 k3 k5 newId)/\h.Ns N mN/\mN "__init__"=none/\OwnTail h bmB tl:=by
 unfold PySem.W.excIn at q
 split at q
 · rename_i dd cd sl ho
   split at q
   · rename_i C' bm k0 k1 k2 k3 n k5 hm hs
     simp only[Bool.and_eq_true,beq_iff_eq,Bool.not_eq_true'] at q
     obtain⟨⟨⟨⟨⟨rfl,rfl⟩,hdel⟩,ht⟩,hok⟩,hni⟩:=q
     obtain⟨nm,bs,mro,ns,qn,hd,sn,sub,ab,col,del⟩:=cd
     dsimp only at hm hdel hok hni
     subst hm hdel
     have hsl:sl=#[k0,k1,k2,k3,some (.builtin n),k5]:=by
      obtain⟨l⟩:=sl
      simp only at hs
      rw[hs]
     subst hsl
     exact⟨bm,ns,nm,qn,bs,hd,sn,sub,ab,col,dd,k0,k1,k2,k3,k5,_,X _ _ ho,.of_isNs (PySem.W.isNs_of_in X hok),PySem.W.nsMap_none_of_in X hok hni,PySem.W.tail_of_in X ht⟩
   · cases q
 · cases q
def ZiH(C:Addr)(E:XK)(te:TE):TS:=fun _ σ H=>te σ H fun x H1=>[x].length=1/\E (.ref C) none H1
section
variable{X:Cx}{e:Expr}{te:TE}{pos np cpos:Pos}{x:Str}{C:Addr}{E:XK}
def ZpK(X:Cx)(E:XK):Prop:=∀(pins:List (Addr×Obj)) (σ:St) (H1:Hp) (s1:Shared) (a C:Addr) (vs:List Value) (h':Heap),Inv X pins σ H1 s1->Heap.MadeExcOf s1.heap h' a (.ref C) vs->E (.ref C) none H1->X.xe (.ref a) { s1 with heap:=h' }
theorem Zl6(hX:ZpK X E)(hc:X.calm=true)(hg:Gl X x)(hm:X.mg x=some (.ref C))(hC:ExcC X.K C)(ha:PE X e te)(hdb:(x == ("__debug__":Str))=false:=by decide)
 (he:starEach [e] X.env=[(false,eval e X.env)]:=by rfl):PS X (.Raise (some (.Call (.Name x np) [e] [] cpos)) none pos) (ZiH C E te):=by
 intro pins s σ H D I h
 obtain⟨tl,N,nm,q,bs,hdct,sn,sub,ab,col,dd,k0,k1,k2,k3,k5,mN,oC,hN,hni,T⟩:=Zob I.ok.mod.kin hC.ok
 refine wpAny_Raise_call_subU (C:=C) (nm:=nm) (q:=q) (N:=N) (bs:=bs) (bm:=tl) (hdct:=hdct) (sn:=sn) (sub:=sub) (ab:=ab) (col:=col) (dd:=dd) (k0:=k0) (k1:=k1) (k2:=k2) (k3:=k3) (k5:=k5)
  PySem.F.excBase_ValueError (by decide +kernel) PySem.F.excBase_ValueError (mN:=mN) (T.hasType PySem.F.excBase_ValueError.hasBase) (I.ok.hd hc) (by rw[he];rfl) hni (ZeT I hg hm ⟨rfl,?_⟩ hdb)
 have hA:PA X [e] (Zc8 te tNil):=Zaa ha Zae he
 have h2:Zc8 te tNil σ H fun vs H1=>vs.length=1/\E (.ref C) none H1:=h
 have hw:=hA cpos pins s σ H _ I h2
 rw[he] at hw ⊢
 refine Calls.evalArgs_plain (wpAny_mono hw (fun us s2 ⟨vs,H2,I2,r,q2⟩=>?_) fun _ _ y=>y)
 have hl:us.length<=sizeLine:=by
  rw[<- r.length,q2.1]
  decide
 exact⟨rfl,hl,I2.bk _ _ oC,hN.keeps I2.bk,T.keeps I2.bk,fun h' a hmd=>hX pins σ H2 s2 a C us h' I2 hmd q2.2⟩
end
end L2
namespace L2
open PySem PySem.Spec PyProof.Rows PySem.W
section
variable{X:Cx}{pins:List (Addr×Obj)}{σ:St}{H:Hp}{s:Shared}
end
abbrev Cx.inx(X:Cx)(a:Addr):Cx:={ X with A:=X.A.mark (some (.ref a)),calm:=false,xe:=fun _ _=>False }
abbrev Cx.tr(X:Cx)(xe:Value->Shared->Prop)(pn:List (Addr×Obj)):Cx:={ X with xe:=xe,pn:=pn }
section
variable{X:Cx}{pins:List (Addr×Obj)}{σ:St}{H:Hp}{s:Shared}
theorem Cx.Ok.inx(ok:X.Ok)(a:Addr):(X.inx a).Ok:=⟨ok.mod,ok.kind,ok.glob,ok.blt,ok.above,ok.inj,ok.has,ok.cab,fun z=>(by cases z),ok.frames,ok.stk,ok.exf,ok.bs,ok.bsz,ok.noex,ok.exfs,ok.funs,ok.frf⟩
theorem Inv.inx(I:Inv X pins σ H s)(a:Addr):Inv (X.inx a) pins σ H s:=⟨I.ok.inx a,I.os,I.bare,I.base,I.loc,I.cell,I.free,I.freeC,I.pin,I.hok,I.len⟩
theorem Inv.tr(I:Inv X pins σ H s)(xe:Value->Shared->Prop):Inv (X.tr xe (X.pn++pins)) [] σ H s:=
 ⟨⟨I.ok.mod,I.ok.kind,I.ok.glob,I.ok.blt,I.ok.above,I.ok.inj,I.ok.has,I.ok.cab,I.ok.hd,I.ok.frames,I.ok.stk,I.ok.exf,I.ok.bs,I.ok.bsz,I.ok.noex,I.ok.exfs,I.ok.funs,I.ok.frf⟩,I.os,I.bare,I.base,I.loc,I.cell,I.free,I.freeC,fun p hp=>I.pin p (by simpa using hp),I.hok,I.len⟩
end
section
variable{X:Cx}{CX:CXT}{k:Nat}{f C:Addr}{fd:FuncData}{ps:List Str}{sp:Sp}{dvs:List V}{ds:List Value}{E:XK}{x m:Str}{p pos apos:Pos}{e o:Expr}{es:List Expr}{ta:TE}{t:TA}{σ0:St}
end
section
variable{X:Cx}{st b0:Stmt}{suite:List Stmt}{x n:Str}{xp hp pos:Pos}{C:Addr}{i:Nat}{tb:St->XK->TS}{th:TS}
end
end L2
set_option autoImplicit false
namespace DL
open PySem L2
variable{K:PySem.W.Frag}{mg:Str->Option Value}{fx:Nat->Option V}{E:XK}
abbrev SU:=Env'->Out Unit
variable(K mg)
def TUs(fx:Nat->Option V)(E:XK)(t:TE)(f:SU):Prop:=∀P H gs σ ν (Q:VK),StOk K mg fx P H gs σ ν->(match f σ with
 | .ok _ σ'=>∀P' H' gs' y,Go P H (tot gs) P' H' (tot gs')->StOk K mg fx P' H' gs' σ' ν->Str.length y<=20000->Q (.str y) H'
 | .exc c σ'=>PostX K mg fx E P H gs ν c σ'
 | .bad=>False)->t ν H Q
def TJd(fx:Nat->Option V)(E:XK)(k:Nat)(t:TJ)(f:SU):Prop:=∀P H gs σ ν acc m (Q:Str->Hp->Prop),StOk K mg fx P H gs σ ν->Str.length acc<=m->m+k*20000<=1000000->(match f σ with
 | .ok _ σ'=>∀P' H' gs' out,Go P H (tot gs) P' H' (tot gs')->StOk K mg fx P' H' gs' σ' ν->Str.length out<=m+k*20000->Q out H'
 | .exc c σ'=>PostX K mg fx E P H gs ν c σ'
 | .bad=>False)->t ν H acc Q
variable{K mg}
def uC:SU:=fun σ=>.ok () σ
theorem ZbL{x:Str}(h:x.length<=20000):TUs K mg fx E (tC (.str x)) uC:=fun P H gs σ ν Q S post=>post P H gs x .refl S h
def ZfZ(f:SE):SU:=fun σ=>(f σ).bnd fun d σ1=>match frz d with
 | .str z=>if ZfW z=true then .ok () σ1 else .bad
 | _=>.bad
theorem Zf0{t:TE}{f:SE}(h:TEd K mg fx E t f):TUs K mg fx E (ZpH t) (ZfZ f):=by
 intro P H gs σ ν Q S post
 unfold ZfZ at post
 refine h.run S (fun c σ' e=>by rw[e] at post;exact post) (fun e=>by rw[e] at post;exact post) fun d σ1 e P1 H1 gs1 v s1 S1 dn=>?_
 rw[e] at post
 dsimp only[Out.bnd] at post
 cases q:frz d with
 | str z=>
  rw[q] at post dn
  dsimp only at post
  cases dn
  by_cases hz:ZfW z=true
  · rw[if_pos hz] at post
    exact⟨z,rfl,hz,fun y hy=>post P1 H1 gs1 y s1 S1 hy⟩
  · rw[if_neg hz] at post;exact post.elim
 | _=>rw[q] at post;exact post.elim
def Zf1(f:SE):SU:=fun σ=>(f σ).bnd fun d σ1=>match frz d with
 | .int i=>if 0<=i/\i<1000000 then .ok () σ1 else .bad
 | _=>.bad
theorem Zf2{t:TE}{f:SE}(h:TEd K mg fx E t f):TUs K mg fx E (ZpI t) (Zf1 f):=by
 intro P H gs σ ν Q S post
 unfold Zf1 at post
 refine h.run S (fun c σ' e=>by rw[e] at post;exact post) (fun e=>by rw[e] at post;exact post) fun d σ1 e P1 H1 gs1 v s1 S1 dn=>?_
 rw[e] at post
 dsimp only[Out.bnd] at post
 cases q:frz d with
 | int z=>
  rw[q] at post dn
  dsimp only at post
  cases dn
  by_cases hz:0<=z/\z<1000000
  · rw[if_pos hz] at post
    exact⟨z,rfl,hz.1,hz.2,fun y hy=>post P1 H1 gs1 y s1 S1 hy⟩
  · rw[if_neg hz] at post;exact post.elim
 | _=>rw[q] at post;exact post.elim
def uSeq(f g:SU):SU:=fun σ=>(f σ).bnd fun _ σ1=>g σ1
theorem Zfj:TJd K mg fx E 0 jNil uC:=fun P H gs σ ν acc m Q S hl hm post=>post P H gs acc .refl S (by omega)
theorem Za8{k:Nat}{te:TE}{t:TJ}{f g:SU}(h:TUs K mg fx E te f)(h':TJd K mg fx E k t g):TJd K mg fx E (k+1) (ZpJ te t) (uSeq f g):=by
 intro P H gs σ ν acc m Q S hl hm post
 unfold uSeq at post
 refine h P H gs σ ν _ S ?_
 cases e:f σ with
 | bad=>rw[e] at post;exact post
 | exc c σ'=>rw[e] at post;exact post
 | ok u σ1=>
  rw[e] at post
  dsimp only[Out.bnd] at post
  intro P1 H1 gs1 y s1 S1 hy
  have hay:Str.length (acc++y)<=m+20000:=by rw[strLen_append];omega
  refine⟨y,rfl,Nat.le_trans hay (Nat.le_trans (by omega) (show 1000000<=sizeLine by decide)),?_⟩
  refine h' P1 H1 gs1 σ1 ν (acc++y) (m+20000) Q S1 hay (by omega) ?_
  cases e2:g σ1 with
  | bad=>rw[e2] at post;exact post
  | exc c σ'=>rw[e2] at post;exact PostX.from post s1
  | ok u2 σ2=>
   rw[e2] at post
   exact fun P2 H2 gs2 out s2 S2 hout=>post P2 H2 gs2 out (s1.trans s2) S2 (by omega)
theorem Zoc{k:Nat}{t:TJ}{f:SU}(h:TJd K mg fx E k t f)(hk:k<=40):∀P H gs σ ν (Q:VK),StOk K mg fx P H gs σ ν->(match f σ with
 | .ok _ σ'=>∀P' H' gs' y,Go P H (tot gs) P' H' (tot gs')->StOk K mg fx P' H' gs' σ' ν->Q (.str y) H'
 | .exc c σ'=>PostX K mg fx E P H gs ν c σ'
 | .bad=>False)->Zoa t ν H Q:=by
 intro P H gs σ ν Q S post
 refine h P H gs σ ν Str.empty 0 _ S (Nat.le_refl 0) (by omega) ?_
 cases e:f σ with
 | bad=>rw[e] at post;exact post
 | exc c σ'=>rw[e] at post;exact post
 | ok u σ1=>
  rw[e] at post
  exact fun P1 H1 gs1 out s1 S1 ho=>⟨Nat.le_trans ho (Nat.le_trans (by omega) (show 1000000<=sizeLine by decide)),post P1 H1 gs1 out s1 S1⟩
def Zcq(c:Str)(f:SU):SS:=fun σ=>(f σ).th fun _ σ1=>.exc c σ1
theorem Zdb{c:Str}{C:Addr}{k:Nat}{t:TJ}{f:SU}(hC:mg c=some (.ref C))(h:TJd K mg fx E k t f)(hk:k<=40):TSd K mg fx E (ZiH C E (Zoa t)) (Zcq c f):=by
 intro P H gs σ ν N S post
 unfold Zcq at post
 refine Zoc h hk P H gs σ ν _ S ?_
 cases e:f σ with
 | bad=>rw[e] at post;exact post
 | exc c σ'=>rw[e] at post;exact PostS.x post
 | ok u σ1=>
  rw[e] at post
  exact fun P1 H1 gs1 y s1 S1=>⟨rfl,post P1 H1 gs1 ν s1 S1 C hC⟩
theorem Zkl{c:Str}{C:Addr}{x:Str}(hC:mg c=some (.ref C)):TSd K mg fx E (ZiH C E (tC (.str x))) (Zcq c uC):=by
 intro P H gs σ ν N S post
 exact⟨rfl,post P H gs ν .refl S C hC⟩
variable(K mg)
variable{K mg}
def clr(i:Nat)(σ:Env'):Option Env':=match σ[i]? with
 | some .e=>some (σ.set i .e)
 | some (.v _)=>some (σ.set i .e)
 | _=>none
theorem StOk.clr{P H:Hp}{gs:Nat->Fp}{σ σ1:Env'}{ν:St}{i:Nat}(S:StOk K mg fx P H gs σ ν)(e:clr i σ=some σ1):StOk K mg fx P H (fun j=>if j=i then fun _=>False else gs j) σ1 (ν.set i none):=by
 have key:(σ[i]? = some .e \/ ∃d,σ[i]? = some (.v d))->StOk K mg fx P H (fun j=>if j=i then fun _=>False else gs j) (σ.set i .e) (ν.set i none):=by
  intro hσ
  have hi:i<σ.length:=by rcases hσ with h | ⟨_,h⟩<;>exact Zcn h
  refine⟨S.sub,by rw[List.length_set,List.length_set];exact S.len,fun j d' e'=>?_,fun j b e'=>?_,fun j k b hjk hj=>?_,fun j e'=>?_,fun j w h=>?_⟩
  · by_cases hj:j=i
    · subst hj
      rw[List.getElem?_set_self hi] at e'
      cases(show(none:Option D)=some d' from e')
    · rw[List.getElem?_set_ne (Ne.symm hj)] at e'
      simp only[hj,if_false]
      obtain⟨w,h1,h2⟩:=S.slot j d' e'
      exact⟨w,by rw[List.getElem?_set_ne (Ne.symm hj)];exact h1,h2⟩
  · by_cases hj:j=i
    · simp only[hj,if_true];exact fun h=>h
    · rw[List.getElem?_set_ne (Ne.symm hj)] at e'
      simp only[hj,if_false]
      exact S.emp j b e'
  · by_cases hj':j=i
    · simp only[hj',if_true] at hj
    · simp only[hj',if_false] at hj
      by_cases hk':k=i
      · simp only[hk',if_true];exact fun h=>h
      · simp only[hk',if_false];exact S.dis j k b hjk hj
  · by_cases hj:j=i
    · subst hj
      rw[List.getElem?_set_self hi] at e'
      rcases e' with e' | ⟨_,e'⟩<;>cases e'
    · rw[List.getElem?_set_ne (Ne.symm hj)] at e'
      obtain⟨w,h1,h2⟩:=S.fix j e'
      exact⟨w,h1,by rw[List.getElem?_set_ne (Ne.symm hj)];exact h2⟩
  · obtain⟨h1,h2⟩:=S.fixed j w h
    by_cases hj:j=i
    · subst hj
      rcases hσ with h | ⟨_,h⟩<;>rw[h] at h2<;>rcases h2 with h2 | ⟨_,h2⟩<;>cases h2
    · exact⟨by rw[List.getElem?_set_ne (Ne.symm hj)];exact h1,by rw[List.getElem?_set_ne (Ne.symm hj)];exact h2⟩
 unfold DL.clr at e
 split at e
 · rename_i q;cases e;exact key (.inl q)
 · rename_i d q;cases e;exact key (.inr ⟨d,q⟩)
 · cases e
def OutS.clr(i:Nat):OutS->OutS
 | .next σ=>(match DL.clr i σ with | some σ1=>.next σ1 | none=>.bad)
 | .brk σ=>(match DL.clr i σ with | some σ1=>.brk σ1 | none=>.bad)
 | .cont σ=>(match DL.clr i σ with | some σ1=>.cont σ1 | none=>.bad)
 | .ret d σ=>(match DL.clr i σ with | some σ1=>.ret d σ1 | none=>.bad)
 | .exc _ _=>.bad
 | .bad=>.bad
def sTry(i:Nat)(subs:List Str)(body suite:SS):SS:=fun σ=>match body σ with
 | .exc c σ1=>if subs.contains c then(match Zag i (.t (.exc c)) σ1 with
  | some σ2=>(suite σ2).clr i
  | none=>.bad) else .bad
 | o=>o
end DL
set_option autoImplicit false
namespace DL
open PySem L2
variable{K:PySem.W.Frag}{mg:Str->Option Value}{fx:Nat->Option V}{E:XK}
def tyN:T->Option String
 | .non=>some "NoneType"
 | .bl _=>some "bool"
 | .int _=>some "int"
 | .str _=>some "str"
 | .lst _=>some "list"
 | .tup _=>some "tuple"
 | .dct _=>some "dict"
 | _=>none
theorem ZmQ{P H:Hp}{x:T}{v:V}{n:String}(s:Sub P H)(h:Den K mg P x v)(e:tyN x=some n):TyOf K H v (.type n):=by
 cases h with
 | non=>cases e;exact .non
 | bl=>cases e;exact .bl _
 | int=>cases e;exact .int _
 | str=>cases e;exact .str _
 | scr h1=>cases e
 | lst h1=>cases e;exact .lst (s _ _ h1)
 | tup h1=>cases e;exact .tup (s _ _ h1)
 | dct h1=>cases e;exact .dK (s _ _ h1)
 | ins=>cases e
 | exc=>cases e
def Zfo(c n:String):Bool:=n == c || (n == "bool"&&c == "int")
theorem Zib{c n:String}(hc:c∈["list","tuple","int","bool","str"])(hn:n∈["NoneType","bool","int","str","list","tuple","dict"]):PySem.W.kitOne K (.type n) (.type c)=some (Zfo c n):=by
 simp only[List.mem_cons,List.not_mem_nil,or_false] at hc hn
 rcases hc with rfl | rfl | rfl | rfl | rfl<;>rcases hn with rfl | rfl | rfl | rfl | rfl | rfl | rfl<;>kernel_rfl
theorem Zkm{x:T}{n:String}(e:tyN x=some n):n∈["NoneType","bool","int","str","list","tuple","dict"]:=by
 cases x<;>cases e<;>simp
def oIs(c:String)(x:T):Option D:=if c∈["list","tuple","int","bool","str"] then(tyN x).map fun n=>.t (.bl (Zfo c n)) else none
def rIsi(K:PySem.W.Frag):List V->Hp->VK->Prop:=fun xs H Q=>∃x c t b,xs=[x,.ty c]/\TyOf K H x t/\PySem.W.kitOne K t (.type c)=some b/\Q (.bl b) H
theorem Zic{c:String}{t:TE}{f:SE}(h:TEd K mg fx E t f):TEd K mg fx E (tCB (rIsi K) (Zc8 t (Zc8 (tC (.ty c)) tNil))) (e1 (oIs c) f):=by
 refine Zhx (r:=fun x H Q=>rIsi K [x,.ty c] H Q) ?_ h
 intro P H x v d Q s hx e k
 unfold oIs at e
 split at e
 · rename_i hc
   cases q:tyN x with
   | none=>rw[q] at e;cases e
   | some n=>
    rw[q] at e
    cases e
    exact⟨v,c,.type n,_,rfl,ZmQ s hx q,Zib hc (Zkm q),done s .bl k⟩
 · cases e
def oIs2(c c':String)(x:T):Option D:=if c∈["list","tuple","int","bool","str"]/\c'∈["list","tuple","int","bool","str"] then(tyN x).map fun n=>.t (.bl (Zfo c n || Zfo c' n)) else none
def rIsT(K:PySem.W.Frag):List V->Hp->VK->Prop:=fun xs H Q=>∃x tp c d t b,xs=[x,.ref tp]/\H tp=some (.tup [.ty c,.ty d])/\TyOf K H x t/\PySem.W.kitAny K t [.type c,.type d]=some b/\Q (.bl b) H
theorem Zod{c c' n:String}(hc:c∈["list","tuple","int","bool","str"])(hc':c'∈["list","tuple","int","bool","str"])(hn:n∈["NoneType","bool","int","str","list","tuple","dict"]):PySem.W.kitAny K (.type n) [.type c,.type c']=some (Zfo c n || Zfo c' n):=by
 unfold PySem.W.kitAny
 rw[Zib hc hn]
 cases Zfo c n with
 | true=>rfl
 | false=>
  dsimp only
  unfold PySem.W.kitAny
  rw[Zib hc' hn]
  cases Zfo c' n<;>rfl
theorem ZmR{c c':String}{t:TE}{f:SE}(h:TEd K mg fx E t f):TEd K mg fx E (tCB (rIsT K) (Zc8 t (Zc8 (tTup (Zc8 (tC (.ty c)) (Zc8 (tC (.ty c')) tNil))) tNil))) (e1 (oIs2 c c') f):=by
 refine Zhx (r:=fun x H Q=>[V.ty c,.ty c'].length<=sizeLine /\ ∀p,H p=none->rIsT K [x,.ref p] (upd H p (.tup [.ty c,.ty c'])) Q) ?_ h
 intro P H x v d Q s hx e k
 unfold oIs2 at e
 split at e
 · rename_i hc
   cases q:tyN x with
   | none=>rw[q] at e;cases e
   | some n=>
    rw[q] at e
    cases e
    refine⟨show 2<=sizeLine by decide,fun p hp=>?_⟩
    have hP:=s.fresh hp
    have s':Sub P (upd H p (.tup [.ty c,.ty c'])):=fun b o e=>by rw[Zan (Zak e hP)];exact s b o e
    refine⟨v,p,c,c',.type n,_,rfl,ZaA,ZmQ s' hx q,Zod hc.1 hc.2 (Zkm q),?_⟩
    exact k P _ (fun _=>False) _ ⟨.refl _,fun b o _ e=>by rw[Zan (Zak e hp)];exact e,fun _ z=>z.elim,fun _ _ e=>.inl e⟩ s' (.t .bl fun _ h=>h)
 · cases e
structure ExcL(K:PySem.W.Frag)(C:Addr):Prop where
 c:(PySem.W.clsIn K C).isSome=true
 ga:PySem.W.findIn K (.ref C) "__getattribute__"=some (some (.builtin "BaseException.__getattribute__"))
 ng:PySem.W.findIn K (.ref C) "__getattr__"=some none
 fi:PySem.W.findIn K (.ref C) "__class__"=some (some (.builtin "object.__class__"))
 sp:PySem.W.specialIn K (.builtin "object.__class__") "__get__"=some (some (.builtin "getset_descriptor.__get__"))
 tk:PySem.W.takesIn K (.builtin "object.__class__")=some true
 mr:PySem.W.mroIn K C (.type "object")=some true
 mb:PySem.W.mroIn K C (.type "BaseException")=some true
def eFrz(f:SE):SE:=fun σ=>(f σ).bnd fun d σ1=>.ok (.t (frz d)) σ1
theorem Zat{t:TE}{f:SE}(h:TEd K mg fx E t f):TEd K mg fx E t (eFrz f):=by
 intro P H gs σ ν Q S post
 unfold eFrz at post
 refine h.run S (fun c σ' e=>by rw[e] at post;exact post) (fun e=>by rw[e] at post;exact post) fun d σ1 e P1 H1 gs1 v s1 S1 dn=>?_
 rw[e] at post
 exact okT post s1 S1 dn
def oInS(x y:T):Option Bool:=match x,y with
 | .str i,.str j=>some (!(Builtin.Str.occurrences j i 0 j.length 1).isEmpty)
 | _,_=>none
def rInS:R2:=fun x y H Q=>∃i j,x=.str i/\y=.str j/\Q (.bl (!(Builtin.Str.occurrences j i 0 j.length 1).isEmpty)) H
theorem ZpL:OpB K mg rInS oInS:=by
 intro P H x y v w k Q s hx hy e q
 unfold oInS at e
 split at e
 · cases hx;cases hy;cases e;exact⟨_,_,rfl,rfl,q⟩
 · cases e
def Zkn(z:Str):List T:=z.cps.toList.map fun c=>.str ⟨#[c]⟩
def Zl7(f:SE):SI:=fun σ=>(f σ).bnd fun d σ1=>match frz d with
 | .str z=>if Zhv z=true then .ok (Zkn z) σ1 else .bad
 | _=>.bad
theorem ZqQ{P:Hp}{z:Str}:ItD K mg P (Its z) (Zkn z):=fun P' H' s s'=>by
 refine⟨fun i t e=>?_,?_⟩
 · unfold Zkn at e
   rw[List.getElem?_map] at e
   cases q:z.cps.toList[i]? with
   | none=>rw[q] at e;cases e
   | some c=>
    rw[q] at e
    cases e
    have hq:z.cps[i]? = some c:=by rw[<- Array.getElem?_toList];exact q
    refine⟨(Array.getElem?_eq_some_iff.mp hq).1,?_⟩
    rintro x H2 ⟨rfl,c',hc',rfl⟩
    rw[hq] at hc'
    cases hc'
    exact⟨P',.refl,s',.str⟩
 · show z.cps.size<=_
   unfold Zkn
   simp
theorem ZpM{t:TE}{f:SE}(h:TEd K mg fx E t f):TId K mg fx E (iStr t) (Zl7 f):=by
 intro P H gs σ ν R S post
 unfold Zl7 at post
 refine h.run S (fun c σ' e=>by rw[e] at post;exact post) (fun e=>by rw[e] at post;exact post) fun d σ1 e P1 H1 gs1 v s1 S1 dn=>?_
 rw[e] at post
 dsimp only[Out.bnd] at post
 split at post
 · rename_i z et
   rw[et] at dn
   cases dn
   split at post
   · rename_i ha
     exact⟨z,rfl,ha,post P1 H1 gs1 _ s1 S1 ZqQ⟩
   · exact post.elim
 · exact post.elim
def Zid:List T->Option (List Str)
 | []=>some []
 | .str z :: r=>(Zid r).map (z :: ·)
 | _=>none
theorem Zko{P:Hp}:∀{ts:List T}{zs:List Str}{vs:List V},Zid ts=some zs->ts.length=vs.length->(∀(i:Nat) t v,ts[i]? = some t->vs[i]? = some v->Den K mg P t v)->vs=zs.map V.str
 | [],zs,vs,e,hl,h=>by
  cases e
  cases vs with
  | nil=>rfl
  | cons _ _=>simp at hl
 | t :: r,zs,[],e,hl,h=>by simp at hl
 | .str z :: r,zs,v :: vs,e,hl,h=>by
  unfold Zid at e
  cases q:Zid r with
  | none=>rw[q] at e;cases e
  | some ys=>
   rw[q] at e
   cases e
   cases h 0 _ v rfl rfl
   rw[Zko (vs:=vs) q (by simpa using hl) fun i t v a b=>h (i+1) t v (by simpa using a) (by simpa using b),List.map_cons]
 | .non :: r,_,_ :: _,e,_,_=>by cases e
 | .bl _ :: r,_,_ :: _,e,_,_=>by cases e
 | .int _ :: r,_,_ :: _,e,_,_=>by cases e
 | .lst _ :: r,_,_ :: _,e,_,_=>by cases e
 | .scr _ :: r,_,_ :: _,e,_,_=>by cases e
 | .tup _ :: r,_,_ :: _,e,_,_=>by cases e
 | .dct _ :: r,_,_ :: _,e,_,_=>by cases e
 | .ins _ _ :: r,_,_ :: _,e,_,_=>by cases e
 | .exc _ :: r,_,_ :: _,e,_,_=>by cases e
def Zjh(z:Str)(x:T):Option D:=match x with
 | .lst ts=>(match Zid ts with
  | some ys=>if (ys.map (·.length)).sum+ys.length*z.length<=16777216 then some (.t (.str (Txt.join z ys))) else none
  | none=>none)
 | _=>none
theorem Zoe{z:Str}{t:TE}{f:SE}(h:TEd K mg fx E t f):TEd K mg fx E (tBM K "str" (ZlQ K) (tC (.str z)) (Zc8 t tNil)) (e1 (Zjh z) f):=by
 have key:=Zhx (K:=K) (mg:=mg) (fx:=fx) (E:=E) (r:=fun x H Q=>ZlQ K (.str z) [x] H Q) (op:=Zjh z) (ta:=t) (fa:=f) ?_ h
 · intro P H gs σ ν Q S post
   exact⟨rfl,key P H gs σ ν Q S post⟩
 · intro P H x v d Q s hx e k
   unfold Zjh at e
   split at e
   · split at e
     · rename_i ts ys q
       split at e
       · rename_i hz
         cases e
         cases hx with
         | @lst _ a vs h1 h2 h3=>exact⟨z,a,ys,rfl,rfl,by rw[<- Zko q h2 h3];exact .of (s _ _ h1),hz,done s .str k⟩
       · cases e
     · cases e
   · cases e
def Zdc:List T->Option (List Bool)
 | []=>some []
 | .bl z :: r=>(Zdc r).map (z :: ·)
 | _=>none
theorem ZgN{P:Hp}:∀{ts:List T}{zs:List Bool}{vs:List V},Zdc ts=some zs->ts.length=vs.length->(∀(i:Nat) t v,ts[i]? = some t->vs[i]? = some v->Den K mg P t v)->vs=zs.map V.bl
 | [],zs,vs,e,hl,h=>by
  cases e
  cases vs with
  | nil=>rfl
  | cons _ _=>simp at hl
 | t :: r,zs,[],e,hl,h=>by simp at hl
 | t :: r,zs,v :: vs,e,hl,h=>by
  cases t<;>try (cases e;done)
  rename_i z
  unfold Zdc at e
  cases q:Zdc r with
  | none=>rw[q] at e;cases e
  | some ys=>
   rw[q] at e
   cases e
   cases h 0 _ v rfl rfl
   rw[ZgN (vs:=vs) q (by simpa using hl) fun i t v a b=>h (i+1) t v (by simpa using a) (by simpa using b),List.map_cons]
def oAll:T->Option D
 | .lst ts=>(Zdc ts).map fun bs=>.t (.bl (bs.all id))
 | _=>none
def rAll(K:PySem.W.Frag):List V->Hp->VK->Prop:=fun vs H Q=>∃(l:Addr) (bs:List Bool),vs=[.ref l]/\SqL K H l (bs.map V.bl)/\Q (.bl (bs.all id)) H
theorem ZpN:UnD K mg (fun x H Q=>rAll K [x] H Q) oAll:=by
 intro P H x v d Q s hx e k
 unfold oAll at e
 split at e
 · rename_i ts
   cases q:Zdc ts with
   | none=>rw[q] at e;cases e
   | some bs=>
    rw[q] at e
    cases e
    cases hx with
    | @lst _ a vs h1 h2 h3=>exact⟨a,bs,rfl,by rw[<- ZgN q h2 h3];exact .of (s _ _ h1),done s .bl k⟩
 · cases e
def Zkp(x y:T):Option D:=match x with
 | .lst ts=>if ZdR y&&ts.all ZdR then(ts.findIdx? fun z=>eqT z y).map fun (j:Nat)=>.t (.int j) else none
 | _=>none
theorem ZpO{P:Hp}{x:T}{w:V}(hx:Den K mg P x w)(fxx:ZdR x=true):∀{ts:List T}{vs:List V},ts.length=vs.length->(∀(i:Nat) t v,ts[i]? = some t->vs[i]? = some v->Den K mg P t v)->ts.all ZdR=true->vs.findIdx? (fun z=>eqV z w)=ts.findIdx? fun z=>eqT z x
 | [],[],_,_,_=>rfl
 | [],_ :: _,e,_,_=>by simp at e
 | _ :: _,[],e,_,_=>by simp at e
 | t :: ts,v :: vs,e,h,f=>by
  simp only[List.all_cons,Bool.and_eq_true] at f
  have hd:eqV v w=eqT t x:=by
   rcases ZpA (h 0 t v rfl rfl) hx with z | z | z
   · exact z
   · rw[f.1] at z;cases z
   · rw[fxx] at z;cases z
  rw[List.findIdx?_cons,List.findIdx?_cons,hd,ZpO hx fxx (ts:=ts) (vs:=vs) (by simpa using e) (fun i t v a b=>h (i+1) t v (by simpa using a) (by simpa using b)) f.2]
def eIdx(f g:SE):SE:=fun σ=>(f σ).bnd fun a σ1=>match frz a with
 | .lst ts=>(g σ1).bnd fun b σ2=>(match Zkp (.lst ts) (frz b) with
  | some d=>.ok d σ2
  | none=>.bad)
 | _=>.bad
theorem Zl8{t u:TE}{f g:SE}(h:TEd K mg fx E t f)(h':TEd K mg fx E u g):TEd K mg fx E (tBM K "list" (Zj2 K) t (Zc8 u tNil)) (eIdx f g):=by
 intro P H gs σ ν Q S post
 unfold eIdx at post
 refine h.run S (fun c σ' e=>by rw[e] at post;exact post) (fun e=>by rw[e] at post;exact post) fun da σ1 e P1 H1 gs1 v1 s1 S1 d1=>?_
 rw[e] at post
 dsimp only[Out.bnd] at post
 split at post
 rotate_left
 · exact post.elim
 rename_i ts et
 rw[et] at d1
 cases d1 with
 | @lst _ a vs q1 q2 q3=>
  refine⟨.inl ⟨rfl,vs,.of (S1.sub _ _ q1)⟩,?_⟩
  refine h'.run S1 (fun c σ' e=>by rw[e] at post;exact PostX.from post s1) (fun e=>by rw[e] at post;exact post) fun db σ2 e P2 H2 gs2 v2 s2 S2 d2=>?_
  rw[e] at post
  dsimp only at post
  split at post
  · rename_i d eo
    unfold Zkp at eo
    dsimp only at eo
    split at eo
    · rename_i hf
      rw[Bool.and_eq_true] at hf
      cases qi:ts.findIdx? fun z=>eqT z (frz db) with
      | none=>rw[qi] at eo;cases eo
      | some j=>
       rw[qi] at eo
       cases eo
       have q3':∀(i:Nat) t v,ts[i]? = some t->vs[i]? = some v->Den K mg P2 t v:=fun i t v a b=>(q3 i t v a b).mono s2.mono
       refine⟨a,vs,v2,j,rfl,rfl,.of (S2.sub _ _ (s2.mono _ _ q1)),Zki d2 hf.1,all2 q2 q3' hf.2,by rw[ZpO d2 hf.1 q2 q3' hf.2];exact qi,?_⟩
       exact okT post (s1.trans s2) S2 .int
    · cases eo
  · exact post.elim
def Zji:SE:=fun σ=>.ok (.dct []) σ
theorem Zkq:TEd K mg fx E ZmH Zji:=by
 intro P H gs σ ν Q S post p hp
 have hP:=S.sub.fresh hp
 have sb:Sub P (upd H p (.dK [])):=fun b o e=>by rw[Zan (Zak e hP)];exact S.sub b o e
 have ng:¬tot gs p:=fun z=>by
  obtain⟨⟨o,e⟩,_⟩:=S.here z
  rw[hp] at e;cases e
 have s1:Go P H (fun _=>False) P (upd H p (.dK [])) (fun b=>b=p):=⟨.refl _,fun b o _ e=>by rw[Zan (Zak e hp)];exact e,fun b z=>.inr (by rw[show b=p from z];exact hp),fun _ _ e=>.inl e⟩
 exact post P _ gs (fun b=>b=p) (.ref p) s1.alloc (S.go s1 sb fun _ _ z=>z) (.dct ZaA hP rfl (fun i k t w e=>by simp at e) fun b=>Iff.rfl) fun b z y=>ng (by rw[<- show b=p from y];exact z)
def Zf3(f g h:SE):SE:=fun σ=>(f σ).bnd fun a σ1=>match frz a with
 | .dct kvs=>(g σ1).bnd fun b σ2=>(h σ2).bnd fun c σ3=>(match frz b with
  | .str k=>.ok (.t ((kvs.lookup k).getD (frz c))) σ3
  | _=>.bad)
 | _=>.bad
theorem ZeY{P:Hp}{k:Str}:∀{kvs:List (Str×T)}{ws:List (Key×V)},ws.map (·.1)=kvs.map (fun p=>Sum.inr p.1)->(∀(i:Nat) k t w,kvs[i]? = some (k,t)->ws[i]? = some (Sum.inr k,w)->Den K mg P t w) ->
 (kvs.lookup k=none/\valV ws (Sum.inr k)=none) \/ ∃t w,kvs.lookup k=some t/\valV ws (Sum.inr k)=some w/\Den K mg P t w
 | [],[],_,_=>.inl ⟨rfl,rfl⟩
 | [],_ :: _,e,_=>by simp at e
 | _ :: _,[],e,_=>by simp at e
 | (k',t) :: kvs,(j,w) :: ws,e,h=>by
  simp only[List.map_cons,List.cons.injEq] at e
  obtain⟨e1,e2⟩:=e
  subst e1
  rw[List.lookup_cons]
  by_cases q:k=k'
  · subst q
    rw[show(k == k)=true by simp,Zfx rfl]
    exact .inr ⟨t,w,rfl,rfl,h 0 k t w rfl rfl⟩
  · rw[show(k == k')=false by simp[q],Zfy fun z=>q (Sum.inr.inj z).symm]
    exact ZeY e2 fun i k t w a b=>h (i+1) k t w (by simpa using a) (by simpa using b)
theorem ZiI{t u w:TE}{f g h:SE}(hf:TEd K mg fx E t f)(hg:TEd K mg fx E u g)(hh:TEd K mg fx E w h):TEd K mg fx E (Zj8 t u w) (Zf3 f g h):=by
 intro P H gs σ ν Q S post
 unfold Zf3 at post
 refine hf.run S (fun c σ' e=>by rw[e] at post;exact post) (fun e=>by rw[e] at post;exact post) fun da σ1 e P1 H1 gs1 v1 s1 S1 d1=>?_
 rw[e] at post
 dsimp only[Out.bnd] at post
 split at post
 rotate_left
 · exact post.elim
 rename_i kvs et
 rw[et] at d1
 cases d1 with
 | @dct _ a ws q1 q2 q3=>
  refine⟨a,rfl,.inl ⟨ws,.inl (S1.sub _ _ q1)⟩,?_⟩
  refine hg.run S1 (fun c σ' e=>by rw[e] at post;exact PostX.from post s1) (fun e=>by rw[e] at post;exact post) fun db σ2 e P2 H2 gs2 v2 s2 S2 d2=>?_
  rw[e] at post
  dsimp only at post
  refine hh.run S2 (fun c σ' e=>by rw[e] at post;exact PostX.from post (s1.trans s2)) (fun e=>by rw[e] at post;exact post) fun dc σ3 e P3 H3 gs3 v3 s3 S3 d3=>?_
  rw[e] at post
  dsimp only at post
  split at post
  rotate_left
  · exact post.elim
  rename_i k ek
  rw[ek] at d2
  cases d2
  have q3':∀(i:Nat) k t w,kvs[i]? = some (k,t)->ws[i]? = some (Sum.inr k,w)->Den K mg P3 t w:=fun i k t w a b=>(q3 i k t w a b).mono (s2.mono.trans s3.mono)
  refine⟨valV ws (Sum.inr k),.inl ⟨ws,Sum.inr k,.inl (S3.sub _ _ (s3.mono _ _ (s2.mono _ _ q1))),rfl,rfl⟩,?_⟩
  rcases ZeY (k:=k) q2 q3' with⟨z1,z2⟩ | ⟨t,w,z1,z2,dn⟩
  · rw[z1] at post
    rw[z2]
    exact okT post ((s1.trans s2).trans s3) S3 d3
  · rw[z1] at post
    rw[z2]
    exact okT post ((s1.trans s2).trans s3) S3 dn
def ZdO:T->Option D
 | .dct kvs=>some (.lst (kvs.map fun p=>.t (.str p.1)))
 | x=>oList x
def ZmS(K:PySem.W.Frag):List V->Hp->VK->Prop:=fun xs H Q=>(∃p ys,xs=[.ref p]/\(SqL K H p ys\/SqT K H p ys) /\ ∀l,H l=none->Q (.ref l) (upd H l (.lst ys))) \/
 ∃p kvs,xs=[.ref p]/\H p=some (.dK kvs) /\ ∀l,H l=none->Q (.ref l) (upd H l (.lst (kvs.map fun kv=>kV kv.1)))
theorem Zdp{X:Cx}(h:X.K=K)(hc:X.calm=true):ZcD X (.type "list") (ZmS K):=by
 subst h
 intro pins s σ H xs us Q I r q
 rcases q with q | q
 · exact Zhl pins s σ H xs us Q I r q
 · exact Zjd hc pins s σ H xs us Q I r q
theorem ZeG:UnD K mg (fun x H Q=>ZmS K [x] H Q) ZdO:=by
 intro P H x v d Q s hx e k
 unfold ZdO at e
 split at e
 · rename_i kvs
   cases e
   cases hx with
   | @dct _ a ws q1 q2 q3=>
    refine .inr ⟨a,ws,rfl,s _ _ q1,fun l hl=>?_⟩
    have e1:(kvs.map fun p=>D.t (.str p.1))=(kvs.map fun p=>T.str p.1).map D.t:=by rw[List.map_map];rfl
    have e2:(ws.map fun kv=>kV kv.1)=kvs.map fun p=>V.str p.1:=by
     have:=congrArg (List.map kV) q2
     rw[List.map_map,List.map_map] at this
     exact this
    rw[e2]
    rw[e1] at k
    refine newL s hl (by simp) (fun i t v a b=>?_) k
    rw[List.getElem?_map] at a b
    cases q:kvs[i]? with
    | none=>rw[q] at a;cases a
    | some p=>rw[q] at a b;cases a;cases b;exact .str
 · exact .inl (Zn5 P H x v d Q s hx e k)
def Zfp:T->Option D
 | .dct kvs=>some (.lst (kvs.map fun p=>.t p.2))
 | _=>none
def Zkr:List V->Hp->VK->Prop:=fun xs H Q=>∃p a kvs,xs=[.ref p]/\H p=some (Zje p a)/\H a=some (.dK kvs) /\ ∀l,H l=none->Q (.ref l) (upd H l (.lst (kvs.map fun kv=>kv.2)))
theorem ZeZ{t:TE}{f:SE}(h:TEd K mg fx E t f):TEd K mg fx E (tCB Zkr (Zc8 (tBM0 K "dict" ZlV t) tNil)) (e1 Zfp f):=by
 refine Zhx (r:=fun x H Q=>tyV K "dict" x H/\ZlV x [] H fun y H1=>Zkr [y] H1 Q) ?_ h
 intro P H x v d Q s hx e k
 unfold Zfp at e
 split at e
 · rename_i kvs
   cases e
   cases hx with
   | @dct _ a ws q1 q2 q3=>
    refine⟨.inr (.inr (.inl ⟨rfl,.inl ⟨ws,s _ _ q1⟩⟩)),a,ws,rfl,rfl,s _ _ q1,fun p hp=>?_⟩
    have hP:=s.fresh hp
    have hpa:a≠p:=Zak (s _ _ q1) hp
    refine⟨p,a,ws,rfl,ZaA,by rw[Zan hpa];exact s _ _ q1,fun l hl=>?_⟩
    have s':Sub P (upd H p (Zje p a)):=fun b o e=>by rw[Zan (Zak e hP)];exact s b o e
    have e1:(kvs.map fun q=>D.t q.2)=(kvs.map fun q=>q.2).map D.t:=by rw[List.map_map];rfl
    rw[e1] at k
    have hlen:kvs.length=ws.length:=by have:=congrArg List.length q2;simpa using this.symm
    refine newL s' hl (by simp[hlen]) (fun i t v a b=>?_) fun P' H' g u s1 sb o=>k P' H' g u ?_ sb o
    · rw[List.getElem?_map] at a b
      cases q:kvs[i]? with
      | none=>rw[q] at a;cases a
      | some p=>
       cases q':ws[i]? with
       | none=>rw[q'] at b;cases b
       | some w=>
        rw[q] at a;rw[q'] at b;cases a;cases b
        have ek:w.1=Sum.inr p.1:=by
         have:=congrArg (fun l=>l[i]?) q2
         simp only[List.getElem?_map,q,q',Option.map_some] at this
         exact Option.some.inj this
        exact q3 i p.1 p.2 w.2 q (by rw[q',<- ek])
    · have s0:Go P H (fun _=>False) P (upd H p (Zje p a)) (fun _=>False):=⟨.refl _,fun b o _ e=>by rw[Zan (Zak e hp)];exact e,fun _ z=>z.elim,fun _ _ e=>.inl e⟩
      exact s0.trans s1
 · cases e
def cutT(ts:List T)(lo hi:Option Int):List T:=(ts.drop (HT.sIx ts.length 0 lo)).take (HT.sIx ts.length ts.length hi - HT.sIx ts.length 0 lo)
def eCut(lo hi:Option Int)(f:SE):SE:=e1 (fun x=>match x with
 | .lst ts=>some (.lst ((cutT ts lo hi).map .t))
 | .scr ns=>some (.lst ((cutT (ns.map .int) lo hi).map .t))
 | _=>none) f
theorem Zks{α:Type}{xs:List α}{i a b:Nat}{x:α}(h:((xs.drop a).take b)[i]? = some x):xs[a+i]? = some x:=by
 rw[List.getElem?_take] at h
 split at h
 · rwa [List.getElem?_drop] at h
 · cases h
theorem Zof{P H:Hp}{ts:List T}{vs:List V}{lo hi:Option Int}{Q:VK}(s:Sub P H)(h1:ts.length=vs.length)(h2:∀(i:Nat) t v,ts[i]? = some t->vs[i]? = some v->Den K mg P t v)
 (k:∀P' H' g u,Go P H (fun _=>False) P' H' g->Sub P' H'->Own K mg P' H' g (.lst ((cutT ts lo hi).map .t)) u->Q u H'):∀p,H p=none->Q (.ref p) (upd H p (.lst (cutV vs lo hi))):=fun p hp=>by
 refine newL s hp ?_ (fun i t v a b=>?_) k
 · unfold cutT cutV;rw[h1];simp[h1]
 · unfold cutT at a
   unfold cutV at b
   rw[<- h1] at b
   exact h2 _ t v (Zks a) (Zks b)
end DL
set_option autoImplicit false
namespace DL
open PySem L2 PySem.Spec PyProof.Rows
def clsA(mg:Str->Option Value)(c:Str):Addr:=match mg c with
 | some (.ref C)=>C
 | _=>0
section
variable(P:Program)(w:World)(K:PySem.W.Frag)(mg:Str->Option Value)(base:Heap)
structure CalX(x:Str)(k:Nat)(ps:List Str)(F:List D->FO):Prop where
 ex:∃(f:Addr) (fd:FuncData),FnOk P w K mg base (XC P w) k f fd ps (spF K mg ps.length F)/\mg x=some (.ref f)/\PySem.W.keepIn K (.ref f)=true/\Binds K fd ps []
structure CalM(c m:Str)(k:Nat)(ps:List Str)(F:List D->FO):Prop where
 ex:∃(f:Addr) (fd:FuncData),mg c=some (.ref (clsA mg c))/\Cls K (clsA mg c)/\Meth K (clsA mg c) m f/\FnOk P w K mg base (XC P w) k f fd ps (spF K mg ps.length F)/\Binds K fd ps []
structure CalI(c:Str)(k:Nat)(ps:List Str)(F:List D->FO):Prop where
 ex:∃(f:Addr) (fd:FuncData),mg c=some (.ref (clsA mg c))/\Mk K (clsA mg c) f/\FnOk P w K mg base (XC P w) k f fd ps (spF K mg ps.length F)/\Binds K fd ps []
end
structure TFX(K:PySem.W.Frag)(mg:Str->Option Value)(x:Str)(st:Stmt)(ps:List Str):Prop where
 ex:∃(f:Addr) (fd:FuncData),Fun K x x st f fd/\mg x=some (.ref f)/\Binds K fd ps []
structure TMX(K:PySem.W.Frag)(mg:Str->Option Value)(c m qual:Str)(st:Stmt)(ps:List Str):Prop where
 ex:∃(f:Addr) (fd:FuncData),mg c=some (.ref (clsA mg c))/\Cls K (clsA mg c)/\Meth K (clsA mg c) m f/\Fun K m qual st f fd/\Binds K fd ps []
structure TIX(K:PySem.W.Frag)(mg:Str->Option Value)(c qual:Str)(st:Stmt)(ps:List Str):Prop where
 ex:∃(f:Addr) (fd:FuncData),mg c=some (.ref (clsA mg c))/\Mk K (clsA mg c) f/\Fun K "__init__" qual st f fd/\Binds K fd ps []
section
variable{P:Program}{w:World}{K:PySem.W.Frag}{mg:Str->Option Value}{base:Heap}
theorem Fun.okX{x qual:Str}{st:Stmt}{f:Addr}{fd:FuncData}{N ps:List Str}{k:Nat}{body:SS}{F:List D->FO}(T:Fun K x qual st f fd)(S:FnScope N ps (Zal st))(hn:ps.length<=N.length)(hF:∀ds,F ds=.bad\/F ds=runF N.length body ds)
 (hbody:∀(cdv:Value) (A:Around) (outer:List Env) (s:Shared) (H:Hp) (E:XK),Room k (A.deeper (envOfC qual (Zal st) s.heap.objs.size f cdv)) ->
   ∃t,PSs (cxOf (XC P w) P w K mg base N qual (Zal st) f cdv A outer s H E) (ZbT st) t /\ ∀fx,TSd K mg fx E t body):FnOk P w K mg base (XC P w) (k+1) f fd ps (spF K mg ps.length F):=by
 obtain⟨oc,od,kV,doc,pm,an,cdv,ct,osl,rfl,lk,hcd⟩:=T.ex
 refine ZnB lk hcd S (fun vs H Q E h=>h.1) fun A outer s H vs Q E hr hsp=>?_
 obtain⟨t,h,q⟩:=hbody cdv A outer s H E hr
 exact⟨t,h,ZmJ hF q hn hsp⟩
theorem TFX.ok{x:Str}{st:Stmt}{ps N:List Str}{k:Nat}{body:SS}{F:List D->FO}(T:TFX K mg x st ps)(S:FnScope N ps (Zal st))(hn:ps.length<=N.length)(hF:∀ds,F ds=.bad\/F ds=runF N.length body ds)
 (hbody:∀(f:Addr) (cdv:Value) (A:Around) (outer:List Env) (s:Shared) (H:Hp) (E:XK),Room k (A.deeper (envOfC x (Zal st) s.heap.objs.size f cdv)) ->
   ∃t,PSs (cxOf (XC P w) P w K mg base N x (Zal st) f cdv A outer s H E) (ZbT st) t /\ ∀fx,TSd K mg fx E t body):CalX P w K mg base x (k+1) ps F:=by
 obtain⟨f,fd,Fn,m,b⟩:=T.ex
 exact⟨f,fd,Fun.okX Fn S hn hF (hbody f),m,Fn.kp,b⟩
theorem TMX.ok{c m qual:Str}{st:Stmt}{ps N:List Str}{k:Nat}{body:SS}{F:List D->FO}(T:TMX K mg c m qual st ps)(S:FnScope N ps (Zal st))(hn:ps.length<=N.length)(hF:∀ds,F ds=.bad\/F ds=runF N.length body ds)
 (hbody:∀(f:Addr) (cdv:Value) (A:Around) (outer:List Env) (s:Shared) (H:Hp) (E:XK),Room k (A.deeper (envOfC qual (Zal st) s.heap.objs.size f cdv)) ->
   ∃t,PSs (cxOf (XC P w) P w K mg base N qual (Zal st) f cdv A outer s H E) (ZbT st) t /\ ∀fx,TSd K mg fx E t body):CalM P w K mg base c m (k+1) ps F:=by
 obtain⟨f,fd,hc,cl,mt,Fn,b⟩:=T.ex
 exact⟨f,fd,hc,cl,mt,Fun.okX Fn S hn hF (hbody f),b⟩
theorem TIX.ok{c qual:Str}{st:Stmt}{ps N:List Str}{k:Nat}{body:SS}{F:List D->FO}(T:TIX K mg c qual st ps)(S:FnScope N ps (Zal st))(hn:ps.length<=N.length)(hF:∀ds,F ds=.bad\/F ds=runF N.length body ds)
 (hbody:∀(f:Addr) (cdv:Value) (A:Around) (outer:List Env) (s:Shared) (H:Hp) (E:XK),Room k (A.deeper (envOfC qual (Zal st) s.heap.objs.size f cdv)) ->
   ∃t,PSs (cxOf (XC P w) P w K mg base N qual (Zal st) f cdv A outer s H E) (ZbT st) t /\ ∀fx,TSd K mg fx E t body):CalI P w K mg base c (k+1) ps F:=by
 obtain⟨f,fd,hc,mk,Fn,b⟩:=T.ex
 exact⟨f,fd,hc,mk,Fun.okX Fn S hn hF (hbody f),b⟩
end
section
variable{X:Cx}{K:PySem.W.Frag}{mg:Str->Option Value}{E:XK}{x c m f:Str}{k:Nat}{ps:List Str}{F:List D->FO}{p pos apos:Pos}{e o value:Expr}{es:List Expr}{t:TA}{ta te tv:TE}
theorem Zav(h:CalX X.prog X.w X.K X.mg X.base x k ps F)(hK:X.K=K)(hmg:X.mg=mg)(hx:ZcM (XC X.prog X.w) X E)(hr:Room k X.A)(ha:PA X (e :: es) t)(hg:Gl X x:=by rfl)(hdb:(x == ("__debug__":Str))=false:=by decide)
 (he:starEach (e :: es) X.env=(false,eval e X.env) :: starEach es X.env:=by rfl) (hpl:(backTo pos (starEach es X.env)).any (·.1)=false:=by rfl) :
 PE X (.Call (.Name x p) (e :: es) [] pos) (ZjI (spF K mg ps.length F) [] E t):=by
 subst hK hmg
 obtain⟨f,fd,G,m,kp,b⟩:=h.ex
 exact Zny G hr hg m kp b .nil hx ha hdb he hpl
theorem Zog(h:CalX X.prog X.w X.K X.mg X.base x k ps F)(hK:X.K=K)(hmg:X.mg=mg)(hx:ZcM (XC X.prog X.w) X E)(hr:Room k X.A)(hg:Gl X x:=by rfl)(hdb:(x == ("__debug__":Str))=false:=by decide) :
 PE X (.Call (.Name x p) [] [] pos) (ZjI (spF K mg ps.length F) [] E tNil):=by
 subst hK hmg
 obtain⟨f,fd,G,m,kp,b⟩:=h.ex
 exact ZlE G hr hg m kp b .nil hx hdb
theorem ZeH{pl:Sem Bool}(h:CalM X.prog X.w X.K X.mg X.base c m k ps F)(hK:X.K=K)(hmg:X.mg=mg)(hx:ZcM (XC X.prog X.w) X E)(hr:Room k X.A)(ho:PE X o ta)(ha:PA X (e :: es) t)
 (hst:starEach (e :: es) X.env=(false,eval e X.env) :: starEach es X.env:=by rfl) (hpl:(backTo pos (starEach es X.env)).any (·.1)=false:=by rfl)
 (ht:eval (.Call (.Attribute o m apos) (e :: es) [] pos) X.env=(do
   let ov <- eval o X.env
   standAt apos.atName
   let (f,first) <- holding [ov] (getMethod ov m pl)
   callWith pos f first (backTo pos (starEach (e :: es) X.env)) (backToKw pos (keywordEach [] X.env))):=by rfl) :
 PE X (.Call (.Attribute o m apos) (e :: es) [] pos) (ZjJ (clsA mg c) m (spF K mg ps.length F) [] E ta t):=by
 subst hK hmg
 obtain⟨f,fd,hc,cl,mt,G,b⟩:=h.ex
 exact Znz ho cl mt G hr b .nil hx ha hst hpl ht
theorem ZbG{pl:Sem Bool}(h:CalM X.prog X.w X.K X.mg X.base c m k ps F)(hK:X.K=K)(hmg:X.mg=mg)(hx:ZcM (XC X.prog X.w) X E)(hr:Room k X.A)(ho:PE X o ta)
 (ht:eval (.Call (.Attribute o m apos) [] [] pos) X.env=(do
   let ov <- eval o X.env
   standAt apos.atName
   let (f,first) <- holding [ov] (getMethod ov m pl)
   callWith pos f first (backTo pos (starEach [] X.env)) (backToKw pos (keywordEach [] X.env))):=by rfl) :
 PE X (.Call (.Attribute o m apos) [] [] pos) (ZjJ (clsA mg c) m (spF K mg ps.length F) [] E ta tNil):=by
 subst hK hmg
 obtain⟨f,fd,hc,cl,mt,G,b⟩:=h.ex
 exact ZlF ho cl mt G hr b .nil hx ht
theorem ZhC(h:CalI X.prog X.w X.K X.mg X.base x k ps F)(hK:X.K=K)(hmg:X.mg=mg)(hx:ZcM (XC X.prog X.w) X E)(hr:Room (k+1) X.A)(ha:PA X (e :: es) t)(hg:Gl X x:=by rfl)(hdb:(x == ("__debug__":Str))=false:=by decide)
 (he:starEach (e :: es) X.env=(false,eval e X.env) :: starEach es X.env:=by rfl) (hpl:(backTo pos (starEach es X.env)).any (·.1)=false:=by rfl) :
 PE X (.Call (.Name x p) (e :: es) [] pos) (ZjK (clsA mg x) (spF K mg ps.length F) [] E t):=by
 subst hK hmg
 obtain⟨f,fd,hc,mk,G,b⟩:=h.ex
 exact ZnA mk G hr hg hc b .nil hx ha hdb he hpl
theorem Zoh(h:CalI X.prog X.w X.K X.mg X.base x k ps F)(hK:X.K=K)(hmg:X.mg=mg)(hx:ZcM (XC X.prog X.w) X E)(hr:Room (k+1) X.A)(hg:Gl X x:=by rfl)(hdb:(x == ("__debug__":Str))=false:=by decide) :
 PE X (.Call (.Name x p) [] [] pos) (ZjK (clsA mg x) (spF K mg ps.length F) [] E tNil):=by
 subst hK hmg
 obtain⟨f,fd,hc,mk,G,b⟩:=h.ex
 exact ZlG mk G hr hg hc b .nil hx hdb
theorem Zbo(hK:X.K=K)(he:PE X e ta)(hb:attributeBase e f X.env (eval e X.env)=eval e X.env:=by rfl):PE X (.Attribute e f pos) (tFld K ta f):=hK▸Zpd he hb
theorem ZhD{pos':Pos}(hK:X.K=K)(ha:PE X o ta)(hv:PE X value tv)(hs:swapsWith value (some (.Attribute o f pos')) pos.line X.env=pure false:=by rfl):PS X (.Assign [.Attribute o f pos'] value pos) (sFld K ta tv f):=hK▸Zpe ha hv hs
theorem q_ix(hK:X.K=K):IxR X (Zn4 K):=hK▸IxR.or ZnF Zpg
theorem ZdS(hK:X.K=K):ZcD X (.builtin "len") (rLen K):=by
 subst hK
 intro pins s σ H xs us Q I r q
 rcases q with q | q
 · exact Zhj pins s σ H xs us Q I r q
 · exact Zhk pins s σ H xs us Q I r q
theorem Zie(hK:X.K=K):ZcD X (.builtin "isinstance") (rIsi K):=hK▸Zh2
theorem ZpP(hK:X.K=K):ZcD X (.builtin "isinstance") (rIsT K):=hK▸Zjg
theorem ZqR(hK:X.K=K)(hc:X.calm=true):ZcD X (.builtin "all") (rAll K):=hK▸Zj1 hc
theorem Ze0(hc:X.calm=true):ZcD X (.type "list") Zkr:=Zjf hc
theorem q_in(hK:X.K=K):OpR X (compareOp .In) (rIn K false):=hK▸ZjO
theorem ZgO(hK:X.K=K):OpR X (compareOp .NotIn) (rIn K true):=hK▸Zhi
theorem ZqS:OpR X (compareOp .In) rInS:=ZjE
theorem ZmT{k:Nat}{u:TGs}{n:Nat}(hK:X.K=K)(hc:X.calm=true)(h:PGs X es u)(hn:(assignEach es X.env).length=n:=by rfl)(hst:(assignEach es X.env).findIdx? (·.1)=none:=by rfl):PG X (.Tuple es k pos) (ZnM K n u):=hK▸ZnN hc h hn hst
theorem Zdw(hK:X.K=K)(ho:PE X o ta)(ha:PA X (e :: es) t)
 (hbase:attributeBase o "append" X.env (eval o X.env)=eval o X.env:=by rfl)
 (hfew:((backTo pos (starEach (e :: es) X.env)).all (fun x=>!x.1)&&(backToKw pos (keywordEach [] X.env)).all (fun x=>x.1.isSome)
   && decide ((e :: es).length+([]:List Keyword).length+(if ([]:List Keyword).isEmpty then 0 else 1)<30))=true:=by rfl)
 (hline:(apos.endLine == pos.line)=true:=by rfl) (hs:starEach (e :: es) X.env=(false,eval e X.env) :: starEach es X.env:=by rfl) (hplain:(backTo pos (starEach es X.env)).any (·.1)=false:=by rfl) :
 PE X (.Call (.Attribute o "append" apos) (e :: es) [] pos) (tBM K "list" ZgH ta t):=hK▸ZnH PySem.F.plainAttrs_list PySem.F.slot_list_append PySem.F.type_list_append ZjP ho ha hbase hfew hline hs hplain
theorem Zoi(hK:X.K=K)(ho:PE X o ta)(ha:PA X (e :: es) t)
 (hbase:attributeBase o "index" X.env (eval o X.env)=eval o X.env:=by rfl)
 (hfew:((backTo pos (starEach (e :: es) X.env)).all (fun x=>!x.1)&&(backToKw pos (keywordEach [] X.env)).all (fun x=>x.1.isSome)
   && decide ((e :: es).length+([]:List Keyword).length+(if ([]:List Keyword).isEmpty then 0 else 1)<30))=true:=by rfl)
 (hline:(apos.endLine == pos.line)=true:=by rfl) (hs:starEach (e :: es) X.env=(false,eval e X.env) :: starEach es X.env:=by rfl) (hplain:(backTo pos (starEach es X.env)).any (·.1)=false:=by rfl) :
 PE X (.Call (.Attribute o "index" apos) (e :: es) [] pos) (tBM K "list" (Zj2 K) ta t):=hK▸ZnH PySem.F.plainAttrs_list PySem.F.slot_list_index PySem.F.type_list_index ZlP ho ha hbase hfew hline hs hplain
theorem ZpQ(hK:X.K=K)(ho:PE X o ta)(ha:PA X (e :: es) t)
 (hbase:attributeBase o "join" X.env (eval o X.env)=eval o X.env:=by rfl)
 (hfew:((backTo pos (starEach (e :: es) X.env)).all (fun x=>!x.1)&&(backToKw pos (keywordEach [] X.env)).all (fun x=>x.1.isSome)
   && decide ((e :: es).length+([]:List Keyword).length+(if ([]:List Keyword).isEmpty then 0 else 1)<30))=true:=by rfl)
 (hline:(apos.endLine == pos.line)=true:=by rfl) (hs:starEach (e :: es) X.env=(false,eval e X.env) :: starEach es X.env:=by rfl) (hplain:(backTo pos (starEach es X.env)).any (·.1)=false:=by rfl) :
 PE X (.Call (.Attribute o "join" apos) (e :: es) [] pos) (tBM K "str" (ZlQ K) ta t):=hK▸ZnH PySem.F.plainAttrs_str PySem.F.slot_str_join PySem.F.type_str_join ZnT ho ha hbase hfew hline hs hplain
theorem Zec(hK:X.K=K)(ho:PE X o ta)(hbase:attributeBase o "values" X.env (eval o X.env)=eval o X.env:=by rfl)(hline:(apos.endLine == pos.line)=true:=by rfl) :
 PE X (.Call (.Attribute o "values" apos) [] [] pos) (tBM0 K "dict" ZlV ta):=hK▸Zpi PySem.F.plainAttrs_dict PySem.F.slot_dict_values PySem.F.type_dict_values Zka ho hbase hline
theorem ZmU{e2:Expr}{ty tx:TE}(hu:X.A.units+1<cLine)(ho:PE X o ta)(he:PE X e ty)(hf:PE X e2 tx)(hbase:attributeBase o "get" X.env (eval o X.env)=eval o X.env:=by rfl)
 (hfew:((backTo pos (starEach [e,e2] X.env)).all (fun x=>!x.1)&&(backToKw pos (keywordEach [] X.env)).all (fun x=>x.1.isSome)
   && decide (([e,e2]:List Expr).length+([]:List Keyword).length+(if ([]:List Keyword).isEmpty then 0 else 1)<30))=true:=by rfl) (hline:(apos.endLine == pos.line)=true:=by rfl)
 (htr:backTo pos (starEach [e,e2] X.env)=[(false,eval e X.env),(false,eval e2 X.env)]:=by rfl):PE X (.Call (.Attribute o "get" apos) [e,e2] [] pos) (Zj8 ta ty tx):=ZlT hu ho he hf ⟨hbase,hfew,hline,htr⟩
theorem ZmV{v:V}{u:Value}(hmg:X.mg=mg)(hm:mg x=some u)(r:RelV v u)(hg:Gl X x:=by rfl)(hd:(x == ("__debug__":Str))=false:=by decide):PE X (.Name x pos) (tC v):=by
 subst hmg
 exact Znn hg hm r hd
theorem Zdx{np cpos:Pos}(hK:X.K=K)(hmg:X.mg=mg)(hX:ZpK X E)(hm:mg x=some (.ref (clsA mg x)))(hC:ExcC K (clsA mg x))(ha:PE X e te)(hc:X.calm=true:=by rfl)(hg:Gl X x:=by rfl)(hdb:(x == ("__debug__":Str))=false:=by decide)
 (he:starEach [e] X.env=[(false,eval e X.env)]:=by rfl):PS X (.Raise (some (.Call (.Name x np) [e] [] cpos)) none pos) (ZiH (clsA mg x) E te):=by
 subst hK hmg
 exact Zl6 hX hc hg hm hC ha hdb he
end
section
variable{K:PySem.W.Frag}{mg:Str->Option Value}{fx:Nat->Option V}{E:XK}
theorem Zoj:TTd K mg fx E ZnI (fun σ=>.ok true σ):=fun P H gs σ ν Q S post=>post P H gs .refl S
def Zbl:ST:=fun σ=>.ok true σ
theorem Zbi:TTd K mg fx E ZnI Zbl:=Zoj
end
end DL
set_option autoImplicit false
namespace DL
open PySem L2
variable{K:PySem.W.Frag}{mg:Str->Option Value}{fx:Nat->Option V}{E:XK}
def eB(op:T->T->Option Bool)(fa fb:SE):SE:=e2 (fun x y=>(op x y).map fun k=>.t (.bl k)) fa fb
theorem td_b{r:R2}{op:T->T->Option Bool}{ta tb:TE}{fa fb:SE}(ho:OpB K mg r op)(ha:TEd K mg fx E ta fa)(hb:TEd K mg fx E tb fb):TEd K mg fx E (tOp r ta tb) (eB op fa fb):=Zax ho.op ha hb
def Zok(x y:T):Option Bool:=(oInS x y).map (!·)
theorem Zao{i:Int}:TEd K mg fx E (tC (.int i)) (eC (.int i)):=Zfz fun _=>.int
theorem Zf4{x:Str}:TEd K mg fx E (tC (.str x)) (eC (.str x)):=Zfz fun _=>.str
theorem Zgm{b:Bool}:TEd K mg fx E (tC (.bl b)) (eC (.bl b)):=Zfz fun _=>.bl
theorem ZmW:TEd K mg fx E (tC .non) (eC .non):=Zfz fun _=>.non
theorem ZpR{i:Int}:TPd K mg fx (tC (.int i)) (pC (.int i)):=Zl2 fun _=>.int
theorem ZqT{r:V->Hp->VK->Prop}{op:T->Option D}{ta:TE}{fa:SE}(ho:UnD K mg r op)(ha:TEd K mg fx E ta fa):TEd K mg fx E (tUn r ta) (e1 op fa):=Zhx ho ha
def Zd1(ns:List Int):SE:=fun σ=>if ns.length<=1000 then .ok (.lst (ns.map fun i=>.t (.int i))) σ else .bad
theorem Zet{ns:List Int}:TEd K mg fx E (tLst (ZnQ ns)) (Zd1 ns):=by
 intro P H gs σ ν Q S post
 unfold Zd1 at post
 split at post
 · rename_i hn
   refine⟨by rw[List.length_map];exact Nat.le_trans hn (by decide),fun p hp=>?_⟩
   have:=newL (K:=K) (mg:=mg) (ts:=ns.map T.int) (vs:=ns.map V.int) (Q:=fun v H'=>Q v H') (l:=p) S.sub hp (by simp) (fun i t v a b=>by
    rw[List.getElem?_map] at a b
    cases q:ns[i]? with
    | none=>rw[q] at a;cases a
    | some n=>rw[q] at a b;cases a;cases b;exact .int) fun P' H' g u s1 sb o=>by
     rw[List.map_map] at o
     exact post P' H' gs g u s1.alloc (S.go s1 sb fun _ _ z=>z) o (s1.frees fun b h=>(S.here h).1)
   exact this
 · exact post.elim
theorem clsC{c:Str}{C:Addr}(h:mg c=some (.ref C)):mg c=some (.ref (clsA mg c)):=by
 unfold clsA
 rw[h]
theorem clsE{c:Str}{C:Addr}(h:mg c=some (.ref C)):clsA mg c=C:=by
 unfold clsA
 rw[h]
end DL
set_option autoImplicit false
namespace DL
open PySem L2 PySem.Spec PyProof.Rows
section
variable{X:Cx}{mg:Str->Option Value}{x:Str}{pos:Pos}
theorem ZcG{i:Int}(hmg:X.mg=mg)(hm:∃t,mg x=some (.int i t))(hg:Gl X x:=by rfl)(hd:(x == ("__debug__":Str))=false:=by decide):PE X (.Name x pos) (tC (.int i)):=by
 obtain⟨t,hm⟩:=hm
 exact ZmV hmg hm ⟨t,rfl⟩ hg hd
theorem Zol{i:Str}(hmg:X.mg=mg)(hm:∃t,mg x=some (.str i t))(hg:Gl X x:=by rfl)(hd:(x == ("__debug__":Str))=false:=by decide):PE X (.Name x pos) (tC (.str i)):=by
 obtain⟨t,hm⟩:=hm
 exact ZmV hmg hm ⟨t,rfl⟩ hg hd
end
theorem TFX.never{P:Program}{w:World}{K:PySem.W.Frag}{mg:Str->Option Value}{base:Heap}{x:Str}{st:Stmt}{ps:List Str}{k:Nat}(T:TFX K mg x st ps):CalX P w K mg base x k ps fun _=>.bad:=by
 obtain⟨f,fd,Fn,m,b⟩:=T.ex
 exact⟨f,fd,⟨fun vs H Q E h=>h.1,fun A outer s H args us vs Q E _ _ _ _ h=>by
  obtain⟨_,_,_,_,_,_,h⟩:=h
  exact h.elim⟩,m,Fn.kp,b⟩
end DL
set_option autoImplicit false
namespace DL
open PySem L2 PySem.Spec PyProof.Rows
def sp_law(K:PySem.W.Frag):Sp:=fun vs H Q _=>∃(a:Addr) (ns:List Int),vs=[.ref a]/\SqL K H a (ns.map V.int)/\ns.length<=63 /\ ∀H',Q (.bl true) H'
theorem law_sp{K:PySem.W.Frag}{H:Hp}{a:Addr}{ns:List Int}{E:XK}(hl:ns.length<=63)(hS:SqL K H a (ns.map V.int)):sp_law K [.ref a] H (fun v _=>v=.bl true) E:=⟨a,ns,rfl,hS,hl,fun _=>rfl⟩
theorem ZqU{K:PySem.W.Frag}{mg:Str->Option Value}{F:List D->FO}(h:∀ns:List Int,ns.length<=63 -> ∃ds,F [.t (.scr ns)]=.ret (.t (.bl true)) ds):∀vs H Q E,sp_law K vs H Q E->spF K mg 1 F vs H Q E:=by
 rintro vs H Q E ⟨a,ns,rfl,hS,hl,hq⟩
 obtain⟨ds,e⟩:=h ns hl
 refine⟨rfl,H,fun b=>False\/False,[.t (.scr ns)],.refl _,.cons (.t (.scr hS) fun _ h=>h) .nil fun _ h _=>h,?_⟩
 rw[e]
 intro P' H' g' gd v _ _ _ o _
 cases o with
 | t h _=>cases h;exact hq H'
end DL
namespace L2
open PySem PySem.Spec PyProof.Rows
section
variable{X:Cx}{es:List Expr}{kk:Nat}{tp:Pos}
def ZpS(K:PySem.W.Frag)(ta:TA):TI:=fun σ H R=>ta σ H fun vs H1=>∃p q,vs=[.ref p,.ref q] /\
 (((∃xs,SqL K H1 p xs)/\(∃ys,SqL K H1 q ys)/\R (Itz K p q) H1)\/((∃xs,H1 p=some (.tup xs))/\(∃ys,H1 q=some (.tup ys))/\R (Itzt K p q) H1))
theorem ZgP{K:PySem.W.Frag}{a b:Expr}{ta:TA}{p pos:Pos}(hK:X.K=K)(hg:Gl X "zip")(hm:X.mg "zip"=none)(ha:PA X [a,b] ta)(hs:starEach [a,b] X.env=[(false,eval a X.env),(false,eval b X.env)]:=by rfl)(hs2:starEach [b] X.env=[(false,eval b X.env)]:=by rfl) :
 PI X (.Tuple es kk tp) (.Call (.Name "zip" p) [a,b] [] pos) (ZpS K ta):=by
 subst hK
 intro pins s σ H R I h
 refine Call_ (Zgq I hg hm boot_zip (PyProof.Rows.callWith_type1 (thn (ha pos pins s σ H _ I h) fun us s1 ⟨vs,H1,I1,r1,q1⟩=>?_) (by rw[hs,hs2]) (by rw[hs2];rfl)))
 obtain⟨a1,b1,e,q⟩:=q1
 subst e
 obtain⟨u1,u2,rfl,r,r'⟩:=ZlA r1
 cases(show u1=Value.ref a1 from r)
 cases(show u2=Value.ref b1 from r')
 rcases q with⟨⟨xs,hx⟩,⟨ys,hy⟩,q⟩ | ⟨⟨xs,hx⟩,⟨ys,hy⟩,q⟩
 · obtain⟨its,rv,p1,hz1⟩:=I1.list hx
   obtain⟨its2,rv2,p2,hz2⟩:=I1.list hy
   refine call_zip_2 p1.isList p2.isList fun h' z1 z2 z3 z4 z5 z6 z7=>?_
   refine wpAny_pyIter_zip z1 ?_
   have I2:Inv X pins σ H1 { s1 with heap:=h' }:=I1.kept (t':=s1.toks) z7
   refine⟨s1.heap.objs.size+4,[s1.heap.objs.size+4,s1.heap.objs.size+2,s1.heap.objs.size+3,s1.heap.objs.size,s1.heap.objs.size+1],_,_,H1,rfl,I2,
    ZlK a1 b1 _ _ _ _ _ (fun e=>absurd (Nat.add_left_cancel e) (by decide)) (fun e=>absurd (Nat.add_left_cancel (m:=0) e) (by decide)),⟨z1,z2,⟨_,_,z3⟩,z4,z5⟩,fun c hc=>?_,q⟩
   have hc':s1.heap.objs.size<=c:=by
    have:c=s1.heap.objs.size+4\/c=s1.heap.objs.size+2\/c=s1.heap.objs.size+3\/c=s1.heap.objs.size\/c=s1.heap.objs.size+1:=by simpa using hc
    rcases this with e | e | e | e | e
    · rw[e];exact Nat.le_add_right _ _
    · rw[e];exact Nat.le_add_right _ _
    · rw[e];exact Nat.le_add_right _ _
    · rw[e];exact Nat.le_refl _
    · rw[e];exact Nat.le_add_right _ _
   exact I1.fpOk hc' (I1.hok.fresh hc')
 · obtain⟨its,rv,p1,hz1⟩:=I1.tuple (.of hx)
   obtain⟨its2,rv2,p2,hz2⟩:=I1.tuple (.of hy)
   refine Zkc p1 p2 fun h' z1 z2 z3 z4 z5 z6 z7=>?_
   refine wpAny_pyIter_zip z1 ?_
   have I2:Inv X pins σ H1 { s1 with heap:=h' }:=I1.kept (t':=s1.toks) z7
   refine⟨s1.heap.objs.size+4,[s1.heap.objs.size+4,s1.heap.objs.size+2,s1.heap.objs.size+3,s1.heap.objs.size,s1.heap.objs.size+1],_,_,H1,rfl,I2,
    Zkd a1 b1 _ _ _ _ _ (fun e=>absurd (Nat.add_left_cancel e) (by decide)) (fun e=>absurd (Nat.add_left_cancel (m:=0) e) (by decide)),⟨z1,z2,⟨_,_,z3⟩,z4,z5⟩,fun c hc=>?_,q⟩
   have hc':s1.heap.objs.size<=c:=by
    have:c=s1.heap.objs.size+4\/c=s1.heap.objs.size+2\/c=s1.heap.objs.size+3\/c=s1.heap.objs.size\/c=s1.heap.objs.size+1:=by simpa using hc
    rcases this with e | e | e | e | e
    · rw[e];exact Nat.le_add_right _ _
    · rw[e];exact Nat.le_add_right _ _
    · rw[e];exact Nat.le_add_right _ _
    · rw[e];exact Nat.le_refl _
    · rw[e];exact Nat.le_add_right _ _
   exact I1.fpOk hc' (I1.hok.fresh hc')
end
end L2
namespace L2
open PySem PySem.Spec PyProof.Rows
theorem walk_ofX{l:PySem.W.OpenLaw}{n k:Nat}{q:Program}{loose:List Str}{XP:(Str->Option Value)->Heap->Prop}{YP:World->Heap->Prop}{d:DefRec}{K:Params->PySem.W.Frag}{sp:PySem.W.Frag->Sp}{x:Str}
 (hn:l.most=some n) (hn2:n<=sizeLine) (hdf:d.params.defaults=[]) (hr:Room k callerA) (hY:∀(w:World) (h:Heap),YP w h->(K w.params).In h)
 (F:∀(w:World) (mg:Str->Option Value) (fa:Addr) (h:Heap),(K w.params).In h->h.Ns mainGlobals mg->mg d.name=some (.ref fa) ->
   ∃fd:FuncData,(∀(s:Shared) (u:Value),BindsTo s fd ⟨[u],[]⟩ [(x,u)]) /\ ∀base:Heap,(K w.params).In base->base.Ns mainGlobals mg->FnOk l.prog w (K w.params) mg base (XC l.prog w) k fa fd [x] (sp (K w.params)))
 (hsp:∀(K:PySem.W.Frag) (H:Hp) (a:Addr) (ns:List Int),ns.length<=n->Only H->SqL K H a (ns.map V.int)->sp K [.ref a] H (fun v _=>v=.bl true) fun _ _ _=>False) :
 PySem.W.WalkO q loose XP YP l.row.toRowW d [] (fun f vs=>PySem.call f vs):=
 walk_of (K:=K) (CX:=fun w=>XC l.prog w) (sp:=fun w=>sp (K w.params)) hn hn2 hdf hr hY F (fun w H a ns h1 h2 h3=>hsp (K w.params) H a ns h1 h2 h3) fun w H s e s' z=>z.none
end L2
namespace DL
open PySem L2
variable{K:PySem.W.Frag}{mg:Str->Option Value}{fx:Nat->Option V}{E:XK}
theorem ZpT{P:Hp}{a b:Addr}{ts us:List T}{vs ws:List V}(h:P a=some (.tup vs))(h1:ts.length=vs.length)(h2:∀(i:Nat) t v,ts[i]? = some t->vs[i]? = some v->Den K mg P t v)(h':P b=some (.tup ws))(h1':us.length=ws.length)(h2':∀(i:Nat) t v,us[i]? = some t->ws[i]? = some v->Den K mg P t v) :
 ItD K mg P (Itzt K a b) (List.zipWith (fun x y=>.tup [x,y]) ts us):=fun P' H' s s'=>by
 have sq:H' a=some (.tup vs):=(s.trans s') _ _ h
 have sq':H' b=some (.tup ws):=(s.trans s') _ _ h'
 refine⟨fun i t e=>?_,vs,ws,sq,sq',by rw[List.length_zipWith];omega⟩
 rw[List.getElem?_zipWith] at e
 cases e1:ts[i]? with
 | none=>rw[e1] at e;cases e
 | some x=>
  cases e2:us[i]? with
  | none=>rw[e1,e2] at e;cases e
  | some y=>
   rw[e1,e2] at e
   cases e
   obtain⟨v,hv⟩:=Zdk (h1▸Zcn e1)
   obtain⟨w,hw⟩:=Zdk (h1'▸Zcn e2)
   refine⟨⟨vs,ws,v,w,sq,sq',hv,hw⟩,fun z H2 yl=>?_⟩
   obtain⟨l,x',y',hl,rfl,rfl,q1,q2⟩:=yl
   have z1:=q1 vs sq
   have z2:=q2 ws sq'
   rw[hv] at z1
   rw[hw] at z2
   cases z1;cases z2
   exact tup2 s' hl ((h2 i x v e1 hv).mono s) ((h2' i y w e2 hw).mono s)
def zipD:T->T->Option (List T)
 | .tup ts,.tup us=>some (List.zipWith (fun x y=>.tup [x,y]) ts us)
 | x,y=>match ZdZ x,ZdZ y with
  | some ts,some us=>some (List.zipWith (fun x y=>.tup [x,y]) ts us)
  | _,_=>none
def Zek(f g:SE):SI:=fun σ=>(f σ).bnd fun a σ1=>(g σ1).bnd fun b σ2=>match zipD (frz a) (frz b) with
 | some ts=>.ok ts σ2
 | none=>.bad
theorem ZgQ{t u:TE}{f g:SE}(h:TEd K mg fx E t f)(h':TEd K mg fx E u g):TId K mg fx E (ZpS K (Zc8 t (Zc8 u tNil))) (Zek f g):=by
 intro P H gs σ ν R S post
 unfold Zek at post
 refine h.run (Q:=fun x H1=>u ν H1 fun y H2=>∃p q,[x,y]=[.ref p,.ref q]/\(((∃xs,SqL K H2 p xs)/\(∃ys,SqL K H2 q ys)/\R (Itz K p q) H2)\/((∃xs,H2 p=some (.tup xs))/\(∃ys,H2 q=some (.tup ys))/\R (Itzt K p q) H2))) S (fun c σ' e=>by rw[e] at post;exact post) (fun e=>by rw[e] at post;exact post) fun a σ1 e P1 H1 gs1 v s1 S1 d1=>?_
 rw[e] at post
 dsimp only[Out.bnd] at post
 refine h'.run S1 (fun c σ' e=>by rw[e] at post;exact PostX.from post s1) (fun e=>by rw[e] at post;exact post) fun b σ2 e P2 H2 gs2 w s2 S2 d2=>?_
 rw[e] at post
 dsimp only at post
 split at post
 · rename_i zs ez
   unfold zipD at ez
   split at ez
   · rename_i ts us e1 e2
     cases ez
     have d1':=d1.mono s2.mono
     rw[e1] at d1'
     rw[e2] at d2
     cases d1' with
     | @tup _ p vs a1 a2 a3=>
      cases d2 with
      | @tup _ q ws b1 b2 b3=>exact⟨p,q,rfl,.inr ⟨⟨vs,S2.sub _ _ a1⟩,⟨ws,S2.sub _ _ b1⟩,post P2 H2 gs2 _ (s1.trans s2) S2 (ZpT a1 a2 a3 b1 b2 b3)⟩⟩
   · split at ez
     · rename_i ts us e1 e2
       cases ez
       obtain⟨p,vs,rfl,a1,a2,a3⟩:=ZfT (d1.mono s2.mono) e1
       obtain⟨q,ws,rfl,b1,b2,b3⟩:=ZfT d2 e2
       exact⟨p,q,rfl,.inl ⟨⟨vs,S2.sub.sqL a1⟩,⟨ws,S2.sub.sqL b1⟩,post P2 H2 gs2 _ (s1.trans s2) S2 (ZqP a1 a2 a3 b1 b2 b3)⟩⟩
     · cases ez
 · exact post.elim
end DL
set_option autoImplicit false
namespace DL
open PySem L2
section
variable{op:T->T->Option Bool}{fa fb:SE}{σ:Env'}{i j:Int}{x y:Str}{p q:Bool}{ts us:List T}{ns:List Int}
theorem Zl9:eB op fa fb σ=(fa σ).bnd fun a σ1=>(fb σ1).bnd fun b σ2=>match op (frz a) (frz b) with | some k=>.ok (.t (.bl k)) σ2 | none=>.bad:=by
 unfold eB e2
 cases fa σ with
 | bad=>rfl
 | exc c σ'=>rfl
 | ok a σ1=>
  dsimp only[Out.bnd]
  cases fb σ1 with
  | bad=>rfl
  | exc c σ'=>rfl
  | ok b σ2=>
   dsimp only
   cases op (frz a) (frz b)<;>rfl
theorem Zom{f:SE}:eNot f σ=(sT f σ).bnd fun k σ1=>.ok (.t (.bl (!k))) σ1:=by
 unfold eNot eT sNot
 cases sT f σ<;>rfl
theorem ZpU{lo hi:Option Int}{f:SE}:eCut lo hi f σ=(f σ).bnd fun a σ1=>match frz a with | .lst ts=>.ok (.lst ((cutT ts lo hi).map .t)) σ1 | .scr ns=>.ok (.lst ((cutT (ns.map .int) lo hi).map .t)) σ1 | _=>.bad:=by
 unfold eCut e1
 cases f σ with
 | bad=>rfl
 | exc c σ'=>rfl
 | ok a σ1=>
  dsimp only[Out.bnd]
  cases frz a<;>rfl
theorem Zkt:oAdd (.int i) (.int j)=some (.t (.int (i+j))):=rfl
theorem Zku:oSub (.int i) (.int j)=some (.t (.int (i - j))):=rfl
theorem Zem(h0:0<j)(h1:j<1073741824):oDiv (.int i) (.int j)=some (.t (.int (i / j))):=by
 show(if cDiv i j=true then _ else _)=_
 rw[if_pos (by simp[cDiv,h0,h1])]
theorem ZbS(h0:0<j):oMod (.int i) (.int j)=some (.t (.int (i % j))):=by
 show(if cPos i j=true then _ else _)=_
 rw[if_pos (by simp[cPos,h0])]
theorem ZmX:oNeg (.int i)=some (.t (.int (-i))):=rfl
theorem ZqV:oLt (.int i) (.int j)=some (decide (i<j)):=rfl
theorem ZqW:oLe (.int i) (.int j)=some (decide (i<=j)):=rfl
theorem ZqX:oGt (.int i) (.int j)=some (decide (j<i)):=rfl
theorem ZqY:oGe (.int i) (.int j)=some (decide (j<=i)):=rfl
theorem ZqZ:oEq (.int i) (.int j)=some (decide (i=j)):=rfl
theorem Zq0:oEq (.str x) (.str y)=some (decide (x=y)):=rfl
theorem Zq1:oEq (.bl p) (.bl q)=some (decide (p=q)):=rfl
theorem Zq2:oNe (.int i) (.int j)=some (!decide (i=j)):=rfl
theorem Zq3:oNe (.bl p) (.bl q)=some (!decide (p=q)):=rfl
theorem ZmY:oInS (.str x) (.str y)=some (!(Builtin.Str.occurrences y x 0 y.length 1).isEmpty):=rfl
theorem Zkv:Zok (.str x) (.str y)=some (!(!(Builtin.Str.occurrences y x 0 y.length 1).isEmpty)):=rfl
theorem ZhE{zs:List Str}:(zs.map T.str).all ZdR=true:=by
 induction zs with
 | nil=>rfl
 | cons z zs ih=>simp only[List.map_cons,List.all_cons,ih,ZdR,Bool.and_self]
theorem Zma{zs:List Str}{x:Str}:((zs.map T.str).any fun z=>eqT z (.str x))=decide (x∈zs):=by
 induction zs with
 | nil=>rfl
 | cons z zs ih=>
  rw[List.map_cons,List.any_cons,ih]
  show((z == x) || _)=_
  by_cases h:x=z
  · subst h;simp
  · simp[h,Ne.symm h]
theorem Zmb{zs:List Str}:oIn (.str x) (.lst (zs.map .str))=some (decide (x∈zs)):=by
 show(if (ZdR (.str x)&&(zs.map T.str).all ZdR)=true then _ else _)=_
 rw[ZhE,Zma]
 rfl
theorem Zmc{zs:List Str}:Zda (.str x) (.lst (zs.map .str))=some (!decide (x∈zs)):=by
 unfold Zda
 rw[Zmb]
 rfl
theorem Zkw(h:x.length<=1000000):oLen (.str x)=some (.t (.int x.length)):=by
 show(if _ then _ else _)=_
 rw[if_pos h]
theorem ZpV:oLen (.lst ts)=some (.t (.int ts.length)):=rfl
theorem ZpW:oLen (.tup ts)=some (.t (.int ts.length)):=rfl
theorem Zdl:oIx (.lst ts) (.int i)=(atI ts i).map .t:=rfl
theorem ZhF(h:ts.length+us.length<=1000000):oCat (.lst ts) (.lst us)=some (.lst ((ts++us).map .t)):=by
 show(if _ then _ else _)=_
 rw[if_pos h]
theorem Zmd:ZdO (.lst ts)=some (.lst (ts.map .t)):=rfl
theorem ZiJ{kvs:List (Str×T)}:ZdO (.dct kvs)=some (.lst (kvs.map fun p=>.t (.str p.1))):=rfl
theorem Zkx{kvs:List (Str×T)}:Zfp (.dct kvs)=some (.lst (kvs.map fun p=>.t p.2)):=rfl
theorem Zky{c f:Str}{fs:List (Str×T)}:oFld c f (.ins c fs)=(fs.lookup f).map .t:=by
 show(if c=c then _ else _)=_
 rw[if_pos rfl]
theorem Zby{t:T}:frz (.t t)=t:=by rw[frz]
theorem Zkz{ds:List D}:frz (.lst ds)=.lst (ds.map frz):=by rw[frz,Zh7]
theorem Zbz:frz (.lst (ts.map .t))=.lst ts:=by
 rw[Zkz,List.map_map,show frz∘D.t=id from funext fun t=>Zby,List.map_id]
theorem Zq4{kvs:List (Str×T)}:frz (.dct kvs)=.dct kvs:=by rw[frz]
theorem ZpX{c:Str}{fs:List (Str×D)}:frz (.obj c fs)=.ins c (fs.map fun p=>(p.1,frz p.2)):=by rw[frz,Zh8]
theorem ZfB:ZeF (.t (.bl p))=some p:=rfl
theorem Zme{α:Type}{xs:List α}{a:α}:atI (xs++[a]) (-1)=some a:=by
 unfold atI
 have h:ixN (xs++[a]).length (-1)=some xs.length:=by
  unfold ixN
  rw[List.length_append,List.length_singleton,if_neg (by decide),if_pos (by omega)]
  congr 1
  omega
 rw[h]
 simp
theorem atI_nat{α:Type}{xs:List α}{k:Nat}:atI xs (k:Int)=xs[k]?:=by
 unfold atI ixN
 rw[if_pos (by omega)]
 by_cases h:k<xs.length
 · rw[if_pos (by omega)]
   rfl
 · rw[if_neg (by omega),List.getElem?_eq_none (by omega)]
   rfl
end
theorem ZkA{ts:List T}:List.map frz (List.map D.t ts)=ts:=by
 rw[List.map_map,show frz∘D.t=id from funext fun t=>Zby,List.map_id]
theorem beqS{a b:Str}:(a == b)=decide (a=b):=by
 by_cases h:a=b
 · subst h;simp
 · simp[h]
end DL
set_option autoImplicit false
namespace DL
open PySem L2 PySem.Spec PyProof.Rows
variable{K:PySem.W.Frag}{mg:Str->Option Value}{fx:Nat->Option V}{E:XK}
def seen:Sl->Sl
 | .v d=>.v (.t (frz d))
 | .x d=>.v (.t (frz d))
 | _=>.e
def ZhG:T->Bool
 | .non=>true
 | .bl _=>true
 | .int _=>true
 | .str _=>true
 | _=>false
def Zjj:D->Bool
 | .t x=>ZhG x
 | _=>false
def Zon:D->Bool
 | .t x=>ZhG x
 | .lst ds=>ds.all Zjj
 | _=>false
theorem ZiK{P P':Hp}{x:T}{v:V}(f:ZhG x=true)(h:Den K mg P x v):Den K mg P' x v:=by
 cases h<;>first | exact .non | exact .bl | exact .int | exact .str | (cases f)
def ZcB(f:SE):SE:=fun σ=>match f (σ.map seen) with
 | .ok d _=>if Zon d=true then .ok d σ else .bad
 | _=>.bad
theorem ZcY{t:TE}{f:SE}(h:∀fx,TEd K mg fx E t f):TEd K mg fx E t (ZcB f):=by
 intro P H gs σ ν Q S post
 unfold ZcB at post
 have hg:∀b,tot gs b->P b=none:=fun b z=>(S.here z).2
 have S':StOk K mg (fun _=>none) (froz P H (tot gs)) H (fun _ _=>False) (σ.map seen) ν:=by
  refine⟨ZeE S.sub,by rw[List.length_map];exact S.len,fun i d e=>?_,fun _ _ _ z=>z,fun _ _ _ _ z=>z.elim,fun i e=>?_,fun i v e=>by cases e⟩
  · rw[List.getElem?_map] at e
    cases q:σ[i]? with
    | none=>rw[q] at e;cases e
    | some s=>
     rw[q] at e
     cases s with
     | e=>cases e
     | h=>cases e
     | v d0=>
      cases e
      obtain⟨v,h1,h2⟩:=S.slot i d0 (by rw[q];rfl)
      exact⟨v,h1,.t (h2.den (ZcF hg) fun b o hb e=>by rw[Zes ⟨i,hb⟩];exact e) fun _ z=>z⟩
     | x d0=>
      cases e
      obtain⟨v,h1,h2⟩:=S.slot i d0 (by rw[q];rfl)
      exact⟨v,h1,.t (h2.den (ZcF hg) fun b o hb e=>by rw[Zes ⟨i,hb⟩];exact e) fun _ z=>z⟩
  · rw[List.getElem?_map] at e
    cases q:σ[i]? with
    | none=>rw[q] at e;rcases e with e | ⟨_,e⟩<;>cases e
    | some s=>rw[q] at e;cases s<;>rcases e with e | ⟨_,e⟩<;>cases e
 refine h _ _ _ _ _ ν Q S' ?_
 cases e:f (σ.map seen) with
 | bad=>rw[e] at post;exact post
 | exc c σ1=>rw[e] at post;exact post.elim
 | ok d σ1=>
  rw[e] at post
  dsimp only at post
  split at post
  rotate_left
  · exact post.elim
  rename_i hf
  intro P1 H1 gs1 g1 v1 s1 S1 o1 dj1
  have ext:∀b o,H b=some o->H1 b=some o:=fun b o hb=>s1.frame b o (fun ⟨_,z⟩=>z) hb
  have newg:∀b,g1 b->H b=none:=fun b z=>(s1.new b (.inr z)).elim (fun ⟨_,y⟩=>y.elim) id
  have sub1:Sub P H1:=fun b o hb=>ext b o (S.sub b o hb)
  have nP:∀b,H b=none->P b=none:=fun b z=>by
   cases q:P b with
   | none=>rfl
   | some o=>rw[S.sub b o q] at z;cases z
  have own1:Own K mg P H1 g1 d v1:=by
   cases d with
   | t x=>cases o1 with | t hx hn=>exact .t (ZiK hf hx) hn
   | lst ds=>
    cases o1 with
    | lst h1 h2 h3 h4 h5 h6 h7 h8=>
     refine .lst h1 (nP _ (newg _ ((h8 _).mpr (.inl rfl)))) h3 (fun i d v a b=>?_) h5 h6 h7 h8
     have fd:Zjj d=true:=List.all_eq_true.mp hf d (List.mem_of_getElem? a)
     have o:=h4 i d v a b
     cases d with
     | t x=>cases o with | t hx hn=>exact .t (ZiK fd hx) hn
     | _=>cases fd
   | _=>cases hf
  refine post P H1 gs g1 v1 ⟨.refl _,fun b o _ hb=>ext b o hb,fun b z=>z.elim (fun y=>.inl y) fun y=>.inr (newg b y),fun _ _ hb=>.inl hb⟩ ⟨sub1,S.len,fun i d e=>?_,S.emp,S.dis,S.fix,S.fixed⟩ own1 fun b z y=>?_
  · obtain⟨v,h1,h2⟩:=S.slot i d e
    exact⟨v,h1,h2.frame (.refl _) (fun b o _ hb=>ext b o hb) fun b hb=>(h2.at b hb).2⟩
  · obtain⟨⟨o,q⟩,_⟩:=S.here z
    rw[newg b y] at q;cases q
def cPow(i j:Int):Bool:=decide (0<=j)&&(decide (j<=1000000)&&decide (i.natAbs<2 ^ 64))
theorem Zoo:∀i j,cPow i j=true->CPow i j:=fun i j h=>by
 unfold cPow at h
 simp only[Bool.and_eq_true,decide_eq_true_eq] at h
 exact⟨h.1,h.2.1,h.2.2⟩
def oPow:T->T->Option D:=oI cPow fun i j=>i ^ j.toNat
theorem ZpY:OpD K mg (rI CPow fun i j=>.int (i ^ j.toNat)) oPow:=Zl0 Zoo
theorem ZpZ{i j:Int}(h:cPow i j=true):oPow (.int i) (.int j)=some (.t (.int (i ^ j.toNat))):=by
 show(if cPow i j=true then _ else _)=_
 rw[if_pos h]
def Zp0:R2:=fun x y H Q=>∃z n,x=.str z/\y=.int n/\MulOk z n/\Q (.str (Txt.mul z n)) H
theorem Zop{X:Cx}:OpR X (binaryOp .Mult) Zp0:=by
 intro pins s σ H x y v u Q I rx ry h
 obtain⟨z,n,rfl,rfl,ok,q⟩:=h
 obtain⟨t,rfl⟩:=rx
 obtain⟨t',rfl⟩:=ry
 exact SB.mul ok fun t' k=>⟨.str _,H,I.tok k,⟨t',rfl⟩,q⟩
def ZkB:T->T->Option D
 | .str z,.int n=>if 0<=n/\n<=1000/\z.length<=1000 then some (.t (.str (Txt.mul z n))) else none
 | _,_=>none
theorem Zoq:OpD K mg Zp0 ZkB:=by
 intro P H x y v w d Q s hx hy e k
 unfold ZkB at e
 split at e
 · split at e
   · rename_i z n h
     cases e
     cases hx
     cases hy
     refine⟨z,n,rfl,rfl,⟨?_,fun _ _=>?_,fun _ _=>?_⟩,done s .str k⟩
     · simp only[Bool.or_eq_false_iff,decide_eq_false_iff_not]
       constructor<;>omega
     · have:(1000:Int)<=(2 ^ 63 - 1) / n:=by
        rw[Int.le_ediv_iff_mul_le (by omega)]
        omega
       omega
     · have hl:z.length*n.toNat<=1000*1000:=Nat.mul_le_mul h.2.2 (by omega)
       unfold Builtin.Str.tooLong
       simp only[decide_eq_false_iff_not]
       have:sizeLine=2 ^ 24:=rfl
       omega
   · cases e
 · cases e
theorem Zor{z:Str}{n:Int}(h0:0<=n)(h1:n<=1000)(h2:z.length<=1000):ZkB (.str z) (.int n)=some (.t (.str (Txt.mul z n))):=by
 show(if _ then _ else _)=_
 rw[if_pos ⟨h0,h1,h2⟩]
def ZmZ(K:PySem.W.Frag):List V->Hp->VK->Prop:=fun xs H Q=>∃a kvs,xs=[.ref a]/\H a=some (.dK kvs) /\ ∀p,H p=none->Q (.ref p) (upd H p (.dK kvs))
theorem Zjk{X:Cx}:ZcD X (.type "dict") (ZmZ K):=by
 intro pins s σ H xs us Q I r q
 obtain⟨a,kvs,rfl,ha,q⟩:=q
 obtain⟨u1,rfl,r1⟩:=ZeU r
 cases(show u1=Value.ref a from r1)
 exact ZlU I (.inl ha) fun p s' hp I'=>⟨.ref p,_,I',rfl,q p hp⟩
def ZhH:T->Option D
 | .dct kvs=>some (.dct kvs)
 | _=>none
theorem Zmf:UnD K mg (fun x H Q=>ZmZ K [x] H Q) ZhH:=by
 intro P H x v d Q s hx e k
 unfold ZhH at e
 split at e
 · rename_i kvs
   cases e
   cases hx with
   | @dct _ a ws q1 q2 q3=>
    refine⟨a,ws,rfl,s _ _ q1,fun p hp=>?_⟩
    have hP:=s.fresh hp
    have sb:Sub P (upd H p (.dK ws)):=fun b o e=>by rw[Zan (Zak e hP)];exact s b o e
    exact k P _ (fun b=>b=p) (.ref p) ⟨.refl _,fun b o _ e=>by rw[Zan (Zak e hp)];exact e,fun b z=>.inr (by rw[show b=p from z];exact hp),fun _ _ e=>.inl e⟩ sb (.dct ZaA hP q2 q3 fun b=>Iff.rfl)
 · cases e
def putT(kvs:List (Str×T))(k:Str)(v:T):List (Str×T):=if (kvs.any fun kv=>decide (kv.1=k))=true then kvs.map (fun kv=>if kv.1=k then(kv.1,v) else kv) else kvs++[(k,v)]
theorem ZiL{k:Str}:∀{kvs:List (Str×T)}{ws:List (Key×V)},ws.map (·.1)=kvs.map (fun p=>Sum.inr p.1)->(ws.any fun kv=>decide (kv.1=(Sum.inr k:Key)))=kvs.any fun kv=>decide (kv.1=k)
 | [],[],_=>rfl
 | [],_ :: _,e=>by simp at e
 | _ :: _,[],e=>by simp at e
 | (k',t) :: kvs,(j,w) :: ws,e=>by
  simp only[List.map_cons,List.cons.injEq] at e
  obtain⟨e1,e2⟩:=e
  subst e1
  rw[List.any_cons,List.any_cons,ZiL e2]
  congr 1
  simp
theorem Zos{P:Hp}{k:Str}{t0:T}{w0:V}{kvs:List (Str×T)}{ws:List (Key×V)}(h0:Den K mg P t0 w0)(e:ws.map (·.1)=kvs.map (fun p=>Sum.inr p.1))(h:∀(i:Nat) k t w,kvs[i]? = some (k,t)->ws[i]? = some (Sum.inr k,w)->Den K mg P t w) :
 (putK ws (Sum.inr k) w0).map (·.1)=(putT kvs k t0).map (fun p=>Sum.inr p.1) /\ ∀(i:Nat) j t w,(putT kvs k t0)[i]? = some (j,t)->(putK ws (Sum.inr k) w0)[i]? = some (Sum.inr j,w)->Den K mg P t w:=by
 have hlen:ws.length=kvs.length:=by have:=congrArg List.length e;simpa using this
 unfold putK putT
 rw[ZiL e]
 split
 · constructor
   · rw[List.map_map,List.map_map]
     refine List.ext_getElem? fun i=>?_
     have ei:=congrArg (fun l=>l[i]?) e
     simp only[List.getElem?_map] at ei ⊢
     cases q:kvs[i]? with
     | none=>
      rw[q] at ei
      cases q2:ws[i]? with
      | none=>rfl
      | some w=>rw[q2] at ei;cases ei
     | some p=>
      rw[q] at ei
      cases q2:ws[i]? with
      | none=>rw[q2] at ei;cases ei
      | some w=>
       rw[q2] at ei
       have ei':=Option.some.inj ei
       simp only[Option.map_some,Function.comp]
       congr 1
       by_cases hp:p.1=k
       · rw[if_pos hp,if_pos (by rw[show w.1=Sum.inr p.1 from ei',hp])]
         exact ei'
       · rw[if_neg hp,if_neg (by rw[show w.1=Sum.inr p.1 from ei'];exact fun z=>hp (Sum.inr.inj z))]
         exact ei'
   · intro i j t w a b
     rw[List.getElem?_map] at a b
     cases q:kvs[i]? with
     | none=>rw[q] at a;cases a
     | some p=>
      cases q2:ws[i]? with
      | none=>rw[q2] at b;cases b
      | some y=>
       rw[q] at a;rw[q2] at b
       have a':=Option.some.inj a
       have b':=Option.some.inj b
       have ek:y.1=Sum.inr p.1:=by
        have:=congrArg (fun l=>l[i]?) e
        simp only[List.getElem?_map,q,q2,Option.map_some] at this
        exact Option.some.inj this
       by_cases hp:p.1=k
       · dsimp only at a' b'
         rw[if_pos hp] at a'
         rw[if_pos (by rw[ek,hp])] at b'
         rw[<- (Prod.mk.inj a').2,<- (Prod.mk.inj b').2]
         exact h0
       · dsimp only at a' b'
         rw[if_neg hp] at a'
         rw[if_neg (by rw[ek];exact fun z=>hp (Sum.inr.inj z))] at b'
         subst a'
         subst b'
         exact h i j t w q q2
 · constructor
   · rw[List.map_append,List.map_append,e]
     rfl
   · intro i j t w a b
     by_cases hi:i<kvs.length
     · rw[List.getElem?_append_left hi] at a
       rw[List.getElem?_append_left (by omega)] at b
       exact h i j t w a b
     · rw[List.getElem?_append_right (by omega)] at a
       rw[List.getElem?_append_right (by omega)] at b
       rw[hlen] at b
       cases q:i - kvs.length with
       | zero=>rw[q] at a b;cases a;cases b;exact h0
       | succ n=>rw[q] at a;cases a
def sDPut(i:Nat)(fa fk:SE):SS:=fun σ=>(fa σ).th fun d σ1=>match (σ1[i]?).bind Sl.get with
 | some (.dct _)=>(fk σ1).th fun kd σ2=>(match (σ2[i]?).bind Sl.get,frz kd with
  | some (.dct kvs),.str k=>if kvs.length<1000000 then(match upSl i (.dct (putT kvs k (frz d))) σ2 with
   | some σ3=>.next σ3
   | none=>.bad) else .bad
  | _,_=>.bad)
 | _=>.bad
theorem Zif{i:Nat}{t u:TE}{fa fk:SE}(h:TEd K mg fx E t fa)(h':TEd K mg fx E u fk):TSd K mg fx E (L2.sDPut (tVar i) u t) (sDPut i fa fk):=by
 intro P H gs σ ν N S post
 unfold sDPut at post
 refine h.run S (fun c σ' e=>by rw[e] at post;exact PostS.x post) (fun e=>by rw[e] at post;exact post) fun d σ1 e P1 H1 gs1 v1 s1 S1 d1=>?_
 rw[e] at post
 dsimp only[Out.th] at post
 split at post
 rotate_left
 · exact post.elim
 rename_i kvs0 e0
 obtain⟨v,hv,o⟩:=S1.slot i _ e0
 refine⟨v,hv,?_⟩
 refine h'.run S1 (fun c σ' e=>by rw[e] at post;exact PostX.from (PostS.x post) s1) (fun e=>by rw[e] at post;exact post) fun kd σ2 e P2 H2 gs2 v2 s2 S2 d2=>?_
 rw[e] at post
 dsimp only at post
 split at post
 rotate_left
 · exact post.elim
 rename_i kvs k e1 ek
 rw[ek] at d2
 cases d2
 split at post
 rotate_left
 · exact post.elim
 rename_i hl
 split at post
 rotate_left
 · exact post.elim
 rename_i σ3 e3
 obtain⟨v',hv',o'⟩:=S2.slot i _ e1
 rw[hv] at hv'
 cases hv'
 cases o' with
 | @dct _ _ a ws q1 q2 q3 q4 q5=>
  have hlen:ws.length=kvs.length:=by have:=congrArg List.length q3;simpa using this
  refine⟨a,upd H2 a (.dK (putK ws (Sum.inr k) v1)),rfl,DPut.k (k:=Sum.inr k) q1 (by rw[hlen];exact Nat.lt_trans hl (by decide)),?_⟩
  obtain⟨p1,p2⟩:=Zos (k:=k) (d1.mono s2.mono) q3 q4
  have ga:gs2 i a:=(q5 a).mpr rfl
  obtain⟨S3,s3⟩:=S2.mut (g2:=gs2 i) (g0:=fun _=>False) e3 hv (fun _ _ z=>z) (fun b w n z=>by rw[Zan (fun q=>n (by rw[q];exact ga))];exact z) (Own.sub_upd S2.sub q2) (.dct ZaA q2 p1 p2 q5) fun b z=>.inl z
  refine post P2 _ _ ν ((s1.trans s2).trans ⟨s3.mono,fun b o n z=>s3.frame b o (fun y=>n (y.elim id fun w=>w.elim)) z,fun b z=>(s3.new b z).imp (fun y=>y.elim id fun w=>w.elim) id,fun b o z=>(s3.pnew b o z).imp id fun y=>y.imp (fun w=>w.elim id fun q=>q.elim) id⟩) S3
def oNeL:T->T->Option Bool
 | .lst ts,.lst us=>if ts.isEmpty || us.isEmpty then some (!(ts.isEmpty&&us.isEmpty)) else none
 | _,_=>none
theorem Zp1:OpB K mg (rNeA K) oNeL:=by
 intro P H x y v w k Q s hx hy e q
 unfold oNeL at e
 split at e
 · split at e
   · rename_i ts us hz
     cases e
     cases hx with
     | @lst _ a vs h1 h2 h3=>
      cases hy with
      | @lst _ b ws h1' h2' h3'=>
       have ev:vs.isEmpty=ts.isEmpty:=by cases vs<;>cases ts<;>first | rfl | (simp at h2)
       have ew:ws.isEmpty=us.isEmpty:=by cases ws<;>cases us<;>first | rfl | (simp at h2')
       refine⟨a,b,rfl,rfl,vs,ws,.of (s _ _ h1),.of (s _ _ h1'),?_,?_⟩
       · rw[<- ev,<- ew,Bool.or_eq_true] at hz
         rcases hz with z | z
         · exact .inl (by simpa using z)
         · exact .inr (.inl (by simpa using z))
       · have:decide (vs=ws)=(ts.isEmpty&&us.isEmpty):=by
          rw[<- ev,<- ew]
          rw[<- ev,<- ew,Bool.or_eq_true] at hz
          cases vs<;>cases ws<;>simp_all
         rw[this]
         exact q
   · cases e
 · cases e
theorem Zq5{X:Cx}(hK:X.K=K)(hu:X.A.units<cLine):OpR X (compareOp .NotEq) (rNeA K):=hK▸Zpm hu
def tOf:D->Option T
 | .t x=>some x
 | _=>none
def Zmg:D->Option (List T)
 | .t (.lst ts)=>some ts
 | .lst ds=>if ds.all (fun d=>(tOf d).isSome)=true then some (ds.map frz) else none
 | _=>none
theorem ZkC{P H:Hp}{g:Fp}{d:D}{v:V}{ts:List T}(s:Sub P H)(o:Own K mg P H g d v)(e:Zmg d=some ts):∃a vs,v=.ref a/\H a=some (.lst vs)/\ts.length=vs.length /\ ∀(i:Nat) t v,ts[i]? = some t->vs[i]? = some v->Den K mg P t v:=by
 cases d with
 | t x=>
  cases x<;>try (cases e;done)
  cases e
  cases o with
  | t hx _=>cases hx with | @lst _ a vs h1 h2 h3=>exact⟨a,vs,rfl,s _ _ h1,h2,h3⟩
 | lst ds=>
  replace e:(if ds.all (fun d=>(tOf d).isSome)=true then some (ds.map frz) else none)=some ts:=e
  split at e
  · rename_i hz
    cases e
    cases o with
    | lst h1 h2 h3 h4=>
     refine⟨_,_,rfl,h1,by rw[List.length_map];exact h3,fun i t v a b=>?_⟩
     rw[List.getElem?_map] at a
     cases q:ds[i]? with
     | none=>rw[q] at a;cases a
     | some d=>
      rw[q] at a
      cases a
      have:=List.all_eq_true.mp hz d (List.mem_of_getElem? q)
      have ow:=h4 i d v q b
      cases d with
      | t x=>cases ow with | t hx _=>rw[Zby];exact hx
      | _=>cases this
  · cases e
 | _=>cases e
end DL
set_option autoImplicit false
namespace DL
open PySem L2 PySem.Spec PyProof.Rows
variable{K:PySem.W.Frag}{mg:Str->Option Value}{fx:Nat->Option V}{E:XK}
def eMov(i:Nat):SE:=fun σ=>match lend i σ with
 | some (d,σ1)=>.ok d σ1
 | none=>.bad
theorem ZkD{i:Nat}:TEd K mg fx E (tVar i) (eMov i):=by
 intro P H gs σ ν Q S post
 unfold eMov at post
 split at post
 · rename_i d σ1 el
   obtain⟨v,hv,o,S1,dj,ht⟩:=S.lend el
   refine⟨v,hv,?_⟩
   exact post P H _ (gs i) v ⟨.refl _,fun _ _ _ h=>h,fun b h=>.inl ((ht b).mpr (h.elim .inr .inl)),fun _ _ h=>.inl h⟩ S1 o dj
 · exact post.elim
theorem ZgR{X:Cx}:ZcM (XC X.prog X.w) X E0:=fun _ _ _ _ _ _ _ h=>(XC.none h).elim
end DL
set_option autoImplicit false
namespace DL
open PySem L2 PySem.Spec PyProof.Rows
structure FunD(K:PySem.W.Frag)(x qual:Str)(st:Stmt)(f:Addr)(fd:FuncData):Prop where
 ex:∃(oc:Value) (od:Option Addr) (dV kV doc pm:Value) (an:Option Addr) (cdv ct:Value) (osl:Array (Option Value)),
  fd=PySem.W.fnOf x qual (ZdV st) (ZbT st) (Zal st) dV kV doc pm an cdv ct/\K.lookup f=some ⟨oc,od,.func fd,osl⟩/\PySem.W.codeIn K cdv qual=true
 kp:PySem.W.keepIn K (.ref f)=true
section
variable{P:Program}{w:World}{K:PySem.W.Frag}{mg:Str->Option Value}{base:Heap}
theorem FunD.okX{x qual:Str}{st:Stmt}{f:Addr}{fd:FuncData}{N ps:List Str}{k:Nat}{body:SS}{F:List D->FO}(T:FunD K x qual st f fd)(S:FnScope N ps (Zal st))(hn:ps.length<=N.length)(hF:∀ds,F ds=.bad\/F ds=runF N.length body ds)
 (hbody:∀(cdv:Value) (A:Around) (outer:List Env) (s:Shared) (H:Hp) (E:XK),Room k (A.deeper (envOfC qual (Zal st) s.heap.objs.size f cdv)) ->
   ∃t,PSs (cxOf (XC P w) P w K mg base N qual (Zal st) f cdv A outer s H E) (ZbT st) t /\ ∀fx,TSd K mg fx E t body):FnOk P w K mg base (XC P w) (k+1) f fd ps (spF K mg ps.length F):=by
 obtain⟨oc,od,dV,kV,doc,pm,an,cdv,ct,osl,rfl,lk,hcd⟩:=T.ex
 refine ZnB lk hcd S (fun vs H Q E h=>h.1) fun A outer s H vs Q E hr hsp=>?_
 obtain⟨t,h,q⟩:=hbody cdv A outer s H E hr
 exact⟨t,h,ZmJ hF q hn hsp⟩
structure TMD(K:PySem.W.Frag)(mg:Str->Option Value)(c m qual:Str)(st:Stmt)(ps:List Str)(d:Int):Prop where
 ex:∃(f:Addr) (fd:FuncData) (t:Tok),mg c=some (.ref (clsA mg c))/\Cls K (clsA mg c)/\Meth K (clsA mg c) m f/\FunD K m qual st f fd/\Binds K fd ps []/\Binds K fd ps [.int d t]
structure CalMD(P:Program)(w:World)(K:PySem.W.Frag)(mg:Str->Option Value)(base:Heap)(c m:Str)(k:Nat)(ps:List Str)(F:List D->FO)(d:Int):Prop where
 ex:∃(f:Addr) (fd:FuncData) (t:Tok),mg c=some (.ref (clsA mg c))/\Cls K (clsA mg c)/\Meth K (clsA mg c) m f/\FnOk P w K mg base (XC P w) k f fd ps (spF K mg ps.length F)/\Binds K fd ps []/\Binds K fd ps [.int d t]
theorem CalMD.m{c m:Str}{k:Nat}{ps:List Str}{F:List D->FO}{d:Int}(h:CalMD P w K mg base c m k ps F d):CalM P w K mg base c m k ps F:=by
 obtain⟨f,fd,t,a,b,e,g,h1,h2⟩:=h.ex
 exact⟨f,fd,a,b,e,g,h1⟩
theorem TMD.ok{c m qual:Str}{st:Stmt}{ps N:List Str}{k:Nat}{body:SS}{F:List D->FO}{d:Int}(T:TMD K mg c m qual st ps d)(S:FnScope N ps (Zal st))(hn:ps.length<=N.length)(hF:∀ds,F ds=.bad\/F ds=runF N.length body ds)
 (hbody:∀(f:Addr) (cdv:Value) (A:Around) (outer:List Env) (s:Shared) (H:Hp) (E:XK),Room k (A.deeper (envOfC qual (Zal st) s.heap.objs.size f cdv)) ->
   ∃t,PSs (cxOf (XC P w) P w K mg base N qual (Zal st) f cdv A outer s H E) (ZbT st) t /\ ∀fx,TSd K mg fx E t body):CalMD P w K mg base c m (k+1) ps F d:=by
 obtain⟨f,fd,t,hc,cl,mt,Fn,b1,b2⟩:=T.ex
 exact⟨f,fd,t,hc,cl,mt,FunD.okX Fn S hn hF (hbody f),b1,b2⟩
end
section
variable{X:Cx}{K:PySem.W.Frag}{mg:Str->Option Value}{E:XK}{c m:Str}{k:Nat}{ps:List Str}{F:List D->FO}{d:Int}{pos apos:Pos}{o:Expr}{ta:TE}
end
variable{K:PySem.W.Frag}{mg:Str->Option Value}{fx:Nat->Option V}{E:XK}
def Zmh(b:SB)(p:SP):SE:=fun σ=>match b σ,p σ with
 | some d,some (.int i)=>(match Zmg d with
  | some ts=>.ok (.lst ((cutT ts none (some i)).map .t)) σ
  | none=>.bad)
 | _,_=>.bad
theorem Zot{t u:TE}{b:SB}{p:SP}(h:TBd K mg fx t b)(h':TPd K mg fx u p):TEd K mg fx E (tSl (rSlL K) t ZjM (Zpf u)) (Zmh b p):=by
 intro P H gs σ ν Q S post
 unfold Zmh at post
 refine h P H gs σ ν _ S ?_
 split at post
 rotate_left
 · exact post.elim
 rename_i d i e1 e2
 rw[e1]
 intro g v o _
 refine h' P H gs σ ν _ S ?_
 rw[e2]
 intro w hw
 cases hw
 split at post
 rotate_left
 · exact post.elim
 rename_i ts el
 obtain⟨a,vs,rfl,ha,hl,hd⟩:=ZkC S.sub o el
 refine⟨i,rfl,a,vs,rfl,.of ha,?_⟩
 refine Zof S.sub hl hd fun P' H' g' u' s1 sb o'=>?_
 exact post P' H' gs g' u' s1.alloc (S.go s1 sb fun _ _ z=>z) o' (s1.frees fun b h=>(S.here h).1)
end DL
set_option autoImplicit false
namespace DL
open PySem L2 PySem.Spec PyProof.Rows
variable{K:PySem.W.Frag}{mg:Str->Option Value}{fx:Nat->Option V}{E:XK}
def ZhI:List T->Option (List Int)
 | []=>some []
 | .int z :: r=>(ZhI r).map (z :: ·)
 | _=>none
theorem ZkE{P:Hp}:∀{ts:List T}{zs:List Int}{vs:List V},ZhI ts=some zs->ts.length=vs.length->(∀(i:Nat) t v,ts[i]? = some t->vs[i]? = some v->Den K mg P t v)->vs=zs.map V.int
 | [],zs,vs,e,hl,h=>by
  cases e
  cases vs with
  | nil=>rfl
  | cons _ _=>simp at hl
 | t :: r,zs,[],e,hl,h=>by simp at hl
 | t :: r,zs,v :: vs,e,hl,h=>by
  cases t<;>try (cases e;done)
  rename_i z
  unfold ZhI at e
  cases q:ZhI r with
  | none=>rw[q] at e;cases e
  | some ys=>
   rw[q] at e
   cases e
   cases h 0 _ v rfl rfl
   rw[ZkE (vs:=vs) q (by simpa using hl) fun i t v a b=>h (i+1) t v (by simpa using a) (by simpa using b),List.map_cons]
def oSum:T->Option D
 | .lst ts=>(ZhI ts).map fun bs=>.t (.int bs.sum)
 | _=>none
def rSum(K:PySem.W.Frag):List V->Hp->VK->Prop:=fun vs H Q=>∃(l:Addr) (xs:List Int),vs=[.ref l]/\SqL K H l (xs.map V.int)/\Q (.int xs.sum) H
theorem Zp2:UnD K mg (fun x H Q=>rSum K [x] H Q) oSum:=by
 intro P H x v d Q s hx e k
 unfold oSum at e
 split at e
 · rename_i ts
   cases q:ZhI ts with
   | none=>rw[q] at e;cases e
   | some bs=>
    rw[q] at e
    cases e
    cases hx with
    | @lst _ a vs h1 h2 h3=>exact⟨a,bs,rfl,by rw[<- ZkE q h2 h3];exact .of (s _ _ h1),done s .int k⟩
 · cases e
theorem Zq6{X:Cx}(hK:X.K=K)(hc:X.calm=true):ZcD X (.builtin "sum") (rSum K):=Zi9 hK hc
def oAny:T->Option D
 | .lst ts=>(Zdc ts).map fun bs=>.t (.bl (bs.any id))
 | _=>none
def rAny(K:PySem.W.Frag):List V->Hp->VK->Prop:=fun vs H Q=>∃(l:Addr) (bs:List Bool),vs=[.ref l]/\SqL K H l (bs.map V.bl)/\Q (.bl (bs.any id)) H
theorem Zp3:UnD K mg (fun x H Q=>rAny K [x] H Q) oAny:=by
 intro P H x v d Q s hx e k
 unfold oAny at e
 split at e
 · rename_i ts
   cases q:Zdc ts with
   | none=>rw[q] at e;cases e
   | some bs=>
    rw[q] at e
    cases e
    cases hx with
    | @lst _ a vs h1 h2 h3=>exact⟨a,bs,rfl,by rw[<- ZgN q h2 h3];exact .of (s _ _ h1),done s .bl k⟩
 · cases e
theorem Zq7{X:Cx}(hK:X.K=K)(hc:X.calm=true):ZcD X (.builtin "any") (rAny K):=Zja hK hc
def numT:Nat->List T->List T
 | _,[]=>[]
 | j,x :: r=>.tup [.int (j:Int),x] :: numT (j+1) r
theorem ZiM:∀(ts:List T) (j:Nat),(numT j ts).length=ts.length
 | [],_=>rfl
 | x :: r,j=>by simp[numT,ZiM r (j+1)]
theorem ZiN:∀(ts:List T) (j i:Nat),(numT j ts)[i]? = (ts[i]?).map fun x=>.tup [.int ((j+i:Nat):Int),x]
 | [],j,i=>by simp[numT]
 | x :: r,j,0=>by simp[numT]
 | x :: r,j,i+1=>by
  simp only[numT,List.getElem?_cons_succ]
  rw[ZiN r (j+1) i,show j+1+i=j+(i+1) by omega]
def ZhJ(f:SE):SI:=fun σ=>(f σ).bnd fun a σ1=>match ZdZ (frz a) with
 | some ts=>.ok (numT 0 ts) σ1
 | none=>.bad
theorem Zq8{P:Hp}{a:Addr}{ts:List T}{vs:List V}(h:SqL K P a vs)(h1:ts.length=vs.length)(h2:∀(i:Nat) t v,ts[i]? = some t->vs[i]? = some v->Den K mg P t v) :
 ItD K mg P (Ite K a) (numT 0 ts):=fun P' H' s s'=>by
 have sq:SqL K H' a vs:=(s.trans s').sqL h
 refine⟨fun i t e=>?_,vs,sq,by rw[ZiM];omega⟩
 rw[ZiN] at e
 cases e1:ts[i]? with
 | none=>rw[e1] at e;cases e
 | some x=>
  rw[e1] at e
  cases e
  obtain⟨v,hv⟩:=Zdk (h1▸Zcn e1)
  refine⟨⟨vs,v,sq,hv⟩,fun z H2 yl=>?_⟩
  obtain⟨l,x',hl,rfl,rfl,q1⟩:=yl
  have z1:=q1 vs sq
  rw[hv] at z1
  cases z1
  rw[show((0+i:Nat):Int)=(i:Int) by simp]
  exact tup2 s' hl .int ((h2 i x v e1 hv).mono s)
theorem Zou{t:TE}{f:SE}(h:TEd K mg fx E t f):TId K mg fx E (ZnR K (Zc8 t tNil)) (ZhJ f):=by
 intro P H gs σ ν R S post
 unfold ZhJ at post
 refine h.run (Q:=fun x H1=>∃p,[x]=[.ref p]/\(∃xs,SqL K H1 p xs)/\R (Ite K p) H1) S (fun c σ' e=>by rw[e] at post;exact post) (fun e=>by rw[e] at post;exact post) fun a σ1 e P1 H1 gs1 v s1 S1 d1=>?_
 rw[e] at post
 dsimp only[Out.bnd] at post
 split at post
 · rename_i ts e1
   obtain⟨p,vs,rfl,a1,a2,a3⟩:=ZfT d1 e1
   exact⟨p,rfl,⟨vs,S1.sub.sqL a1⟩,post P1 H1 gs1 _ s1 S1 (Zq8 a1 a2 a3)⟩
 · exact post.elim
end DL
set_option autoImplicit false
namespace L2
open PySem PySem.Spec PyProof.Rows
def Itd(a:Addr)(o:Obj)(kvs:List (Key×V)):It:=
 ⟨fun i H=>H a=some (.frz o (.dK kvs))/\i<kvs.length,
  fun i H v H'=>H'=H /\ ∃p,kvs[i]? = some p/\v=kV p.1,
  fun i H=>H a=some (.frz o (.dK kvs))/\kvs.length<=i⟩
theorem Zm0{X:Cx}{pins:List (Addr×Obj)}{σ:St}{H:Hp}{s:Shared}{a:Addr}{o:Obj}{es:Array DictEntry}{ep:Nat}{kvs:List (Key×V)}(I:Inv X pins σ H s)(h:H a=some (.frz o (.dK kvs)))(hd:o.data=.dict es ep) :
 (a == sysModules)=false /\ ∃vs,KV kvs vs/\s.heap.DictAt (Zbg X.prog X.w) a vs ep:=by
 obtain⟨g,_,n,vs,r,o',es',ep',g',c,d',rest⟩:=(show ObjOk X.prog X.w H s.heap a (.frz o (.dK kvs)) from I.hok a _ h)
 rw[g] at g'
 cases g'
 rw[hd] at d'
 cases d'
 exact⟨n,vs,r,o,es,g,c,hd,rest⟩
theorem ZkF{P:Program}{w:World}{K:PySem.W.Frag}{tg:Expr}(a it:Addr){o:Obj}{es:Array DictEntry}{ep:Nat}{kvs:List (Key×V)}(hd:o.data=.dict es ep) :
 Turn P w K tg (Itd a o kvs) [it] it (fun i h=>h.IsKeyIter it a i kvs.length ep) where
 mem:=by simp
 obj:=fun i h st b hb=>by
  have e:b=it:=by simpa using hb
  subst e
  obtain⟨o,e,c,d⟩:=st
  exact⟨o,e,fun v z=>by rw[d] at z;cases z⟩
 keep:=fun i h h' st k=>st.at fun o e=>k it (by simp) o e
 item:=by
  intro X hP hw hK hc i pins s σ H E I hf st hg
  subst hP hw hK
  obtain⟨hF,hi⟩:=hg
  obtain⟨hn,vs,r,m⟩:=Zm0 I hF hd
  obtain⟨f0,f1,f2,f3,f4,f5⟩:=hf it (by simp)
  have hl:=r.length
  have hx:vs[i]? = some vs[i]:=by simp[hl▸hi]
  rw[hl] at st
  refine wpAny_pyNext_dict_item st m (k:=vs[i].1) (v:=vs[i].2) hx fun key h' hk st' sb=>?_
  have I1:Inv X pins σ H { s with heap:=h' }:=I.turned (t':=s.toks) (fun b o hb e=>(sb.2 b hb).trans e) f0 f1 f3 f4 f5
  obtain⟨o',e',c',d'⟩:=id st'
  have hk1:kvs[i].1=vs[i].1:=(Zj9 r i kvs[i].1 kvs[i].2 vs[i].1 vs[i].2 (by simp[hi]) hx).1
  exact⟨key,rfl,Zlx (s:={ s with heap:=h' }) e' c' d' (by decide) ⟨kV kvs[i].1,H,I1,by rw[hk1];exact Zpt hk,⟨rfl,kvs[i],by simp[hi],rfl⟩,by rw[hl];exact st',fun b hb=>(hf b hb).1⟩⟩
 done:=by
  intro X hP hw hK hc i pins s σ H E I hf st hg
  subst hP hw hK
  obtain⟨hF,hi⟩:=hg
  obtain⟨hn,vs,r,m⟩:=Zm0 I hF hd
  obtain⟨f0,f1,f2,f3,f4,f5⟩:=hf it (by simp)
  have hl:=r.length
  rw[hl] at st hi
  exact wpAny_pyNext_dict_end (I.ok.hd hc) st m (List.getElem?_eq_none hi) fun h' eb=>⟨rfl,I.turned (t':=s.toks) (fun b o hb e=>eb b o hb e) f0 f1 f3 f4 f5⟩
 self:=fun _ _ _ _ _ st h=>wpAny_pyIter_keyiter st h
section
variable{X:Cx}{tg:Expr}
def Zp4(td:TE):TI:=fun σ H R=>td σ H fun x H1=>∃a kvs,x=.ref a/\H1 a=some (.dK kvs) /\ ∀o,R (Itd a o kvs) (upd H1 a (.frz o (.dK kvs)))
theorem Zov{l:Expr}{td:TE}(hl:PE X l td):PI X tg l (Zp4 td):=by
 intro pins s σ H R I h
 refine thn (hl pins s σ H _ I h) fun v s1 ⟨x,H1,I1,r1,q1⟩=>?_
 obtain⟨a,kvs,e,hq,q⟩:=q1
 subst e
 cases r1
 obtain⟨hz,hn,vs,r,o,es,ep,g,c,d,rest⟩:=Zj3 I1.hok hq
 have I2:Inv X pins σ (upd H1 a (.frz o (.dK kvs))) s1:=by
  have:=I1.write (x:=a) (e:=a) (h':=s1.heap) (t':=s1.toks) (o:=.frz o (.dK kvs)) (by rw[hq];trivial) (.inl rfl) (fun b u _ z=>z) ⟨o,g⟩ ⟨g,hz,hn,vs,r,o,es,ep,g,c,d,rest⟩
  exact this
 refine wpAny_pyIter_dict hn (knd:=Zbg X.prog X.w) (kvs:=vs) (ep:=ep) ⟨o,es,g,c,d,rest⟩ ?_
 refine⟨s1.heap.objs.size,[s1.heap.objs.size],_,_,_,rfl,I2.kept (t':=s1.toks) fun b o e=>Heap.get?_push_of_some _ e,ZkF a _ (kvs:=kvs) d,⟨_,Heap.get?_push_size _ rfl,rfl,by rw[r.length];rfl⟩,fun b hb=>?_,q o⟩
 have e:b=s1.heap.objs.size:=by simpa using hb
 subst e
 exact I2.fpOk (Nat.le_refl _) (I2.hok.fresh (Nat.le_refl _))
def Zp5(t:TE):TE:=fun σ H Q=>∃a kvs,H a=some (.dK kvs)/\t σ H fun x H1=>∃o,H1 a=some (.frz o (.dK kvs))/\Q x (upd H1 a (.dK kvs))
theorem Zow{e:Expr}{t:TE}(h:PE X e t):PE X e (Zp5 t):=by
 intro pins s σ H Q I q
 obtain⟨a,kvs,hq,q⟩:=q
 refine thn (h pins s σ H _ I q) fun v s1 ⟨x,H1,I1,r1,o,h1,q1⟩=>⟨x,upd H1 a (.dK kvs),?_,r1,q1⟩
 have n0:∀b u,X.H₀ b=some u->(∃xs,u=.tup xs)\/(∃o v,u=.frz o v)\/(∃ps,u=.tbl ps)->b≠a:=fun b u e z hb=>by
  subst hb
  rcases z with⟨xs,rfl⟩ | ⟨o,v,rfl⟩ | ⟨ps,rfl⟩
  · have:=I.base.tups _ _ e;rw[hq] at this;cases this
  · have:=I.base.frzs _ _ _ e;rw[hq] at this;cases this
  · obtain⟨m,this⟩:=I.base.tbls _ _ e;rw[hq] at this;cases this
 have ne:∀b,H1 b=none->b≠a:=fun b e hb=>by subst hb;rw[h1] at e;cases e
 refine⟨I1.ok,I1.os,I1.bare,⟨I1.base.keep,I1.base.slot,fun b o e n hx=>?_,I1.base.there,fun b xs e=>?_,fun b o u e=>?_,fun b ps e=>?_⟩,I1.loc,I1.cell,?_,fun x c e=>?_,fun p hp=>?_,?_,I1.len⟩
 · have:=I1.base.free b o e n hx
   rw[Zan (ne b this)];exact this
 · rw[Zan (n0 b _ e (.inl ⟨_,rfl⟩))];exact I1.base.tups b xs e
 · rw[Zan (n0 b _ e (.inr (.inl ⟨_,_,rfl⟩)))];exact I1.base.frzs b o u e
 · rw[Zan (n0 b _ e (.inr (.inr ⟨_,rfl⟩)))];exact I1.base.tbls b ps e
 · rw[Zan (ne _ I1.free)];exact I1.free
 · rw[Zan (ne _ (I1.freeC x c e))];exact I1.freeC x c e
 · obtain⟨p1,p2,p3,p4,p5⟩:=I1.pin p hp
   exact⟨p1,by rw[Zan (ne _ p2)];exact p2,p3,p4,p5⟩
 · intro b u e
   have own:∀c d,H1 c=some (.own d)->upd H1 a (.dK kvs) c=some (.own d):=fun c d z=>by
    rw[Zan (fun hb=>by subst hb;rw[h1] at z;cases z)];exact z
   have tup:∀c xs,H1 c=some (.tup xs)->upd H1 a (.dK kvs) c=some (.tup xs):=fun c xs z=>by
    rw[Zan (fun hb=>by subst hb;rw[h1] at z;cases z)];exact z
   by_cases hb:b=a
   · subst hb
     rw[ZaA] at e
     cases e
     exact(show ObjOk X.prog X.w H1 s1.heap b (.frz o (.dK kvs)) from I1.hok b _ h1).2.stay (fun _ _ _ z=>z) (fun c z=>own c b z) tup
   · rw[Zan hb] at e
     exact(I1.hok b u e).stay (fun _ _ _ z=>z) (fun c z=>own c b z) tup
end
section
variable{K:PySem.W.Frag}{g:TG}{tt:TT}{te:TE}{σ:St}{H:Hp}{Q:VK}
theorem Zox{a:Addr}{o:Obj}{kvs:List (Key×V)}(Pv:Nat->St->Hp->List V->Prop)(h0:Pv 0 σ H [])(hl:∀i σ H zs,i<=kvs.length->Pv i σ H zs->H a=some (.frz o (.dK kvs)))
 (hs:∀i p σ H zs,kvs[i]? = some p->Pv i σ H zs->g (kV p.1) σ H fun σ3 H3=>tt σ3 H3 fun c H4=>if c=true then te σ3 H4 fun z H5=>zs.length<sizeLine/\Pv (i+1) σ3 H5 (zs++[z]) else Pv (i+1) σ3 H4 zs)
 (hd:∀σ H zs,Pv kvs.length σ H zs->zs.length<=sizeLine /\ ∀p,H p=none->Q (.ref p) (upd H p (.lst zs))):ZjW (Itd a o kvs) g tt te Q σ H:=by
 refine⟨fun i m σ H zs=>m=kvs.length - i/\i<=kvs.length/\Pv i σ H zs,⟨kvs.length,by simp,Nat.zero_le _,h0⟩,?_⟩
 rintro i m σ H zs ⟨rfl,hi,p⟩
 have q:=hl i σ H zs hi p
 by_cases hlt:i<kvs.length
 · refine .inr ⟨⟨q,hlt⟩,Pv (i+1),fun σ' H' zs' p'=>⟨kvs.length - (i+1),by omega,rfl,hlt,p'⟩,fun v H' y=>?_⟩
   obtain⟨rfl,p',e1,rfl⟩:=y
   exact hs i p' σ H' zs e1 p
 · have e:i=kvs.length:=by omega
   exact .inl ⟨⟨q,by omega⟩,hd σ H zs (e▸p)⟩
end
end L2
namespace DL
open PySem L2 PySem.Spec PyProof.Rows
variable{K:PySem.W.Frag}{mg:Str->Option Value}{fx:Nat->Option V}{E:XK}
def nzV:Option V->Bool
 | some (.int j)=>decide (j≠0)
 | _=>true
def rDK:V->Hp->VK->Prop:=fun x H Q=>∃a ws,x=.ref a/\H a=some (.dK ws)/\ws.length<sizeLine/\(∀w∈ws,∃j,valV ws w.1=some (.int j)) /\
 ∀l,H l=none->Q (.ref l) (upd H l (.lst ((ws.filter fun w=>nzV (valV ws w.1)).map fun w=>kV w.1)))
def tDK(i:Nat):TE:=Zp5 (Zhq (Zp4 (tVar i)) [none,some i] (ZgF 0) (Znu (tOp rNe (Zpq (tVar 1) (tVar 0)) (tC (.int 0)))) (tVar 0))
theorem Zp6{i:Nat}{σ:L2.St}{H:Hp}{Q:VK}{v:V}(hv:σ[i]? = some (some v))(h:rDK v H Q):tDK i σ H Q:=by
 obtain⟨a,ws,rfl,ha,hn,hi,q⟩:=h
 refine⟨a,ws,ha,?_⟩
 refine Zpk ?_
 refine⟨.ref a,hv,a,ws,rfl,ha,fun o=>?_⟩
 have hc:capt σ [none,some i]=[none,some (.ref a)]:=by simp[capt,hv]
 rw[hc]
 refine Zox (kvs:=ws) (fun j σ' H' zs=>H'=upd H a (.frz o (.dK ws))/\σ'.length=2/\σ'[1]? = some (some (.ref a))/\zs=((ws.take j).filter fun w=>nzV (valV ws w.1)).map fun w=>kV w.1) ⟨rfl,rfl,rfl,by simp⟩ ?_ ?_ ?_
 · rintro j σ' H' zs _ ⟨rfl,_⟩
   exact ZaA
 · rintro j p σ' H' zs hp ⟨rfl,h2,h1,rfl⟩
   obtain⟨jv,hj⟩:=hi p (List.mem_of_getElem? hp)
   have hl:(((ws.take j).filter fun w=>nzV (valV ws w.1)).map fun w=>kV w.1).length<sizeLine:=by
    rw[List.length_map]
    exact Nat.lt_of_le_of_lt (Nat.le_trans (List.length_filter_le _ _) (by rw[List.length_take];exact Nat.min_le_right _ _)) hn
   have h1':(σ'.set 0 (some (kV p.1)))[1]? = some (some (.ref a)):=by rw[List.getElem?_set_ne (by decide)];exact h1
   have h0':(σ'.set 0 (some (kV p.1)))[0]? = some (some (kV p.1)):=List.getElem?_set_self (by omega)
   have tk:ws.take (j+1)=ws.take j++[p]:=by rw[List.take_add_one,hp];rfl
   refine⟨.ref a,h1',kV p.1,h0',a,.int jv,rfl,.inl ⟨ws,p.1,.inr ⟨o,ZaA⟩,rfl,hj.symm⟩,?_⟩
   have e0:(!decide (V.int jv=V.int 0))=nzV (valV ws p.1):=by
    rw[hj,ZhY]
    simp[nzV]
    exact rfl
   refine⟨rfl,nzV (valV ws p.1),by rw[e0],?_⟩
   dsimp only
   by_cases hz:nzV (valV ws p.1)=true
   · rw[if_pos hz]
     refine⟨kV p.1,h0',hl,rfl,by rw[List.length_set];exact h2,h1',?_⟩
     rw[tk,List.filter_append,List.map_append]
     simp[hz]
   · rw[if_neg hz]
     refine⟨rfl,by rw[List.length_set];exact h2,h1',?_⟩
     rw[tk,List.filter_append,List.map_append]
     simp[hz]
 · rintro σ' H' zs ⟨rfl,h2,h1,rfl⟩
   rw[List.take_length]
   refine⟨?_,fun p hp=>?_⟩
   · rw[List.length_map]
     exact Nat.le_of_lt (Nat.lt_of_le_of_lt (List.length_filter_le _ _) hn)
   · have na:p≠a:=fun e=>by subst e;rw[ZaA] at hp;cases hp
     refine⟨o,by rw[Zan (Ne.symm na),ZaA],?_⟩
     rw[Zan na] at hp
     have:=q p hp
     have eH:upd (upd (upd H a (.frz o (.dK ws))) p (.lst ((ws.filter fun w=>nzV (valV ws w.1)).map fun w=>kV w.1))) a (.dK ws)=upd H p (.lst ((ws.filter fun w=>nzV (valV ws w.1)).map fun w=>kV w.1)):=by
      funext b
      by_cases b1:b=a
      · subst b1
        rw[ZaA,Zan (Ne.symm na),ha]
      · by_cases b2:b=p
        · subst b2
          rw[Zan na,ZaA,ZaA]
        · rw[Zan b1,Zan b2,Zan b1,Zan b2]
     rw[eH]
     exact this
def nzT:Option T->Bool
 | some (.int j)=>decide (j≠0)
 | _=>true
def isI:Option T->Bool
 | some (.int _)=>true
 | _=>false
def Zgx:T->Option D
 | .dct kvs=>if kvs.length<1000000/\kvs.all (fun p=>isI (kvs.lookup p.1))=true then some (.lst (((kvs.filter fun p=>nzT (kvs.lookup p.1)).map fun p=>T.str p.1).map D.t)) else none
 | _=>none
theorem Zmi:UnD K mg rDK Zgx:=by
 intro P H x v d Q s hx e k
 unfold Zgx at e
 split at e
 · rename_i kvs
   split at e
   · rename_i hc
     obtain⟨hn,hall⟩:=hc
     cases e
     cases hx with
     | @dct _ a ws q1 q2 q3=>
      have hl:ws.length=kvs.length:=by
       have:=congrArg List.length q2
       simpa using this
      have key:∀z:Str,(∃t,(z,t)∈kvs) -> ∃j,kvs.lookup z=some (.int j)/\valV ws (Sum.inr z)=some (.int j):=fun z ⟨t,hz⟩=>by
       have h1:=List.all_eq_true.mp hall _ hz
       dsimp only at h1
       rcases ZeY (k:=z) q2 q3 with⟨z1,z2⟩ | ⟨t',w,z1,z2,dn⟩
       · rw[z1] at h1;cases h1
       · rw[z1] at h1
         cases t'<;>try (cases h1;done)
         cases dn
         exact⟨_,z1,z2⟩
      have mem:∀w∈ws,∃z,w.1=Sum.inr z /\ ∃t,(z,t)∈kvs:=fun w hw=>by
       have:w.1∈kvs.map (fun p=>(Sum.inr p.1:Key)):=by rw[<- q2];exact List.mem_map.mpr ⟨w,hw,rfl⟩
       obtain⟨p,hp,e⟩:=List.mem_map.mp this
       exact⟨p.1,e.symm,p.2,hp⟩
      refine⟨a,ws,rfl,s _ _ q1,?_,fun w hw=>?_,fun l hl=>?_⟩
      · rw[hl]
        exact Nat.lt_of_lt_of_le hn (by decide)
      · obtain⟨z,e,ht⟩:=mem w hw
        obtain⟨j,_,h2⟩:=key z ht
        exact⟨j,by rw[e];exact h2⟩
      · have e2:((ws.filter fun w=>nzV (valV ws w.1)).map fun w=>kV w.1)=(kvs.filter fun p=>nzT (kvs.lookup p.1)).map fun p=>V.str p.1:=by
         have f1:((ws.filter fun w=>nzV (valV ws w.1)).map fun w=>kV w.1)=((ws.map (·.1)).filter fun k=>nzV (valV ws k)).map kV:=by
          rw[List.filter_map,List.map_map];rfl
         rw[f1,q2,List.filter_map,List.map_map]
         have f2:(kvs.filter ((fun k=>nzV (valV ws k))∘fun p=>(Sum.inr p.1:Key)))=kvs.filter fun p=>nzT (kvs.lookup p.1):=by
          refine List.filter_congr fun p hp=>?_
          obtain⟨j,h1,h2⟩:=key p.1 ⟨p.2,hp⟩
          show nzV (valV ws (Sum.inr p.1))=_
          rw[h1,h2]
          rfl
         rw[f2]
         rfl
        rw[e2]
        refine newL s hl (by simp) (fun i t v a b=>?_) k
        rw[List.getElem?_map] at a b
        cases q:(kvs.filter fun p=>nzT (kvs.lookup p.1))[i]? with
        | none=>rw[q] at a;cases a
        | some p=>rw[q] at a b;cases a;cases b;exact .str
   · cases e
 · cases e
theorem Zmj{i:Nat}:TEd K mg fx E (tDK i) (e1 Zgx (eVar i)):=by
 intro P H gs σ ν Q S post
 obtain⟨v,hv,h⟩:=Zhx (r:=rDK) Zmi (Zab (i:=i)) P H gs σ ν Q S post
 exact Zp6 hv h
end DL
namespace DL
open PySem L2 PySem.Spec PyProof.Rows
variable{K:PySem.W.Frag}{mg:Str->Option Value}
def oEqL:T->T->Option Bool
 | .lst ts,.lst us=>if ts.isEmpty || us.isEmpty then some (ts.isEmpty&&us.isEmpty) else none
 | _,_=>none
theorem Zp7:OpB K mg (rEqA K) oEqL:=by
 intro P H x y v w k Q s hx hy e q
 unfold oEqL at e
 split at e
 · split at e
   · rename_i ts us hz
     cases e
     cases hx with
     | @lst _ a vs h1 h2 h3=>
      cases hy with
      | @lst _ b ws h1' h2' h3'=>
       have ev:vs.isEmpty=ts.isEmpty:=by cases vs<;>cases ts<;>first | rfl | (simp at h2)
       have ew:ws.isEmpty=us.isEmpty:=by cases ws<;>cases us<;>first | rfl | (simp at h2')
       refine⟨a,b,rfl,rfl,vs,ws,.of (s _ _ h1),.of (s _ _ h1'),?_,?_⟩
       · rw[<- ev,<- ew,Bool.or_eq_true] at hz
         rcases hz with z | z
         · exact .inl (by simpa using z)
         · exact .inr (.inl (by simpa using z))
       · have:decide (vs=ws)=(ts.isEmpty&&us.isEmpty):=by
          rw[<- ev,<- ew]
          rw[<- ev,<- ew,Bool.or_eq_true] at hz
          cases vs<;>cases ws<;>simp_all
         rw[this]
         exact q
   · cases e
 · cases e
end DL
set_option autoImplicit false
namespace DL
open PySem PySem.W
def goT(p:Program)(w:World):Nat->SharedT->Thread->Option SharedT
 | 0,_,_=>none
 | n+1,s,t=>match through t with
  | true=>some s
  | false=>match stepOk 11 (some (.ref 6)) t with
   | false=>none
   | true=>match stepT (denote treeTable) p w s t with
    | some r=>goT p w n r.1 r.2
    | none=>none
theorem ZkG{p:Program}{w:World}:∀(n:Nat) (s r:SharedT) (t:Thread),goT p w n s t=some r->topRun treeTable p w 11 (some (.ref 6)) n s.abs t=some r.abs
 | 0,s,r,t,h=>by cases h
 | n+1,s,r,t,h=>by
  unfold goT at h
  unfold topRun
  generalize through t=b1 at h ⊢
  cases b1 with
  | true=>cases h;rfl
  | false=>
   generalize stepOk 11 (some (.ref 6)) t=b2 at h ⊢
   cases b2 with
   | false=>cases h
   | true=>
    dsimp only at h ⊢
    cases q:stepT (denote treeTable) p w s t with
    | none=>rw[q] at h;cases h
    | some x=>
     rw[q] at h
     rw[stepT_spec (s':=x.1) (t':=x.2) q]
     exact ZkG n x.1 r x.2 h
noncomputable def Zoy(P:Params):BT:=.node (boot_o_0 P) (.node (boot_o_1 P) (.node (boot_o_3 P) (.node (boot_o_7 P) .nil .nil) .nil) (.node (boot_o_5 P) (.node (boot_o_9 P) .nil .nil) .nil)) (.node (boot_o_2 P) (.node (boot_o_4 P) (.node (boot_o_8 P) .nil .nil) .nil) (.node (boot_o_6 P) (.node (boot_o_10 P) .nil .nil) .nil))
theorem ZkH(P:Params):absHeap (Zoy P) 11 {}=boot_heap P:=by kernel_rfl
def Zoz(q:Program)(s:Shared):Bool:=xlAt q [] s&&recOk [] s
noncomputable def Zp8(p q:Program)(ka:List Addr)(P:Params)(s:Shared):=((staticsOk (importedModules p.main.body) (boot_heap P) s.heap&&namesBound p s.heap&&gensDone s&&laidKept (boot_heap P) s.heap),openSeen q [] (importedModules p.main.body) (Zoz q) true s,ka.map s.heap.get?)
noncomputable def runS(p q:Program)(ka:List Addr)(n:Nat)(w:World)(os:OsState):=(goT p w n ⟨Zoy w.params,11,{},Array.mk [],boot_drawn,boot_toks,os⟩ (topStub p)).map fun r=>Zp8 p q ka w.params r.abs
noncomputable def Zp9(q:Program)(K:Params->Frag)(w:World)(_:OsState):=some (true,openGood q [],(K w.params).map fun x=>some x.2)
theorem ZkI(w:World):((boot_heap w.params).isNs mainGlobals&&(Array.mk ([]:List GenState)).size == 0,(boot_heap w.params).objs.size,(boot_heap w.params).nsMap mainGlobals "__annotations__")=(true,11,some (.ref 6)):=by kernel_rfl
theorem ZoA{p q:Program}{ka:List Addr}{K:Params->Frag}{n:Nat}{ek:∀P,ka=(K P).map (·.1)}(e:opening p=plainProg p.main.scope.names)(hn:Nat.ble 600 n=true)(f:∀s,fenceModules? p s=some s)
 (run:∀w,runS p q ka n w=Zp9 q K w):LeftO p q [] (Zoz q) (kHook K ka ek).obs (kHook K ka ek).val n true:=by
 intro w
 obtain⟨s0,e0,e1⟩:=Option.map_eq_some_iff.mp (boot_open e hn f w)
 obtain⟨h,gs,d,k,os⟩:=s0
 simp only[Prod.mk.injEq] at e1
 obtain⟨rfl,rfl,rfl,rfl⟩:=e1
 obtain⟨r,hr,hl⟩:=Option.map_eq_some_iff.mp (congrFun (run w) os)
 have hr':=ZkG _ _ _ _ hr
 unfold Zp8 at hl
 simp only[Prod.mk.injEq] at hl
 obtain⟨l1,l2,l3⟩:=hl
 have z:=ZkI w
 simp only[Prod.mk.injEq] at z
 obtain⟨z1,z2,z3⟩:=z
 have hs:(SharedT.abs ⟨Zoy w.params,11,{},Array.mk [],boot_drawn,boot_toks,os⟩)=⟨boot_heap w.params,Array.mk [],boot_drawn,boot_toks,os⟩:=by
  unfold SharedT.abs
  rw[ZkH]
 rw[hs] at hr'
 have ht:topFrom treeTable p w n ⟨boot_heap w.params,Array.mk [],boot_drawn,boot_toks,os⟩=some r.abs:=by
  unfold topFrom
  simp only []
  rw[z1,z2,z3]
  simp only[hr',Option.bind_some,l1]
 show(Option.bind _ _).map _=_
 rw[e0]
 simp only[Option.bind_some,ht,Option.map_some]
 rw[l2]
 exact congrArg some (Prod.ext rfl l3)
section
variable{A Z C1 C2 C3 C4 C5 C6 C7 C8 C9:Type}
def pj1(x:Option (A×(C1×C2×C3×C4×C5×C6×C7×C8×C9)×Z)):Option (A×C2×C9×Z):=x.map fun l=>(l.1,l.2.1.2.1,l.2.1.2.2.2.2.2.2.2.2,l.2.2)
def pj2(x:Option (A×(C1×C2×C3×C4×C5×C6×C7×C8×C9)×Z)):Option C1:=x.map fun l=>l.2.1.1
def pj3(x:Option (A×(C1×C2×C3×C4×C5×C6×C7×C8×C9)×Z)):Option (C3×C5):=x.map fun l=>(l.2.1.2.2.1,l.2.1.2.2.2.2.1)
def pj4(x:Option (A×(C1×C2×C3×C4×C5×C6×C7×C8×C9)×Z)):Option (C4×C7):=x.map fun l=>(l.2.1.2.2.2.1,l.2.1.2.2.2.2.2.2.1)
def pj5(x:Option (A×(C1×C2×C3×C4×C5×C6×C7×C8×C9)×Z)):Option (C6×C8):=x.map fun l=>(l.2.1.2.2.2.2.2.1,l.2.1.2.2.2.2.2.2.2.1)
def qj1:Option (A×(C1×C2×C3×C4×C5×C6×C7×C8×C9)×Z)->Option (A×C2×C9×Z)
 | some (a,(_,c2,_,_,_,_,_,_,c9),z)=>some (a,c2,c9,z)
 | none=>none
def qj2:Option (A×(C1×C2×C3×C4×C5×C6×C7×C8×C9)×Z)->Option C1
 | some (_,(c1,_),_)=>some c1
 | none=>none
def qj3:Option (A×(C1×C2×C3×C4×C5×C6×C7×C8×C9)×Z)->Option (C3×C5)
 | some (_,(_,_,c3,_,c5,_),_)=>some (c3,c5)
 | none=>none
def qj4:Option (A×(C1×C2×C3×C4×C5×C6×C7×C8×C9)×Z)->Option (C4×C7)
 | some (_,(_,_,_,c4,_,_,c7,_),_)=>some (c4,c7)
 | none=>none
def qj5:Option (A×(C1×C2×C3×C4×C5×C6×C7×C8×C9)×Z)->Option (C6×C8)
 | some (_,(_,_,_,_,_,c6,_,c8,_),_)=>some (c6,c8)
 | none=>none
theorem Zqa:∀{x y:Option (A×(C1×C2×C3×C4×C5×C6×C7×C8×C9)×Z)},pj1 x=qj1 y->pj2 x=qj2 y->pj3 x=qj3 y->pj4 x=qj4 y->pj5 x=qj5 y->x=y
 | none,none,_,_,_,_,_=>rfl
 | none,some _,h,_,_,_,_=>by cases h
 | some _,none,h,_,_,_,_=>by cases h
 | some (_,(_,_,_,_,_,_,_,_,_),_),some (_,(_,_,_,_,_,_,_,_,_),_),h1,h2,h3,h4,h5=>by cases h1;cases h2;cases h3;cases h4;cases h5;rfl
end
end DL
set_option autoImplicit false
namespace DL
open PySem L2 PySem.Spec PyProof.Rows
section
variable{K:PySem.W.Frag}{h:Heap}{mg:Str->Option Value}
structure FF(K:PySem.W.Frag)(x qual:Str)(st:Stmt)(ps:List Str)(f:Addr):Prop where
 ex:∃fd,Fun K x qual st f fd/\Binds K fd ps []
theorem ff{x qual:Str}{st:Stmt}{ps:List Str}{f:Addr}{oc:Value}{od an:Option Addr}{sl:Array (Option Value)}{kV dc pm cd ct:Value}(l:K.lookup f=some ⟨oc,od,.func (PySem.W.fnOf x qual (ZdV st) (ZbT st) (Zal st) .none kV dc pm an cd ct),sl⟩)(c:PySem.W.codeIn K cd qual=true)(k:PySem.W.keepIn K (.ref f)=true)
 (b:∀(kV doc pm:Value) (an:Option Addr) (cdv ct:Value) (us:List Value),us.length=ps.length->bindArgs (PySem.W.fnOf x qual (ZdV st) (ZbT st) (Zal st) .none kV doc pm an cdv ct) ⟨us,[]⟩=pure (ps.zip us)):FF K x qual st ps f:=
 ⟨_,ZmE l c k,(ZmE l c k).binds b⟩
theorem tfx{x:Str}{st:Stmt}{ps:List Str}{f:Addr}(X:K.In h)(G:h.Ns mainGlobals mg)(m:PySem.W.nsIn K mainGlobals x=some (some (.ref f)))(F:FF K x x st ps f):TFX K mg x st ps:=by
 obtain⟨fd,a,b⟩:=F.ex
 exact⟨f,fd,a,PySem.W.mg_of X G m,b⟩
theorem tmx{c n qual:Str}{st:Stmt}{ps:List Str}{C f:Addr}(A:mg c=some (.ref C))(Q:Cls K C)(m:PySem.W.findIn K (.ref C) n=some (some (.ref f)))(i:PySem.W.isFn K (.ref f)=true)(F:FF K n qual st ps f):TMX K mg c n qual st ps:=by
 obtain⟨fd,a,b⟩:=F.ex
 have e:=clsE A
 exact⟨f,fd,clsC A,by rw[e];exact Q,by rw[e];exact⟨m,i,a.kp⟩,a,b⟩
theorem tix{c qual:Str}{st:Stmt}{ps:List Str}{C f:Addr}(A:mg c=some (.ref C))(k:PySem.W.makesIn K C=true)(m:PySem.W.findIn K (.ref C) "__init__"=some (some (.ref f)))(i:PySem.W.isFn K (.ref f)=true)(j:PySem.W.keepIn K (.ref C)=true)(F:FF K "__init__" qual st ps f):TIX K mg c qual st ps:=by
 obtain⟨fd,a,b⟩:=F.ex
 have e:=clsE A
 exact⟨f,fd,clsC A,by rw[e];exact⟨k,m,i,j⟩,a,b⟩
theorem fokx{c f:Str}{C0:Addr}(A:mg c=some (.ref C0))(Q:Cls K C0)(e:PySem.W.findIn K (.ref C0) f=some none):FOk K mg c f:=fun C hC=>by
 cases A.symm.trans hC
 exact⟨Q,e⟩
theorem excx{c:Str}{C:Addr}(A:mg c=some (.ref C))(e:PySem.W.excIn K C bmV "ValueError.__new__"=true):ExcC K (clsA mg c):=by
 rw[clsE A]
 exact⟨e⟩
def mgAll(mg:Str->Option Value):List (Str×Addr)->Prop
 | []=>True
 | p :: r=>mg p.1=some (.ref p.2)/\mgAll mg r
theorem mgAll.mem{x:Str}{C:Addr}(hC:mg x=some (.ref C)):∀{al:List (Str×Addr)},mgAll mg al->x∈al.map (·.1)->(x,C)∈al
 | [],_,h=>by cases h
 | (y,D) :: r,a,h=>by
  rw[List.map_cons] at h
  rcases List.mem_cons.mp h with e | e
  · subst e
    cases hC.symm.trans a.1
    exact .head _
  · exact .tail _ (mgAll.mem hC a.2 e)
def excLB(K:PySem.W.Frag)(C:Addr):Bool:=(PySem.W.clsIn K C).isSome&&(PySem.W.findIn K (.ref C) "__getattribute__" == some (some (.builtin "BaseException.__getattribute__"))&&(PySem.W.findIn K (.ref C) "__getattr__" == some none&&(PySem.W.findIn K (.ref C) "__class__" == some (some (.builtin "object.__class__"))&&(PySem.W.mroIn K C (.type "object") == some true&&PySem.W.mroIn K C (.type "BaseException") == some true))))
def desB(K:PySem.W.Frag):Bool:=PySem.W.specialIn K (.builtin "object.__class__") "__get__" == some (some (.builtin "getset_descriptor.__get__"))&&PySem.W.takesIn K (.builtin "object.__class__") == some true
variable{al:List (Str×Addr)}{subs:List Str}
end
end DL
/-
--ALL BadName Taken NoDeed NoWare Forbidden BadNumber NoRoom NoRound
--OBJ _law_office_here Office
--STR has_form name
--STRN _law_signs
--REC _law_same 4
--LEND Office.put_deed numbers
--LEND with_new_deed numbers
--LEND Office.ends_at counts
--LEND Office.settle counts
--LEND done_in counts
--LEND told_end counts
--LEND told_settled counts
--LEND row_of counts
--LEND _law_works _law_deeds
--LEND _law_sums _law_counts
--LEND law _law_counts
--DICT _law_office _law_numbers
--DICT law _law_handed
--NEVER made_of by_names
--EXPL _law_works law _law_set
-/
namespace My
open PySem PySem.Spec PyProof.Rows L2 DL
def top(i:Nat):Stmt:=PySem.Challenge.pw_leanmodes_k22_ends_at.main.body.getD i (.Pass ⟨0,0,0,0⟩)
abbrev ZgS:Stmt:=top 73
abbrev Zf5:Stmt:=top 74
abbrev Zeu:Stmt:=top 75
abbrev Zf6:Stmt:=top 76
abbrev Zev:Stmt:=top 77
abbrev ZcZ:Stmt:=ZcE (top 27) 0
abbrev ZcH:Stmt:=top 28
abbrev Zdy:Stmt:=ZcE (top 71) 0
abbrev Zd2:Stmt:=ZcE (top 71) 1
abbrev Ze1:Stmt:=top 14
abbrev ZcI:Stmt:=top 18
abbrev Zd3:Stmt:=top 25
abbrev Zc0:Stmt:=ZcE (top 71) 10
abbrev Zdz:Stmt:=ZcE (top 71) 3
abbrev Zc1:Stmt:=top 29
abbrev Zcs:Stmt:=ZcE (top 71) 4
abbrev Ze2:Stmt:=top 78
abbrev ZdA:Stmt:=top 20
abbrev Zc2:Stmt:=top 22
abbrev Zc3:Stmt:=top 30
abbrev Zct:Stmt:=ZcE (top 71) 5
abbrev Zd4:Stmt:=top 79
abbrev ZdB:Stmt:=top 19
abbrev Zew:Stmt:=top 21
abbrev ZcJ:Stmt:=top 31
abbrev Zc4:Stmt:=ZcE (top 71) 7
abbrev Zf7:Stmt:=top 80
abbrev Zcu:Stmt:=top 33
abbrev Zcd:Stmt:=ZcE (top 71) 13
abbrev Ze3:Stmt:=top 82
abbrev Ze4:Stmt:=top 81
abbrev Zf8:Stmt:=top 70
abbrev Zdm:Stmt:=top 23
abbrev ZgT:Stmt:=top 49
abbrev ZgU:Stmt:=top 63
abbrev Ze5:Stmt:=top 65
abbrev Zb8:Stmt:=top 34
abbrev ZcK:Stmt:=ZcE (top 71) 2
abbrev ZcL:Stmt:=ZcE (top 71) 22
abbrev Zd5:Stmt:=top 24
abbrev ZkJ:Stmt:=top 50
abbrev ZgV:Stmt:=top 51
abbrev ZhK:Stmt:=top 58
abbrev Zgy:Stmt:=top 60
abbrev Zdn:Stmt:=top 64
abbrev Zc5:Stmt:=ZcE (top 71) 21
abbrev ZkK:Stmt:=top 83
theorem ZkL:FnScope ["_law_script","_law_k"] ["_law_script","_law_k"] (Zal ZgS):=⟨rfl,rfl,rfl,by decide +kernel,rfl,by decide +kernel,by decide +kernel⟩
theorem sc_law_mix:FnScope ["_law_cell","_law_k","_law_once"] ["_law_cell","_law_k"] (Zal Zf5):=⟨rfl,rfl,rfl,by decide +kernel,rfl,by decide +kernel,by decide +kernel⟩
theorem sc_law_draws:FnScope ["_law_cell","_law_many","_law_size","_law_mixed","_law_told","_law_k"] ["_law_cell","_law_many","_law_size","_law_mixed"] (Zal Zeu):=⟨rfl,rfl,rfl,by decide +kernel,rfl,by decide +kernel,by decide +kernel⟩
theorem Zjl:FnScope ["_law_cell","_law_width","_law_way"] ["_law_cell","_law_width","_law_way"] (Zal Zf6):=⟨rfl,rfl,rfl,by decide +kernel,rfl,by decide +kernel,by decide +kernel⟩
theorem sc_law_works:FnScope ["_law_script","_law_way","_law_turned","_law_width","_law_many","_law_deeds","_law_k","_law_cell","_law_row_here"] ["_law_script"] (Zal Zev):=⟨rfl,rfl,rfl,by decide +kernel,rfl,by decide +kernel,by decide +kernel⟩
theorem Zfq:FnScope ["self","ware_names","deed_names","rows","stopped"] ["self","ware_names","deed_names","rows","stopped"] (Zal ZcZ):=⟨rfl,rfl,rfl,by decide +kernel,rfl,by decide +kernel,by decide +kernel⟩
theorem Ze6:FnScope [] [] (Zal ZcH):=⟨rfl,rfl,rfl,by decide +kernel,rfl,by decide +kernel,by decide +kernel⟩
theorem Zgn:FnScope ["self"] ["self"] (Zal Zdy):=⟨rfl,rfl,rfl,by decide +kernel,rfl,by decide +kernel,by decide +kernel⟩
theorem ZgW:FnScope ["self"] ["self"] (Zal Zd2):=⟨rfl,rfl,rfl,by decide +kernel,rfl,by decide +kernel,by decide +kernel⟩
theorem Zig:FnScope ["name"] ["name"] (Zal Ze1):=⟨rfl,rfl,rfl,by decide +kernel,rfl,by decide +kernel,by decide +kernel⟩
theorem Ze7:FnScope ["name","names"] ["name","names"] (Zal ZcI):=⟨rfl,rfl,rfl,by decide +kernel,rfl,by decide +kernel,by decide +kernel⟩
theorem ZgX:FnScope ["many","most"] ["many","most"] (Zal Zd3):=⟨rfl,rfl,rfl,by decide +kernel,rfl,by decide +kernel,by decide +kernel⟩
theorem Zfr:FnScope ["self"] ["self"] (Zal Zc0):=⟨rfl,rfl,rfl,by decide +kernel,rfl,by decide +kernel,by decide +kernel⟩
theorem Zgo:FnScope ["self","standing"] ["self","standing"] (Zal Zdz):=⟨rfl,rfl,rfl,by decide +kernel,rfl,by decide +kernel,by decide +kernel⟩
theorem sc_with_new_ware:FnScope ["standing","name","rows"] ["standing","name"] (Zal Zc1):=⟨rfl,rfl,rfl,by decide +kernel,rfl,by decide +kernel,by decide +kernel⟩
theorem sc_Office_put_ware:FnScope ["self","name","now"] ["self","name"] (Zal Zcs):=⟨rfl,rfl,rfl,by decide +kernel,rfl,by decide +kernel,by decide +kernel⟩
theorem sc_law_name:FnScope ["_law_cell","_law_k","_law_signs","_law_size","_law_spot","_law_word","_law_rest","_law_j"] ["_law_cell","_law_k"] (Zal Ze2):=⟨rfl,rfl,rfl,by decide +kernel,rfl,by decide +kernel,by decide +kernel⟩
theorem sc_check_wares:FnScope ["standing","asked","name"] ["standing","asked"] (Zal ZdA):=⟨rfl,rfl,rfl,by decide +kernel,rfl,by decide +kernel,by decide +kernel⟩
theorem sc_check_numbers:FnScope ["numbers","number"] ["numbers"] (Zal Zc2):=⟨rfl,rfl,rfl,by decide +kernel,rfl,by decide +kernel,by decide +kernel⟩
theorem sc_with_new_deed:FnScope ["standing","name","numbers","row"] ["standing","name","numbers"] (Zal Zc3):=⟨rfl,rfl,rfl,by decide +kernel,rfl,by decide +kernel,by decide +kernel⟩
theorem sc_Office_put_deed:FnScope ["self","name","numbers","now"] ["self","name","numbers"] (Zal Zct):=⟨rfl,rfl,rfl,by decide +kernel,rfl,by decide +kernel,by decide +kernel⟩
theorem sc_law_office:FnScope ["_law_width","_law_deeds","_law_first","_law_second","_law_office_here","_law_k","_law_numbers","_law_ware"] ["_law_width","_law_deeds","_law_first","_law_second"] (Zal Zd4):=⟨rfl,rfl,rfl,by decide +kernel,rfl,by decide +kernel,by decide +kernel⟩
theorem sc_check_deeds:FnScope ["standing","asked","name"] ["standing","asked"] (Zal ZdB):=⟨rfl,rfl,rfl,by decide +kernel,rfl,by decide +kernel,by decide +kernel⟩
theorem sc_check_let:FnScope ["standing","asked","name"] ["standing","asked"] (Zal Zew):=⟨rfl,rfl,rfl,by decide +kernel,rfl,by decide +kernel,by decide +kernel⟩
theorem Ze8:FnScope ["standing","deed"] ["standing","deed"] (Zal ZcJ):=⟨rfl,rfl,rfl,by decide +kernel,rfl,by decide +kernel,by decide +kernel⟩
theorem sc_Office_forbid:FnScope ["self","deed","now"] ["self","deed"] (Zal Zc4):=⟨rfl,rfl,rfl,by decide +kernel,rfl,by decide +kernel,by decide +kernel⟩
theorem sc_law_set:FnScope ["_law_script","_law_top","_law_width","_law_deeds","_law_first","_law_second","_law_office_here","_law_marks","_law_live","_law_k","_law_wares"] ["_law_script","_law_top"] (Zal Zf7):=⟨rfl,rfl,rfl,by decide +kernel,rfl,by decide +kernel,by decide +kernel⟩
theorem ZeI:FnScope ["standing"] ["standing"] (Zal Zcu):=⟨rfl,rfl,rfl,by decide +kernel,rfl,by decide +kernel,by decide +kernel⟩
theorem Zex:FnScope ["self"] ["self"] (Zal Zcd):=⟨rfl,rfl,rfl,by decide +kernel,rfl,by decide +kernel,by decide +kernel⟩
theorem sc_law_sums:FnScope ["_law_width","_law_deeds","_law_counts","_law_told","_law_ware","_law_total","_law_k"] ["_law_width","_law_deeds","_law_counts"] (Zal Ze3):=⟨rfl,rfl,rfl,by decide +kernel,rfl,by decide +kernel,by decide +kernel⟩
theorem sc_law_same:FnScope ["_law_found","_law_due","_law_one","_law_other"] ["_law_found","_law_due"] (Zal Ze4):=⟨rfl,rfl,rfl,by decide +kernel,rfl,by decide +kernel,by decide +kernel⟩
theorem Zjm:FnScope ["counts"] ["counts"] (Zal Zf8):=⟨rfl,rfl,rfl,by decide +kernel,rfl,by decide +kernel,by decide +kernel⟩
theorem sc_check_counts:FnScope ["counts","count"] ["counts"] (Zal Zdm):=⟨rfl,rfl,rfl,by decide +kernel,rfl,by decide +kernel,by decide +kernel⟩
theorem ZkM:FnScope ["deeds","counts","ware"] ["deeds","counts","ware"] (Zal ZgT):=⟨rfl,rfl,rfl,by decide +kernel,rfl,by decide +kernel,by decide +kernel⟩
theorem ZkN:FnScope ["works","counts"] ["works","counts"] (Zal ZgU):=⟨rfl,rfl,rfl,by decide +kernel,rfl,by decide +kernel,by decide +kernel⟩
theorem Zih:FnScope ["works","counts","ware"] ["works","counts","ware"] (Zal Ze5):=⟨rfl,rfl,rfl,by decide +kernel,rfl,by decide +kernel,by decide +kernel⟩
theorem sc_without_forbidden:FnScope ["standing","names","rows"] ["standing"] (Zal Zb8):=⟨rfl,rfl,rfl,by decide +kernel,rfl,by decide +kernel,by decide +kernel⟩
theorem Ze9:FnScope ["self"] ["self"] (Zal ZcK):=⟨rfl,rfl,rfl,by decide +kernel,rfl,by decide +kernel,by decide +kernel⟩
theorem Zfa:FnScope ["self","counts","ware"] ["self","counts","ware"] (Zal ZcL):=⟨rfl,rfl,rfl,by decide +kernel,rfl,by decide +kernel,by decide +kernel⟩
theorem ZgY:FnScope ["counts"] ["counts"] (Zal Zd5):=⟨rfl,rfl,rfl,by decide +kernel,rfl,by decide +kernel,by decide +kernel⟩
theorem ZoB:FnScope ["width","deeds","counts"] ["width","deeds","counts"] (Zal ZkJ):=⟨rfl,rfl,rfl,by decide +kernel,rfl,by decide +kernel,by decide +kernel⟩
theorem ZkO:FnScope ["width","deeds","counts"] ["width","deeds","counts"] (Zal ZgV):=⟨rfl,rfl,rfl,by decide +kernel,rfl,by decide +kernel,by decide +kernel⟩
theorem sc_told_settled:FnScope ["works","counts","width","row","off","parts"] ["works","counts"] (Zal Zdn):=⟨rfl,rfl,rfl,by decide +kernel,rfl,by decide +kernel,by decide +kernel⟩
theorem Zfs:FnScope ["self","counts"] ["self","counts"] (Zal Zc5):=⟨rfl,rfl,rfl,by decide +kernel,rfl,by decide +kernel,by decide +kernel⟩
theorem sc_law:FnScope ["_law_script","_law_width","_law_office_here","_law_wares","_law_names","_law_rows","_law_size","_law_counts","_law_handed","_law_k","_law_cell","_law_name_here","_law_kept","_law_due","_law_off","_law_told"] ["_law_script"] (Zal ZkK):=⟨rfl,rfl,rfl,by decide +kernel,rfl,by decide +kernel,by decide +kernel⟩
structure Bi(mg:Str->Option Value):Prop where
 abs:mg "abs"=none
 all:mg "all"=none
 any:mg "any"=none
 bool:mg "bool"=none
 dict:mg "dict"=none
 enumerate:mg "enumerate"=none
 int:mg "int"=none
 isinstance:mg "isinstance"=none
 len:mg "len"=none
 list:mg "list"=none
 range:mg "range"=none
 str:mg "str"=none
 sum:mg "sum"=none
 tuple:mg "tuple"=none
 zip:mg "zip"=none
structure Txt(K:PySem.W.Frag)(mg:Str->Option Value):Prop where
 B:Bi mg
 f_law_at:TFX K mg "_law_at" ZgS ["_law_script","_law_k"]
 f_law_mix:TFX K mg "_law_mix" Zf5 ["_law_cell","_law_k"]
 f_law_draws:TFX K mg "_law_draws" Zeu ["_law_cell","_law_many","_law_size","_law_mixed"]
 f_law_row:TFX K mg "_law_row" Zf6 ["_law_cell","_law_width","_law_way"]
 f_law_works:TFX K mg "_law_works" Zev ["_law_script"]
 f_Standing_init:TIX K mg "Standing" "Standing.__init__" ZcZ ["self","ware_names","deed_names","rows","stopped"]
 f_nothing_put_in:TFX K mg "nothing_put_in" ZcH []
 f_Office_init:TIX K mg "Office" "Office.__init__" Zdy ["self"]
 f_Office_now:TMX K mg "Office" "now" "Office.now" Zd2 ["self"]
 f_has_form:TFX K mg "has_form" Ze1 ["name"]
 f_check_new_name:TFX K mg "check_new_name" ZcI ["name","names"]
 f_check_room:TFX K mg "check_room" Zd3 ["many","most"]
 f_Office_doings:TMX K mg "Office" "doings" "Office.doings" Zc0 ["self"]
 f_Office_keep:TMX K mg "Office" "keep" "Office.keep" Zdz ["self","standing"]
 f_with_new_ware:TFX K mg "with_new_ware" Zc1 ["standing","name"]
 f_Office_put_ware:TMX K mg "Office" "put_ware" "Office.put_ware" Zcs ["self","name"]
 f_law_name:TFX K mg "_law_name" Ze2 ["_law_cell","_law_k"]
 f_check_wares:TFX K mg "check_wares" ZdA ["standing","asked"]
 f_check_numbers:TFX K mg "check_numbers" Zc2 ["numbers"]
 f_with_new_deed:TFX K mg "with_new_deed" Zc3 ["standing","name","numbers"]
 f_Office_put_deed:TMX K mg "Office" "put_deed" "Office.put_deed" Zct ["self","name","numbers"]
 f_law_office:TFX K mg "_law_office" Zd4 ["_law_width","_law_deeds","_law_first","_law_second"]
 f_check_deeds:TFX K mg "check_deeds" ZdB ["standing","asked"]
 f_check_let:TFX K mg "check_let" Zew ["standing","asked"]
 f_with_forbidden:TFX K mg "with_forbidden" ZcJ ["standing","deed"]
 f_Office_forbid:TMX K mg "Office" "forbid" "Office.forbid" Zc4 ["self","deed"]
 f_law_set:TFX K mg "_law_set" Zf7 ["_law_script","_law_top"]
 f_forbidden_names:TFX K mg "forbidden_names" Zcu ["standing"]
 f_Office_forbidden:TMX K mg "Office" "forbidden" "Office.forbidden" Zcd ["self"]
 f_law_sums:TFX K mg "_law_sums" Ze3 ["_law_width","_law_deeds","_law_counts"]
 f_law_same:TFX K mg "_law_same" Ze4 ["_law_found","_law_due"]
 f_done_in:TFX K mg "done_in" Zf8 ["counts"]
 f_check_counts:TFX K mg "check_counts" Zdm ["counts"]
 f_end_of:TFX K mg "end_of" ZgT ["deeds","counts","ware"]
 f_row_of:TFX K mg "row_of" ZgU ["works","counts"]
 f_told_end:TFX K mg "told_end" Ze5 ["works","counts","ware"]
 f_without_forbidden:TFX K mg "without_forbidden" Zb8 ["standing"]
 f_Office_let_now:TMX K mg "Office" "let_now" "Office.let_now" ZcK ["self"]
 f_Office_ends_at:TMX K mg "Office" "ends_at" "Office.ends_at" ZcL ["self","counts","ware"]
 f_check_some:TFX K mg "check_some" Zd5 ["counts"]
 f_ends:TFX K mg "ends" ZkJ ["width","deeds","counts"]
 f_uneven:TFX K mg "uneven" ZgV ["width","deeds","counts"]
 f_made_of:TFX K mg "made_of" ZhK ["width","deeds","counts"]
 f_by_names:TFX K mg "by_names" Zgy ["names","row"]
 f_told_settled:TFX K mg "told_settled" Zdn ["works","counts"]
 f_Office_settle:TMX K mg "Office" "settle" "Office.settle" Zc5 ["self","counts"]
 f_law:TFX K mg "law" ZkK ["_law_script"]
 fok_Office_stages:FOk K mg "Office" "stages"
 fok_Standing_ware_names:FOk K mg "Standing" "ware_names"
 fok_Standing_deed_names:FOk K mg "Standing" "deed_names"
 fok_Standing_rows:FOk K mg "Standing" "rows"
 fok_Standing_stopped:FOk K mg "Standing" "stopped"
 c_Standing:mg "Standing"=some (.ref (clsA mg "Standing"))
 c_Office:mg "Office"=some (.ref (clsA mg "Office"))
 g_LETTERS:∃t,mg "LETTERS"=some (.str "abcdefghijklmnopqrstuvwxyz" t)
 g_LONGEST:∃t,mg "LONGEST"=some (.int 6 t)
 c_BadName:mg "BadName"=some (.ref (clsA mg "BadName"))
 x_BadName:ExcC K (clsA mg "BadName")
 c_Taken:mg "Taken"=some (.ref (clsA mg "Taken"))
 x_Taken:ExcC K (clsA mg "Taken")
 c_NoRoom:mg "NoRoom"=some (.ref (clsA mg "NoRoom"))
 x_NoRoom:ExcC K (clsA mg "NoRoom")
 g_MOST_WARES:∃t,mg "MOST_WARES"=some (.int 6 t)
 g_MOST_DOINGS:∃t,mg "MOST_DOINGS"=some (.int 200 t)
 c_NoWare:mg "NoWare"=some (.ref (clsA mg "NoWare"))
 x_NoWare:ExcC K (clsA mg "NoWare")
 g_HIGHEST_NUMBER:∃t,mg "HIGHEST_NUMBER"=some (.int 9 t)
 c_BadNumber:mg "BadNumber"=some (.ref (clsA mg "BadNumber"))
 x_BadNumber:ExcC K (clsA mg "BadNumber")
 g_MOST_DEEDS:∃t,mg "MOST_DEEDS"=some (.int 10 t)
 c_NoDeed:mg "NoDeed"=some (.ref (clsA mg "NoDeed"))
 x_NoDeed:ExcC K (clsA mg "NoDeed")
 c_Forbidden:mg "Forbidden"=some (.ref (clsA mg "Forbidden"))
 x_Forbidden:ExcC K (clsA mg "Forbidden")
 g_HIGHEST_COUNT:∃t,mg "HIGHEST_COUNT"=some (.int 999999999999 t)
 c_NoRound:mg "NoRound"=some (.ref (clsA mg "NoRound"))
 x_NoRound:ExcC K (clsA mg "NoRound")
def ZeJ:SS:=
 (sSeq (sIf (sT (eB oLt (eVar 1) (e1 oLen (eVar 0)))) (sRet (e2 oIx (eVar 0) (eVar 1))) ZaS)
 (sRet (eC (.int 0))))
def ZaT:List D->FO:=runF 2 ZeJ
def ZeK:SS:=
 (sSeq (sAsg (e2 oMod (e2 oAdd (e2 oAdd (e2 oMul (eVar 0) (eC (.int 48271))) (e2 oMul (eVar 1) (eC (.int 7368787)))) (eC (.int 1))) (eC (.int 2147483647))) (Zag 2))
 (sRet (e2 oMod (e2 oMul (e2 oMod (e2 oMul (eVar 2) (eVar 2)) (eC (.int 2147483647))) (eC (.int 69621))) (eC (.int 2147483647)))))
def Zd6:List D->FO:=runF 3 ZeK
def ZdC:SS:=
 (sSeq (sAsg (eLst aNil) (Zag 4))
 (sSeq (sFor (ZbC (eVar 1)) (Zag 5) (sIf (sT (eVar 3)) (sApp 4 (e2 oMod (e2 oDiv (Zaw 2 Zd6 [none,none] (Zad (eVar 0) (Zad (eVar 5) aNil))) (eC (.int 7))) (eVar 2))) (sSeq (sApp 4 (e2 oMod (eVar 0) (eVar 2)))
 (sAsg (e2 oDiv (eVar 0) (eVar 2)) (Zag 0)))))
 (sRet (eVar 4))))
def Zb9:List D->FO:=runF 6 ZdC
def Zdq:SS:=
 (sSeq (sIf (sT (eB oEq (eVar 2) (eC (.int 1)))) (sRet (Zbh (iLst (Zaw 4 Zb9 [none,none,none,none] (Zad (eVar 0) (Zad (eVar 1) (Zad (eC (.int 11)) (Zad (eC (.bl true)) aNil)))))) [none] (Zag 0) Zbl (e2 oIx (Zd1 [0,1,-1,0,2,-2,1,-1,3,-3,0]) (eVar 0)))) ZaS)
 (sSeq (sIf (sT (eB oEq (eVar 2) (eC (.int 2)))) (sRet (Zbh (iLst (Zaw 4 Zb9 [none,none,none,none] (Zad (eVar 0) (Zad (eVar 1) (Zad (eC (.int 4)) (Zad (eC (.bl true)) aNil)))))) [none] (Zag 0) Zbl (e2 oIx (Zd1 [0,1,-1,0]) (eVar 0)))) ZaS)
 (sRet (Zbh (iLst (Zaw 4 Zb9 [none,none,none,none] (Zad (eVar 0) (Zad (eVar 1) (Zad (eC (.int 19)) (Zad (eFrz (eB oEq (eVar 2) (eC (.int 3)))) aNil)))))) [none] (Zag 0) Zbl (e2 oSub (e2 oMod (e2 oAdd (eVar 0) (eC (.int 9))) (eC (.int 19))) (eC (.int 9)))))))
def Zc6:List D->FO:=runF 3 Zdq
def ZdD:SS:=
 (sSeq (sAsg (e2 oIx (Zd1 [0,1,0,2,0,3,0,1]) (e2 oMod (Zaw 2 ZaT [none,none] (Zad (eVar 0) (Zad (eC (.int 0)) aNil))) (eC (.int 8)))) (Zag 1))
 (sSeq (sAsg (eB oEq (e2 oMod (Zaw 2 ZaT [none,none] (Zad (eVar 0) (Zad (eC (.int 0)) aNil))) (eC (.int 8))) (eC (.int 7))) (Zag 2))
 (sSeq (sAsg (e2 oIx (Zd1 [2,3,1,2,4,3,0,5,2,6,3,1]) (e2 oMod (Zaw 2 ZaT [none,none] (Zad (eVar 0) (Zad (eC (.int 1)) aNil))) (eC (.int 12)))) (Zag 3))
 (sSeq (sAsg (e2 oIx (Zd1 [4,5,6,5,3,6,7,4,5,6,2,8,1,0,9,10]) (e2 oMod (Zaw 2 ZaT [none,none] (Zad (eVar 0) (Zad (eC (.int 2)) aNil))) (eC (.int 16)))) (Zag 4))
 (sSeq (sAsg (eLst aNil) (Zag 5))
 (sSeq (sFor (ZbC (eVar 4)) (Zag 6) (sSeq (sAsg (Zaw 2 ZaT [none,none] (Zad (eVar 0) (Zad (eFrz (e2 oAdd (eC (.int 3)) (eVar 6))) aNil))) (Zag 7))
 (sSeq (sAsg (Zaw 3 Zc6 [none,none,none] (Zad (eFrz (e2 oAdd (eVar 7) (e2 oIx (eLst (Zad (eC (.int 0)) (Zad (e2 oMul (eC (.int 977)) (eVar 6)) aNil))) (e1 oInt (eB oGt (eVar 1) (eC (.int 0))))))) (Zad (eVar 3) (Zad (eVar 1) aNil)))) (Zag 8))
 (sSeq (sIf (sAnd (sT (eVar 2)) (sT (eB oEq (e2 oMod (eVar 6) (eC (.int 3))) (eC (.int 2))))) (sAsg (ZcB (Zbh (Zek (e2 oIx (eVar 5) (e2 oSub (eVar 6) (eC (.int 1)))) (e2 oIx (eVar 5) (e2 oSub (eVar 6) (eC (.int 2))))) [none,none] (kTup Zbp 2 (Zay (Zag 0) (Zay (Zag 1) Zcc))) Zbl (e2 oSub (e1 oNeg (eVar 0)) (eVar 1)))) (Zag 8)) ZaS)
 (sApp 5 (eFrz (eVar 8)))))))
 (sRet (eLst (Zad (eVar 3) (Zad (eMov 5) aNil))))))))))
def ZdE:List D->FO:=runF 9 ZdD
def ZbH:SS:=
 (sSeq (ZhA 0 "Standing" "ware_names" (eVar 1))
 (sSeq (ZhA 0 "Standing" "deed_names" (eVar 2))
 (sSeq (ZhA 0 "Standing" "rows" (eVar 3))
 (ZhA 0 "Standing" "stopped" (eVar 4)))))
def ZaR:List D->FO:=runF 5 ZbH
def ZbY:SS:=
 (sRet (ZgM "Standing" 5 ZaR (Zad (eFrz (eLst aNil)) (Zad (eFrz (eLst aNil)) (Zad (eFrz (eLst aNil)) (Zad (eFrz (eLst aNil)) aNil))))))
def ZbZ:List D->FO:=runF 0 ZbY
def ZcN:SS:=
 (ZhA 0 "Office" "stages" (eLst (Zad (eFrz (Zaw 0 ZbZ [] aNil)) aNil)))
def ZcO:List D->FO:=runF 1 ZcN
def Zdd:SS:=
 (sRet (eP (pIx (bFld "Office" "stages" (bVar 0)) (pNeg (pC (.int 1))))))
def ZaL:List D->FO:=runF 1 Zdd
def Zed:SS:=
 (sRet (eAnd (ZiC oLe oLe (eC (.int 1)) (e1 oLen (eVar 0)) (eC (.int 6))) (e1 oAll (Zbh (Zl7 (eVar 0)) [none] (Zag 0) Zbl (eB oInS (eVar 0) (eC (.str "abcdefghijklmnopqrstuvwxyz")))))))
def Zee:List D->FO:=runF 1 Zed
def Zb0:SS:=
 (sSeq (sIf (sNot (sT (Zaw 1 Zee [none] (Zad (eVar 0) aNil)))) (Zcq "BadName" (uSeq (ZfZ (eVar 0)) (uSeq uC (uSeq (Zf1 (eC (.int 6))) (uSeq uC uC))))) ZaS)
 (sIf (sT (eB oIn (eVar 0) (eVar 1))) (Zcq "Taken" (uSeq uC (uSeq (ZfZ (eVar 0)) (uSeq uC uC)))) ZaS))
def ZbA:List D->FO:=runF 2 Zb0
def Zde:SS:=
 (sIf (sT (eB oGe (eVar 0) (eVar 1))) (Zcq "NoRoom" (uSeq uC (uSeq (Zf1 (eVar 1)) (uSeq uC uC)))) ZaS)
def Zbe:List D->FO:=runF 2 Zde
def Zce:SS:=
 (sRet (e2 oSub (eP (pLen (bFld "Office" "stages" (bVar 0)))) (eC (.int 1))))
def Za9:List D->FO:=runF 1 Zce
def ZcP:SS:=
 (sSeq (Zl3 0 "Office" "stages" (pB (bVar 1)))
 (sRet (Zbs 0 "Office" "doings" 1 Za9 [] aNil)))
def ZbM:List D->FO:=runF 2 ZcP
def Zcf:SS:=
 (sSeq (sAsg (Zbh (iLst (e1 (oFld "Standing" "rows") (eVar 0))) [none] (Zag 0) Zbl (e2 oCat (eVar 0) (Zd1 [0]))) (Zag 2))
 (sRet (ZgM "Standing" 5 ZaR (Zad (eFrz (e2 oCat (e1 (oFld "Standing" "ware_names") (eVar 0)) (eLst (Zad (eVar 1) aNil)))) (Zad (eFrz (e1 (oFld "Standing" "deed_names") (eVar 0))) (Zad (eVar 2) (Zad (eFrz (e1 (oFld "Standing" "stopped") (eVar 0))) aNil)))))))
def Zcg:List D->FO:=runF 3 Zcf
def ZbN:SS:=
 (sSeq (sAsg (Zbs 0 "Office" "now" 1 ZaL [] aNil) (Zag 2))
 (sSeq (Zcb (Zaw 2 ZbA [none,none] (Zad (eVar 1) (Zad (eFrz (e1 (oFld "Standing" "ware_names") (eVar 2))) aNil))))
 (sSeq (Zcb (Zaw 2 Zbe [none,none] (Zad (eFrz (e1 oLen (e1 (oFld "Standing" "ware_names") (eVar 2)))) (Zad (eC (.int 6)) aNil))))
 (sSeq (Zcb (Zaw 2 Zbe [none,none] (Zad (eFrz (Zbs 0 "Office" "doings" 1 Za9 [] aNil)) (Zad (eC (.int 200)) aNil))))
 (sRet (Zbs 0 "Office" "keep" 2 ZbM [none] (Zad (eFrz (Zaw 2 Zcg [none,none] (Zad (eVar 2) (Zad (eVar 1) aNil)))) aNil)))))))
def ZaV:List D->FO:=runF 3 ZbN
def Zdr:SS:=
 (sSeq (sAsg (eC (.str "abcdefghijklmnopqrstuvwxyz")) (Zag 2))
 (sSeq (sIf (sT (eB oEq (e2 oMod (eVar 0) (eC (.int 3))) (eC (.int 0)))) (sRet (e2 ZkB (e2 oIxS (eVar 2) (e2 oMod (e2 oAdd (e2 oDiv (eVar 0) (eC (.int 3))) (e2 oDiv (eVar 1) (eC (.int 6)))) (eC (.int 26)))) (e2 oAdd (eC (.int 1)) (e2 oMod (eVar 1) (eC (.int 6)))))) ZaS)
 (sSeq (sAsg (e2 oAdd (eC (.int 1)) (e2 oMod (e2 oDiv (eVar 0) (eC (.int 3))) (eC (.int 6)))) (Zag 3))
 (sSeq (sAsg (e2 oMod (e2 oDiv (eVar 0) (eC (.int 18))) (eVar 3)) (Zag 4))
 (sSeq (sAsg (eLst aNil) (Zag 5))
 (sSeq (sAsg (e2 oDiv (eVar 0) (eC (.int 108))) (Zag 6))
 (sSeq (sFor (ZbC (eVar 3)) (Zag 7) (sSeq (sApp 5 (e2 oIxS (eVar 2) (e2 oMod (eVar 6) (eC (.int 26)))))
 (sAsg (e2 oDiv (eVar 6) (eC (.int 26))) (Zag 6))))
 (sSeq (Zl4 5 (e2 oIxS (eVar 2) (e2 oMod (e2 oAdd (e2 oDiv (eVar 0) (eC (.int 7))) (eVar 1)) (eC (.int 26)))) (pB (bVar 4)))
 (sRet (e1 (Zjh "") (eVar 5)))))))))))
def ZaI:List D->FO:=runF 8 Zdr
def ZcQ:SS:=
 (sFor (iLst (eVar 1)) (Zag 2) (sIf (sT (eB Zda (eVar 2) (e1 (oFld "Standing" "ware_names") (eVar 0)))) (Zcq "NoWare" (uSeq uC (uSeq (ZfZ (eVar 2)) uC))) ZaS))
def ZbO:List D->FO:=runF 3 ZcQ
def Zch:SS:=
 (sFor (iLst (eVar 0)) (Zag 1) (sIf (sT (eB oGt (e1 oAbs (eVar 1)) (eC (.int 9)))) (Zcq "BadNumber" (uSeq uC (uSeq (Zf1 (eC (.int 9))) (uSeq uC (uSeq (Zf1 (eC (.int 9))) uC))))) ZaS))
def ZbI:List D->FO:=runF 2 Zch
def Zci:SS:=
 (sSeq (sAsg (ZcB (Zbh (iLst (e1 (oFld "Standing" "ware_names") (eVar 0))) [none,some 2] (Zag 0) Zbl (Zf3 (eVar 1) (eVar 0) (eC (.int 0))))) (Zag 3))
 (sRet (ZgM "Standing" 5 ZaR (Zad (eFrz (e1 (oFld "Standing" "ware_names") (eVar 0))) (Zad (eFrz (e2 oCat (e1 (oFld "Standing" "deed_names") (eVar 0)) (eLst (Zad (eVar 1) aNil)))) (Zad (eFrz (e2 oCat (e1 (oFld "Standing" "rows") (eVar 0)) (eLst (Zad (eVar 3) aNil)))) (Zad (eFrz (e1 (oFld "Standing" "stopped") (eVar 0))) aNil)))))))
def Zcj:List D->FO:=runF 4 Zci
def ZbP:SS:=
 (sSeq (sAsg (Zbs 0 "Office" "now" 1 ZaL [] aNil) (Zag 3))
 (sSeq (Zcb (Zaw 2 ZbA [none,none] (Zad (eVar 1) (Zad (eFrz (e1 (oFld "Standing" "deed_names") (eVar 3))) aNil))))
 (sSeq (Zcb (Zaw 2 ZbO [none,none] (Zad (eVar 3) (Zad (eFrz (ZcB (e1 ZdO (eVar 2)))) aNil))))
 (sSeq (Zcb (Zaw 1 ZbI [none] (Zad (eFrz (ZcB (e1 Zfp (eVar 2)))) aNil)))
 (sSeq (Zcb (Zaw 2 Zbe [none,none] (Zad (eFrz (e1 oLen (e1 (oFld "Standing" "deed_names") (eVar 3)))) (Zad (eC (.int 10)) aNil))))
 (sSeq (Zcb (Zaw 2 Zbe [none,none] (Zad (eFrz (Zbs 0 "Office" "doings" 1 Za9 [] aNil)) (Zad (eC (.int 200)) aNil))))
 (sRet (Zbs 0 "Office" "keep" 2 ZbM [none] (Zad (eFrz (Zaw 3 Zcj [none,none,some 2] (Zad (eVar 3) (Zad (eVar 1) (aIo 2 aNil))))) aNil)))))))))
def Zbm:List D->FO:=runF 4 ZbP
def Zdf:SS:=
 (sSeq (sAsg (ZgM "Office" 1 ZcO aNil) (Zag 4))
 (sSeq (sFor (ZbC (eVar 0)) (Zag 5) (Zcb (Zbs 4 "Office" "put_ware" 2 ZaV [none] (Zad (eFrz (Zaw 2 ZaI [none,none] (Zad (eVar 2) (Zad (eVar 5) aNil)))) aNil))))
 (sSeq (sFor (ZbC (e1 oLen (eVar 1))) (Zag 5) (sSeq (sAsg Zji (Zag 6))
 (sSeq (sFor (ZbC (eVar 0)) (Zag 7) (sIf (sT (eB oNe (e2 oIx (e2 oIx (eVar 1) (eVar 5)) (eVar 7)) (eC (.int 0)))) (sDPut 6 (e2 oIx (e2 oIx (eVar 1) (eVar 5)) (eVar 7)) (Zaw 2 ZaI [none,none] (Zad (eVar 2) (Zad (eVar 7) aNil)))) ZaS))
 (Zcb (Zbs 4 "Office" "put_deed" 3 Zbm [none,none] (Zad (eFrz (Zaw 2 ZaI [none,none] (Zad (eVar 3) (Zad (eVar 5) aNil)))) (Zad (eVar 6) aNil)))))))
 (sRet (eMov 4)))))
def Zdg:List D->FO:=runF 8 Zdf
def ZcR:SS:=
 (sFor (iLst (eVar 1)) (Zag 2) (sIf (sT (eB Zda (eVar 2) (e1 (oFld "Standing" "deed_names") (eVar 0)))) (Zcq "NoDeed" (uSeq uC (uSeq (ZfZ (eVar 2)) uC))) ZaS))
def ZbQ:List D->FO:=runF 3 ZcR
def ZdF:SS:=
 (sFor (iLst (eVar 1)) (Zag 2) (sIf (sT (eB oIn (eVar 2) (e1 (oFld "Standing" "stopped") (eVar 0)))) (Zcq "Forbidden" (uSeq uC (uSeq (ZfZ (eVar 2)) (uSeq uC uC)))) ZaS))
def Zcv:List D->FO:=runF 3 ZdF
def Zb1:SS:=
 (sRet (ZgM "Standing" 5 ZaR (Zad (eFrz (e1 (oFld "Standing" "ware_names") (eVar 0))) (Zad (eFrz (e1 (oFld "Standing" "deed_names") (eVar 0))) (Zad (eFrz (e1 (oFld "Standing" "rows") (eVar 0))) (Zad (eFrz (e2 oCat (e1 (oFld "Standing" "stopped") (eVar 0)) (eLst (Zad (eVar 1) aNil)))) aNil))))))
def Zb2:List D->FO:=runF 2 Zb1
def Zck:SS:=
 (sSeq (sAsg (Zbs 0 "Office" "now" 1 ZaL [] aNil) (Zag 2))
 (sSeq (Zcb (Zaw 2 ZbQ [none,none] (Zad (eVar 2) (Zad (eFrz (eLst (Zad (eVar 1) aNil))) aNil))))
 (sSeq (Zcb (Zaw 2 Zcv [none,none] (Zad (eVar 2) (Zad (eFrz (eLst (Zad (eVar 1) aNil))) aNil))))
 (sSeq (Zcb (Zaw 2 Zbe [none,none] (Zad (eFrz (Zbs 0 "Office" "doings" 1 Za9 [] aNil)) (Zad (eC (.int 200)) aNil))))
 (sRet (Zbs 0 "Office" "keep" 2 ZbM [none] (Zad (eFrz (Zaw 2 Zb2 [none,none] (Zad (eVar 2) (Zad (eVar 1) aNil)))) aNil)))))))
def ZbJ:List D->FO:=runF 3 Zck
def ZeL:SS:=
 (sSeq (sAsg (Zaw 1 ZdE [none] (Zad (eVar 0) aNil)) (kTup ZfR 2 (Zay (Zag 2) (Zay (Zag 3) Zcc))))
 (sSeq (sAsg (Zmh (bVar 3) (pB (bVar 1))) (Zag 3))
 (sSeq (sAsg (Zaw 2 ZaT [none,none] (Zad (eVar 0) (Zad (eC (.int 13)) aNil))) (Zag 4))
 (sSeq (sAsg (Zaw 2 ZaT [none,none] (Zad (eVar 0) (Zad (eC (.int 14)) aNil))) (Zag 5))
 (sSeq (sAsg (Zaw 4 Zdg [none,none,none,none] (Zad (eVar 2) (Zad (eVar 3) (Zad (eVar 4) (Zad (eVar 5) aNil))))) (Zag 6))
 (sSeq (sAsg (Zaw 4 Zb9 [none,none,none,none] (Zad (eFrz (Zaw 2 ZaT [none,none] (Zad (eVar 0) (Zad (eC (.int 15)) aNil)))) (Zad (eFrz (e1 oLen (eVar 3))) (Zad (eC (.int 4)) (Zad (eFrz (eB oEq (e2 oMod (Zaw 2 ZaT [none,none] (Zad (eVar 0) (Zad (eC (.int 13)) aNil))) (eC (.int 2))) (eC (.int 1)))) aNil))))) (Zag 7))
 (sSeq (sAsg (Zbh (ZbC (e1 oLen (eVar 3))) [none,some 7] (Zag 0) (sT (eB oNe (e2 oIx (eVar 1) (eVar 0)) (eC (.int 3)))) (eVar 0)) (Zag 8))
 (sSeq (sFor (ZbC (e1 oLen (eVar 3))) (Zag 9) (sIf (sT (eB oEq (e2 oIx (eVar 7) (eVar 9)) (eC (.int 3)))) (Zcb (Zbs 6 "Office" "forbid" 2 ZbJ [none] (Zad (eFrz (Zaw 2 ZaI [none,none] (Zad (eVar 5) (Zad (eVar 9) aNil)))) aNil))) ZaS))
 (sSeq (sAsg (Zbh (ZbC (eVar 2)) [none,some 4] (Zag 0) Zbl (Zaw 2 ZaI [none,none] (Zad (eVar 1) (Zad (eVar 0) aNil)))) (Zag 10))
 (sRet (eLst (Zad (eVar 2) (Zad (eMov 6) (Zad (eVar 10) (Zad (Zbh (iLst (eVar 8)) [none,some 5] (Zag 0) Zbl (Zaw 2 ZaI [none,none] (Zad (eVar 1) (Zad (eVar 0) aNil)))) (Zad (Zbh (iLst (eVar 8)) [none,some 3] (Zag 0) Zbl (e2 oIx (eVar 1) (eVar 0))) aNil))))))))))))))))
def Zd7:List D->FO:=runF 11 ZeL
def ZbR:SS:=
 (sRet (Zbh (iLst (e1 (oFld "Standing" "deed_names") (eVar 0))) [none,some 0] (Zag 0) (sT (eB oIn (eVar 0) (e1 (oFld "Standing" "stopped") (eVar 1)))) (eVar 0)))
def Zcw:List D->FO:=runF 1 ZbR
def ZbF:SS:=
 (sRet (Zaw 1 Zcw [none] (Zad (eFrz (Zbs 0 "Office" "now" 1 ZaL [] aNil)) aNil)))
def ZaZ:List D->FO:=runF 1 ZbF
def Zef:SS:=
 (sSeq (sAsg (eLst aNil) (Zag 3))
 (sSeq (sFor (ZbC (eVar 0)) (Zag 4) (sSeq (sAsg (eC (.int 0)) (Zag 5))
 (sSeq (sFor (ZbC (e1 oLen (eVar 1))) (Zag 6) (sAsg (e2 oAdd (eVar 5) (e2 oMul (eP (pIx (bVar 2) (pB (bVar 6)))) (e2 oIx (e2 oIx (eVar 1) (eVar 6)) (eVar 4)))) (Zag 5)))
 (sApp 3 (eVar 5)))))
 (sRet (eVar 3))))
def Zds:List D->FO:=runF 7 Zef
def Zca(R:List D->FO):SS:=
 (sSeq (sIf (sT (e1 (oIs2 "list" "tuple") (eVar 1))) (sSeq (sIf (sOr (sNot (sT (e1 (oIs2 "list" "tuple") (eVar 0)))) (sT (eB oNe (e1 (oIs "list") (eVar 0)) (e1 (oIs "list") (eVar 1))))) (sRet (eC (.bl false))) ZaS)
 (sSeq (sIf (sT (eB oNe (e1 oLen (eVar 0)) (e1 oLen (eVar 1)))) (sRet (eC (.bl false))) ZaS)
 (sSeq (sFor (Zek (eVar 0) (eVar 1)) (kTup Zbp 2 (Zay (Zag 2) (Zay (Zag 3) Zcc))) (sIf (sNot (sT (Zaw 2 R [none,none] (Zad (eVar 2) (Zad (eVar 3) aNil))))) (sRet (eC (.bl false))) ZaS))
 (sRet (eC (.bl true)))))) ZaS)
 (sSeq (sIf (sOr (sT (eB oIsN (eVar 1) (eC .non))) (sT (e1 (oIs "str") (eVar 1)))) (sRet (eAnd (eOr (eB oIsN (eVar 0) (eC .non)) (e1 (oIs "str") (eVar 0))) (eB oEq (eVar 0) (eVar 1)))) ZaS)
 (sSeq (sIf (sOr (sNot (sT (e1 (oIs "int") (eVar 0)))) (sT (eB oNe (e1 (oIs "bool") (eVar 0)) (e1 (oIs "bool") (eVar 1))))) (sRet (eC (.bl false))) ZaS)
 (sRet (eB oEq (eVar 0) (eVar 1))))))
def ZaF:Nat->List D->FO
 | 0=>fun _=>.bad
 | j+1=>runF 4 (Zca (ZaF j))
def ZeM:SS:=
 (sRet (ZcB (e1 Zgx (eVar 0))))
def Zd8:List D->FO:=runF 1 ZeM
def Zcx:SS:=
 (sFor (iLst (eVar 0)) (Zag 1) (sIf (sOr (sT (eB oLt (eVar 1) (eC (.int 0)))) (sT (eB oGt (eVar 1) (eC (.int 999999999999))))) (Zcq "BadNumber" (uSeq uC (uSeq (Zf1 (eC (.int 999999999999))) uC))) ZaS))
def ZbX:List D->FO:=runF 2 Zcx
def ZfC:SS:=
 (sRet (e1 oSum (Zbh (Zek (eVar 1) (eVar 0)) [none,none,some 2] (kTup Zbp 2 (Zay (Zag 0) (Zay (Zag 1) Zcc))) Zbl (e2 oMul (eVar 0) (e2 oIx (eVar 1) (eVar 2))))))
def ZdG:List D->FO:=runF 3 ZfC
def ZfD:SS:=
 (sRet (ZcB (Zbh (iLst (e1 (oFld "Standing" "deed_names") (eVar 0))) [none,some 1] (Zag 0) Zbl (Zf3 (eVar 1) (eVar 0) (eC (.int 0))))))
def ZeN:List D->FO:=runF 2 ZfD
def Zeg:SS:=
 (sRet (Zaw 3 ZdG [none,none,none] (Zad (eFrz (e1 (oFld "Standing" "rows") (eVar 0))) (Zad (eFrz (Zaw 2 ZeN [none,some 1] (Zad (eVar 0) (aIo 1 aNil)))) (Zad (eFrz (eIdx (e1 (oFld "Standing" "ware_names") (eVar 0)) (eVar 2))) aNil)))))
def Zeh:List D->FO:=runF 3 Zeg
def Zbt:SS:=
 (sSeq (sAsg (Zbh (iLst (e1 (oFld "Standing" "deed_names") (eVar 0))) [none,some 0] (Zag 0) (sT (eB Zda (eVar 0) (e1 (oFld "Standing" "stopped") (eVar 1)))) (eVar 0)) (Zag 1))
 (sSeq (sAsg (Zbh (Zek (e1 (oFld "Standing" "deed_names") (eVar 0)) (e1 (oFld "Standing" "rows") (eVar 0))) [none,none,some 0] (kTup Zbp 2 (Zay (Zag 0) (Zay (Zag 1) Zcc))) (sT (eB Zda (eVar 0) (e1 (oFld "Standing" "stopped") (eVar 2)))) (eVar 1)) (Zag 2))
 (sRet (ZgM "Standing" 5 ZaR (Zad (eFrz (e1 (oFld "Standing" "ware_names") (eVar 0))) (Zad (eVar 1) (Zad (eVar 2) (Zad (eFrz (eLst aNil)) aNil))))))))
def Zbu:List D->FO:=runF 3 Zbt
def Zb3:SS:=
 (sRet (Zaw 1 Zbu [none] (Zad (eFrz (Zbs 0 "Office" "now" 1 ZaL [] aNil)) aNil)))
def ZbB:List D->FO:=runF 1 Zb3
def Zb4:SS:=
 (sSeq (Zcb (Zaw 2 ZbQ [none,none] (Zad (eFrz (Zbs 0 "Office" "now" 1 ZaL [] aNil)) (Zad (eFrz (ZcB (e1 ZdO (eVar 1)))) aNil))))
 (sSeq (Zcb (Zaw 2 ZbO [none,none] (Zad (eFrz (Zbs 0 "Office" "now" 1 ZaL [] aNil)) (Zad (eFrz (eLst (Zad (eVar 2) aNil))) aNil))))
 (sSeq (Zcb (Zaw 2 Zcv [none,none] (Zad (eFrz (Zbs 0 "Office" "now" 1 ZaL [] aNil)) (Zad (eFrz (Zaw 1 Zd8 [some 1] (aIo 1 aNil))) aNil))))
 (sSeq (Zcb (Zaw 1 ZbX [none] (Zad (eFrz (ZcB (e1 Zfp (eVar 1)))) aNil)))
 (sRet (Zaw 3 Zeh [none,some 1,none] (Zad (eFrz (Zbs 0 "Office" "let_now" 1 ZbB [] aNil)) (aIo 1 (Zad (eVar 2) aNil)))))))))
def Zbb:List D->FO:=runF 3 Zb4
def Zdh:SS:=
 (sIf (sNot (sT (e1 oAny (Zbh (iLst (eVar 0)) [none] (Zag 0) Zbl (eB oGt (eVar 0) (eC (.int 0))))))) (Zcq "NoRound" uC) ZaS)
def Zdi:List D->FO:=runF 1 Zdh
def ZiO:SS:=
 (sRet (Zbh (ZbC (eVar 0)) [none,some 1,some 2] (Zag 0) Zbl (Zaw 3 ZdG [none,none,none] (Zad (eVar 1) (Zad (eVar 2) (Zad (eVar 0) aNil))))))
def ZhL:List D->FO:=runF 3 ZiO
def ZfE:SS:=
 (sRet (Zbh (ZhJ (Zaw 3 ZhL [none,none,none] (Zad (eVar 0) (Zad (eVar 1) (Zad (eVar 2) aNil))))) [none,none] (kTup Zbp 2 (Zay (Zag 0) (Zay (Zag 1) Zcc))) (sT (eB oNe (eVar 1) (eC (.int 0)))) (eVar 0)))
def ZfF:List D->FO:=runF 3 ZfE
def ZhM:List D->FO:=fun _=>.bad
def Zgz:List D->FO:=fun _=>.bad
def Zcy:SS:=
 (sSeq (sAsg (e1 oLen (e1 (oFld "Standing" "ware_names") (eVar 0))) (Zag 2))
 (sSeq (sAsg (Zaw 2 ZeN [none,some 1] (Zad (eVar 0) (aIo 1 aNil))) (Zag 3))
 (sSeq (sAsg (Zaw 3 ZfF [none,none,none] (Zad (eVar 2) (Zad (eFrz (e1 (oFld "Standing" "rows") (eVar 0))) (Zad (eVar 3) aNil)))) (Zag 4))
 (sSeq (sIf (sT (eB oGt (e1 oLen (eVar 4)) (eC (.int 0)))) (sRet (eTup (Zad (eC (.str "uneven")) (Zad (e2 oIx (e1 (oFld "Standing" "ware_names") (eVar 0)) (e2 oIx (eVar 4) (eC (.int 0)))) (Zad (eFrz (Zaw 3 ZdG [none,none,none] (Zad (eFrz (e1 (oFld "Standing" "rows") (eVar 0))) (Zad (eVar 3) (Zad (eFrz (e2 oIx (eVar 4) (eC (.int 0)))) aNil))))) aNil))))) ZaS)
 (sSeq (sAsg (Zaw 3 ZhM [none,none,none] (Zad (eVar 2) (Zad (eFrz (e1 (oFld "Standing" "rows") (eVar 0))) (Zad (eVar 3) aNil)))) (Zag 5))
 (sRet (eTup (Zad (eC (.str "made")) (Zad (Zbh (iLst (eVar 5)) [none,none,none,some 0] (kTup Zbp 3 (Zay (Zag 0) (Zay (Zag 1) (Zay (Zag 2) Zcc)))) Zbl (eTup (Zad (eVar 0) (Zad (eVar 1) (Zad (eFrz (Zaw 2 Zgz [none,none] (Zad (eFrz (e1 (oFld "Standing" "deed_names") (eVar 3))) (Zad (eVar 2) aNil)))) aNil))))) aNil)))))))))
def Zcz:List D->FO:=runF 6 Zcy
def Zcl:SS:=
 (sSeq (Zcb (Zaw 2 ZbQ [none,none] (Zad (eFrz (Zbs 0 "Office" "now" 1 ZaL [] aNil)) (Zad (eFrz (ZcB (e1 ZdO (eVar 1)))) aNil))))
 (sSeq (Zcb (Zaw 2 Zcv [none,none] (Zad (eFrz (Zbs 0 "Office" "now" 1 ZaL [] aNil)) (Zad (eFrz (Zaw 1 Zd8 [some 1] (aIo 1 aNil))) aNil))))
 (sSeq (Zcb (Zaw 1 ZbX [none] (Zad (eFrz (ZcB (e1 Zfp (eVar 1)))) aNil)))
 (sSeq (Zcb (Zaw 1 Zdi [none] (Zad (eFrz (ZcB (e1 Zfp (eVar 1)))) aNil)))
 (sRet (Zaw 2 Zcz [none,some 1] (Zad (eFrz (Zbs 0 "Office" "let_now" 1 ZbB [] aNil)) (aIo 1 aNil))))))))
def Zbn:List D->FO:=runF 2 Zcl
def ZoC:SS:=
 (sSeq (sAsg (Zaw 2 Zd7 [none,none] (Zad (eVar 0) (Zad (eC (.int 10)) aNil))) (kTup ZfR 5 (Zay (Zag 1) (Zay (Zag 2) (Zay (Zag 3) (Zay (Zag 4) (Zay (Zag 5) Zcc)))))))
 (sSeq (sIf (sT (eB oEqL (eVar 3) (eLst aNil))) (sSeq (Zcb (Zbs 2 "Office" "put_ware" 2 ZaV [none] (Zad (eC (.str "lone")) aNil)))
 (sSeq (sAsg (eLst (Zad (eC (.str "lone")) aNil)) (Zag 3))
 (sAsg (Zbh (iLst (eVar 5)) [none] (Zag 0) Zbl (Zd1 [0])) (Zag 5)))) ZaS)
 (sSeq (sAsg (e2 oIx (eLst (Zad (eC (.int 4)) (Zad (e2 oPow (eC (.int 10)) (eC (.int 12))) aNil))) (e2 oMod (Zaw 2 ZaT [none,none] (Zad (eVar 0) (Zad (eC (.int 16)) aNil))) (eC (.int 2)))) (Zag 6))
 (sSeq (sAsg (eLst aNil) (Zag 7))
 (sSeq (sAsg Zji (Zag 8))
 (sSeq (sFor (ZbC (e1 oLen (eVar 4))) (Zag 9) (sSeq (sAsg (Zaw 2 ZaT [none,none] (Zad (eVar 0) (Zad (eFrz (e2 oAdd (eC (.int 18)) (eVar 9))) aNil))) (Zag 10))
 (sSeq (sApp 7 (eFrz (e2 oIx (eLst (Zad (e2 oMod (e2 oDiv (eVar 10) (eC (.int 5))) (eVar 6)) (Zad (eC (.int 0)) aNil))) (e1 oInt (eB oEq (e2 oMod (eVar 10) (eC (.int 5))) (eC (.int 4)))))))
 (sIf (sT (eB oLt (e2 oMod (eVar 10) (eC (.int 5))) (eC (.int 4)))) (sDPut 8 (eP (pIx (bVar 7) (pB (bVar 9)))) (e2 oIx (eVar 4) (eVar 9))) ZaS))))
 (sSeq (sIf (sT (eB oEq (e2 oMod (e2 oDiv (Zaw 2 ZaT [none,none] (Zad (eVar 0) (Zad (eC (.int 16)) aNil))) (eC (.int 2))) (eC (.int 2))) (eC (.int 1)))) (sFor (iLst (Zbs 2 "Office" "forbidden" 1 ZaZ [] aNil)) (Zag 11) (sDPut 8 (eC (.int 0)) (eVar 11))) ZaS)
 (sSeq (sAsg (e1 ZhH (eVar 8)) (Zag 12))
 (sSeq (sAsg (Zaw 3 Zds [none,none,some 7] (Zad (eFrz (e1 oLen (eVar 3))) (Zad (eVar 5) (aIo 7 aNil)))) (Zag 13))
 (sSeq (sFor (ZbC (e1 oLen (eVar 3))) (Zag 9) (sIf (sNot (sT (Zaw 2 (ZaF 4) [none,none] (Zad (eFrz (Zbs 2 "Office" "ends_at" 3 Zbb [none,none] (Zad (eVar 8) (Zad (eFrz (e2 oIx (eVar 3) (eVar 9))) aNil)))) (Zad (eFrz (e2 oIx (eVar 13) (eVar 9))) aNil))))) (sRet (eC (.bl false))) ZaS))
 (sSeq (sAsg (Zbh (ZbC (e1 oLen (eVar 3))) [none,some 13] (Zag 0) (sT (eB oNe (e2 oIx (eVar 1) (eVar 0)) (eC (.int 0)))) (eVar 0)) (Zag 14))
 (sSeq (sIf (sT (eB oNeL (eVar 14) (eLst aNil))) (sSeq (sAsg (eTup (Zad (eC (.str "uneven")) (Zad (e2 oIx (eVar 3) (e2 oIx (eVar 14) (eC (.int 0)))) (Zad (e2 oIx (eVar 13) (e2 oIx (eVar 14) (eC (.int 0)))) aNil)))) (Zag 15))
 (sIf (sNot (sT (Zaw 2 (ZaF 4) [none,none] (Zad (eFrz (Zbs 2 "Office" "settle" 2 Zbn [none] (Zad (eVar 8) aNil))) (Zad (eVar 15) aNil))))) (sRet (eC (.bl false))) ZaS)) ZaS)
 (sSeq (sIf (sNot (sT (Zaw 2 (ZaF 4) [none,none] (Zad (eFrz (e1 ZdO (eVar 8))) (Zad (eFrz (e1 ZdO (eVar 12))) aNil))))) (sRet (eC (.bl false))) ZaS)
 (sRet (Zaw 2 (ZaF 4) [none,none] (Zad (eFrz (e1 Zfp (eVar 8))) (Zad (eFrz (e1 Zfp (eVar 12))) aNil)))))))))))))))))
def ZoD:List D->FO:=runF 16 ZoC
section
variable{P:Program}{w:World}{K:PySem.W.Frag}{mg:Str->Option Value}{base:Heap}(T:Txt K mg)
include T
theorem Zb5:CalX P w K mg base "_law_at" 1 ["_law_script","_law_k"] ZaT:=by
 refine T.f_law_at.ok (body:=ZeJ) ZkL (by decide) (fun _=>.inr rfl) fun f cdv A outer s H E hr=>?_
 refine⟨_,(Zaf (Zb6 (ZaK Znt (pvB 1) (ZaB (ZdS (K:=K) rfl) rfl T.B.len PySem.boot_len (Zaa (pvB 0) Zae)) (Za0 _)) (Zam (ZaG (Zbw (q_ix (K:=K) rfl) (pvB 0) (pvB 1) (fun _ _=>rfl)))) ZaM)
 (Zam (ZaG Zar))),fun fx=>?_⟩
 unfold ZeJ
 exact(Zap (Zb7 (ZaO (td_b Zn1 Zab (Zbd ZcA Zab))) (ZaH (Zax ZbW Zab Zab)) ZaP)
 (ZaH Zao))
theorem ZkP:CalX P w K mg base "_law_mix" 1 ["_law_cell","_law_k"] Zd6:=by
 refine T.f_law_mix.ok (body:=ZeK) sc_law_mix (by decide) (fun _=>.inr rfl) fun f cdv A outer s H E hr=>?_
 refine⟨_,(Zaf (Zaz (i:=2) sc_law_mix.nd (ZaJ ZbD (ZaJ ZdU (ZaJ ZdU (ZaJ Zeq (pvB 0) Zar) (ZaJ Zeq (pvB 1) Zar)) Zar) Zar))
 (Zam (ZaG (ZaJ ZbD (ZaJ Zeq (ZaJ ZbD (ZaJ Zeq (pvB 2) (pvB 2)) Zar) Zar) Zar)))),fun fx=>?_⟩
 unfold ZeK
 exact(Zap (ZaD (Zax ZbE (Zax ZdX (Zax ZdX (Zax ZfS Zab Zao) (Zax ZfS Zab Zao)) Zao) Zao) Zah)
 (ZaH (Zax ZbE (Zax ZfS (Zax ZbE (Zax ZfS Zab Zab) Zao) Zao) Zao)))
theorem ZdH:CalX P w K mg base "_law_draws" 2 ["_law_cell","_law_many","_law_size","_law_mixed"] Zb9:=by
 refine T.f_law_draws.ok (body:=ZdC) sc_law_draws (by decide) (fun _=>.inr rfl) fun f cdv A outer s H E hr=>?_
 refine⟨_,(Zaf (Zaz (i:=4) sc_law_draws.nd (Zbj Zae))
 (Zaf (Zco PassesOwn.leaving rfl (Za4 rfl T.B.range (Zaa (pvB 1) Zae)) (Zas (i:=5) sc_law_draws.nd) (Zam (Zb6 (ZdN (pvB 3)) (Zam (ZaN (Zdw (K:=K) rfl (pvB 4) (Zaa (ZaJ ZbD (ZaJ ZcW (Zav (K:=K) (mg:=mg) (ZkP T) rfl rfl Zaj (hr.mono (by decide)) (Zaa (pvB 0) (Zaa (pvB 5) Zae))) Zar) (pvB 2)) Zae)))) (Zaf (ZaN (Zdw (K:=K) rfl (pvB 4) (Zaa (ZaJ ZbD (pvB 0) (pvB 2)) Zae)))
 (Zam (Zaz (i:=0) sc_law_draws.nd (ZaJ ZcW (pvB 0) (pvB 2))))))))
 (Zam (ZaG (pvB 4))))),fun fx=>?_⟩
 unfold ZdC
 exact(Zap (ZaD (Zbq Zai) Zah)
 (Zap (Zcp (Za6 Zab) Zah (Zb7 (ZcX Zab) (Zgw (Zax ZbE (Zax ZdY (Zaq (Zac Zab (Zac Zab Zai))) Zao) Zab)) (Zap (Zgw (Zax ZbE Zab Zab))
 (ZaD (Zax ZdY Zab Zab) Zah))))
 (ZaH Zab)))
theorem ZkQ:CalX P w K mg base "_law_row" 3 ["_law_cell","_law_width","_law_way"] Zc6:=by
 refine T.f_law_row.ok (body:=Zdq) Zjl (by decide) (fun _=>.inr rfl) fun f cdv A outer s H E hr=>?_
 refine⟨_,(Zaf (Zb6 (ZaK Zfk (pvB 2) Zar (Za0 _)) (Zam (ZaG (ZeC (Za1 (K:=K) rfl (Zav (K:=K) (mg:=mg) (ZdH T) rfl rfl Zaj (hr.mono (by decide)) (Zaa (pvB 0) (Zaa (pvB 1) (Zaa Zar (Zaa Zgk Zae)))))) .nil (.own (x:="_law_x") .nil) (fun _ _ _ _=>(Zas (i:=0) (show(["_law_x"]:List Str).Nodup from by decide +kernel))) (fun _ _ _ _=>ZbU) (fun _ _ _ _=>(Zbw (q_ix (K:=K) rfl) (Zer (ns:=[0,1,-1,0,2,-2,1,-1,3,-3,0]) rfl) (pvB 0) (fun _ _=>rfl)))))) ZaM)
 (Zaf (Zb6 (ZaK Zfk (pvB 2) Zar (Za0 _)) (Zam (ZaG (ZeC (Za1 (K:=K) rfl (Zav (K:=K) (mg:=mg) (ZdH T) rfl rfl Zaj (hr.mono (by decide)) (Zaa (pvB 0) (Zaa (pvB 1) (Zaa Zar (Zaa Zgk Zae)))))) .nil (.own (x:="_law_x") .nil) (fun _ _ _ _=>(Zas (i:=0) (show(["_law_x"]:List Str).Nodup from by decide +kernel))) (fun _ _ _ _=>ZbU) (fun _ _ _ _=>(Zbw (q_ix (K:=K) rfl) (Zer (ns:=[0,1,-1,0]) rfl) (pvB 0) (fun _ _=>rfl)))))) ZaM)
 (Zam (ZaG (ZeC (Za1 (K:=K) rfl (Zav (K:=K) (mg:=mg) (ZdH T) rfl rfl Zaj (hr.mono (by decide)) (Zaa (pvB 0) (Zaa (pvB 1) (Zaa Zar (Zaa (Zdj Zfk (pvB 2) Zar (Za0 _)) Zae)))))) .nil (.own (x:="_law_x") .nil) (fun _ _ _ _=>(Zas (i:=0) (show(["_law_x"]:List Str).Nodup from by decide +kernel))) (fun _ _ _ _=>ZbU) (fun _ _ _ _=>(ZaJ Zha (ZaJ ZbD (ZaJ ZdU (pvB 0) Zar) Zar) Zar))))))),fun fx=>?_⟩
 unfold Zdq
 exact(Zap (Zb7 (ZaO (td_b Zfn Zab Zao)) (ZaH (Zba (Zbr (Zaq (Zac Zab (Zac Zab (Zac Zao (Zac Zgm Zai)))))) Zah Zbi (Zax ZbW Zet Zab))) ZaP)
 (Zap (Zb7 (ZaO (td_b Zfn Zab Zao)) (ZaH (Zba (Zbr (Zaq (Zac Zab (Zac Zab (Zac Zao (Zac Zgm Zai)))))) Zah Zbi (Zax ZbW Zet Zab))) ZaP)
 (ZaH (Zba (Zbr (Zaq (Zac Zab (Zac Zab (Zac Zao (Zac (Zat (td_b Zfn Zab Zao)) Zai)))))) Zah Zbi (Zax Zhy (Zax ZbE (Zax ZdX Zab Zao) Zao) Zao)))))
theorem Zii:CalX P w K mg base "_law_works" 4 ["_law_script"] ZdE:=by
 refine T.f_law_works.ok (body:=ZdD) sc_law_works (by decide) (fun _=>.inr rfl) fun f cdv A outer s H E hr=>?_
 refine⟨_,(@Zaf _ _ _ _ _ (@Zaz _ _ (1) _ _ _ _ sc_law_works.nd (@Zbw _ _ _ _ _ _ _ (q_ix (K:=K) rfl) (@Zer _ _ _ ([0,1,0,2,0,3,0,1]) rfl) (@ZaJ _ _ _ _ _ _ _ _ ZbD (Zav (K:=K) (mg:=mg) (Zb5 T) rfl rfl Zaj (hr.mono (by decide)) (Zaa (pvB 0) (Zaa Zar Zae))) (@Zar _ _ _ _)) (fun _ _=>rfl)) (by rfl) (by rfl)) (@Zaf _ _ _ _ _ (@Zaz _ _ (2) _ _ _ _ sc_law_works.nd (@Zdj _ _ _ _ _ _ _ _ Zfk (@ZaJ _ _ _ _ _ _ _ _ ZbD (Zav (K:=K) (mg:=mg) (Zb5 T) rfl rfl Zaj (hr.mono (by decide)) (Zaa (pvB 0) (Zaa Zar Zae))) (@Zar _ _ _ _)) (@Zar _ _ _ _) (Za0 _)) (by rfl) (by rfl)) (@Zaf _ _ _ _ _ (@Zaz _ _ (3) _ _ _ _ sc_law_works.nd (@Zbw _ _ _ _ _ _ _ (q_ix (K:=K) rfl) (@Zer _ _ _ ([2,3,1,2,4,3,0,5,2,6,3,1]) rfl) (@ZaJ _ _ _ _ _ _ _ _ ZbD (Zav (K:=K) (mg:=mg) (Zb5 T) rfl rfl Zaj (hr.mono (by decide)) (Zaa (pvB 0) (Zaa Zar Zae))) (@Zar _ _ _ _)) (fun _ _=>rfl)) (by rfl) (by rfl)) (@Zaf _ _ _ _ _ (@Zaz _ _ (4) _ _ _ _ sc_law_works.nd (@Zbw _ _ _ _ _ _ _ (q_ix (K:=K) rfl) (@Zer _ _ _ ([4,5,6,5,3,6,7,4,5,6,2,8,1,0,9,10]) rfl) (@ZaJ _ _ _ _ _ _ _ _ ZbD (Zav (K:=K) (mg:=mg) (Zb5 T) rfl rfl Zaj (hr.mono (by decide)) (Zaa (pvB 0) (Zaa Zar Zae))) (@Zar _ _ _ _)) (fun _ _=>rfl)) (by rfl) (by rfl)) (@Zaf _ _ _ _ _ (@Zaz _ _ (5) _ _ _ _ sc_law_works.nd (@Zbj _ _ _ _ (@Zae _)) (by rfl) (by rfl)) (@Zaf _ _ _ _ _ (@Zco _ _ _ _ _ _ _ _ PassesOwn.leaving rfl (@Za4 _ _ _ _ _ _ rfl T.B.range (@Zaa _ _ _ _ _ (@pvB _ _ 4 _ (by rfl)) (@Zae _) (by rfl)) (by rfl)) (@Zas _ _ (6) _ sc_law_works.nd (by rfl)) (@Zaf _ _ _ _ _ (@Zaz _ _ (7) _ _ _ _ sc_law_works.nd (Zav (K:=K) (mg:=mg) (Zb5 T) rfl rfl Zaj (hr.mono (by decide)) (Zaa (pvB 0) (Zaa (ZaJ ZdU Zar (pvB 6)) Zae))) (by rfl) (by rfl)) (@Zaf _ _ _ _ _ (@Zaz _ _ (8) _ _ _ _ sc_law_works.nd (Zav (K:=K) (mg:=mg) (ZkQ T) rfl rfl Zaj (hr.mono (by decide)) (Zaa (ZaJ ZdU (pvB 7) (Zbw (q_ix (K:=K) rfl) (Zbj (Zaa Zar (Zaa (ZaJ Zeq Zar (pvB 6)) Zae))) (Zbc Zhc rfl T.B.int boot_int (Zaa (Zdj ZjD (pvB 1) Zar (Za0 _)) Zae)) (fun _ _=>rfl))) (Zaa (pvB 3) (Zaa (pvB 1) Zae)))) (by rfl) (by rfl)) (@Zaf _ _ _ _ _ (@Zb6 _ _ _ _ _ _ _ _ (@PW.pt _ _ _ (@Zo3 _ _ _ _ _ _ _ (@ZdN _ _ _ (@pvB _ _ 2 _ (by rfl)) (by intro _;rfl)) (@Zno _ _ _ _ (@ZaK _ _ _ _ _ _ _ _ Zfk (@ZaJ _ _ _ _ _ _ _ _ ZbD (@pvB _ _ 6 _ (by rfl)) (@Zar _ _ _ _)) (@Zar _ _ _ _) (Za0 _))))) (@Zam _ _ _ (@ZgI _ _ _ _ _ _ _ _ _ _ _ _ _ _ (8) _ _ _ sc_law_works.nd rfl (ZgP (K:=K) rfl rfl T.B.zip (Zaa (Zbw (q_ix (K:=K) rfl) (pvB 5) (ZaJ Zha (pvB 6) Zar) (fun _ _=>rfl)) (Zaa (Zbw (q_ix (K:=K) rfl) (pvB 5) (ZaJ Zha (pvB 6) Zar) (fun _ _=>rfl)) Zae))) .nil (.own (x:="_law_x") (.own (x:="_law_y") .nil)) (fun _ _ _ _=>(@ZeV _ (K) _ _ _ _ (2) rfl rfl (@ZaX _ _ _ _ _ (@Zas _ _ (0) _ (show(["_law_x","_law_y"]:List Str).Nodup from by decide +kernel) (by rfl)) (@ZaX _ _ _ _ _ (@Zas _ _ (1) _ (show(["_law_x","_law_y"]:List Str).Nodup from by decide +kernel) (by rfl)) (@ZdT _) (by rfl)) (by rfl)) (by rfl) (by rfl))) (fun _ _ _ _=>(@ZbU _)) (fun _ _ _ _=>(@ZaJ _ _ _ _ _ _ _ _ Zha (@Zns _ _ _ _ _ _ ZjA (@pvB _ _ 0 _ (by rfl))) (@pvB _ _ 1 _ (by rfl)))) (by rfl) (by rfl) (by rfl) (by rfl) (by rfl) (by rfl) (by rfl) (by rfl) (by intro _;rfl))) (@ZaM _)) (@Zam _ _ _ (@ZaN _ _ _ _ (Zdw (K:=K) rfl (pvB 5) (Zaa (pvB 8) Zae)) (by rfl)))))) (by intro _;rfl)) (@Zam _ _ _ (@ZaG _ _ _ _ (@Zbj _ _ _ _ (@Zaa _ _ _ _ _ (@pvB _ _ 3 _ (by rfl)) (@Zaa _ _ _ _ _ (@pvB _ _ 5 _ (by rfl)) (@Zae _) (by rfl)) (by rfl))))))))))),fun fx=>?_⟩
 unfold ZdD
 exact(Zap (ZaD (Zax ZbW Zet (Zax ZbE (Zaq (Zac Zab (Zac Zao Zai))) Zao)) Zah)
 (Zap (ZaD (td_b Zfn (Zax ZbE (Zaq (Zac Zab (Zac Zao Zai))) Zao) Zao) Zah)
 (Zap (ZaD (Zax ZbW Zet (Zax ZbE (Zaq (Zac Zab (Zac Zao Zai))) Zao)) Zah)
 (Zap (ZaD (Zax ZbW Zet (Zax ZbE (Zaq (Zac Zab (Zac Zao Zai))) Zao)) Zah)
 (Zap (ZaD (Zbq Zai) Zah)
 (Zap (Zcp (Za6 Zab) Zah (Zap (ZaD (Zaq (Zac Zab (Zac (Zat (Zax ZdX Zao Zab)) Zai))) Zah)
 (Zap (ZaD (Zaq (Zac (Zat (Zax ZdX Zab (Zax ZbW (Zbq (Zac Zao (Zac (Zax ZfS Zao Zab) Zai))) (Zbd ZmN (td_b Zkh Zab Zao))))) (Zac Zab (Zac Zab Zai)))) Zah)
 (Zap (Zb7 (Zpw (ZcX Zab) (ZaO (td_b Zfn (Zax ZbE Zab Zao) Zao))) (ZaD (ZcY (fun _=>(Zba (ZgQ (Zax ZbW Zab (Zax Zhy Zab Zao)) (Zax ZbW Zab (Zax Zhy Zab Zao))) (Zgv (ZaY Zah (ZaY Zah ZdW))) Zbi (Zax Zhy (ZqT Zpx Zab) Zab)))) Zah) ZaP)
 (Zgw (Zat Zab))))))
 (ZaH (Zbq (Zac Zab (Zac ZkD Zai))))))))))
theorem ZbK:CalI P w K mg base "Standing" 1 ["self","ware_names","deed_names","rows","stopped"] ZaR:=by
 refine T.f_Standing_init.ok (body:=ZbH) Zfq (by decide) (fun _=>.inr rfl) fun f cdv A outer s H E hr=>?_
 refine⟨_,(Zaf (ZhD (K:=K) rfl (pvB 0) (pvB 1))
 (Zaf (ZhD (K:=K) rfl (pvB 0) (pvB 2))
 (Zaf (ZhD (K:=K) rfl (pvB 0) (pvB 3))
 (Zam (ZhD (K:=K) rfl (pvB 0) (pvB 4)))))),fun fx=>?_⟩
 unfold ZbH
 exact(Zap (ZfV T.fok_Standing_ware_names Zab)
 (Zap (ZfV T.fok_Standing_deed_names Zab)
 (Zap (ZfV T.fok_Standing_rows Zab)
 (ZfV T.fok_Standing_stopped Zab))))
theorem Zft:CalX P w K mg base "nothing_put_in" 3 [] ZbZ:=by
 refine T.f_nothing_put_in.ok (body:=ZbY) Ze6 (by decide) (fun _=>.inr rfl) fun f cdv A outer s H E hr=>?_
 refine⟨_,(Zam (ZaG (ZhC (K:=K) (mg:=mg) (ZbK T) rfl rfl Zaj (hr.mono (by decide)) (Zaa (Zbj Zae) (Zaa (Zbj Zae) (Zaa (Zbj Zae) (Zaa (Zbj Zae) Zae))))))),fun fx=>?_⟩
 unfold ZbY
 exact(ZaH (ZeX T.c_Standing (Zac (Zat (Zbq Zai)) (Zac (Zat (Zbq Zai)) (Zac (Zat (Zbq Zai)) (Zac (Zat (Zbq Zai)) Zai))))))
theorem ZgZ:CalI P w K mg base "Office" 4 ["self"] ZcO:=by
 refine T.f_Office_init.ok (body:=ZcN) Zgn (by decide) (fun _=>.inr rfl) fun f cdv A outer s H E hr=>?_
 refine⟨_,(Zam (ZhD (K:=K) rfl (pvB 0) (Zbj (Zaa (Zog (K:=K) (mg:=mg) (Zft T) rfl rfl Zaj (hr.mono (by decide))) Zae)))),fun fx=>?_⟩
 unfold ZcN
 exact(ZfV T.fok_Office_stages (Zbq (Zac (Zat (Zaq Zai)) Zai)))
theorem Za3:CalM P w K mg base "Office" "now" 1 ["self"] ZaL:=by
 refine T.f_Office_now.ok (body:=Zdd) ZgW (by decide) (fun _=>.inr rfl) fun f cdv A outer s H E hr=>?_
 refine⟨_,(Zam (ZaG (Zbw (q_ix (K:=K) rfl) (Zbo (K:=K) rfl (pvB 0)) (Zns ZjA Zar) (fun _ _=>rfl)))),fun fx=>?_⟩
 unfold Zdd
 exact(ZaH (td_p (Zn7 (ZmP T.fok_Office_stages Zel) (ZpG ZpR))))
theorem Zjn:CalX P w K mg base "has_form" 1 ["name"] Zee:=by
 refine T.f_has_form.ok (body:=Zed) Zig (by decide) (fun _=>.inr rfl) fun f cdv A outer s H E hr=>?_
 refine⟨_,(Zam (ZaG (Zmy (Zlz Zpc Zpc Zar (ZaB (ZdS (K:=K) rfl) rfl T.B.len PySem.boot_len (Zaa (pvB 0) Zae)) (ZcG (mg:=mg) rfl T.g_LONGEST)) (Zjw (ZaB (ZqR (K:=K) rfl rfl) rfl T.B.all boot_all (Zaa (ZeC (Zpo (pvB 0)) .nil (.own (x:="sign") .nil) (fun _ _ _ _=>(Zas (i:=0) (show(["sign"]:List Str).Nodup from by decide +kernel))) (fun _ _ _ _=>ZbU) (fun _ _ _ _=>(Zdj ZqS (pvB 0) (Zol (mg:=mg) rfl T.g_LETTERS) (by with_unfolding_all rfl)))) Zae)))))),fun fx=>?_⟩
 unfold Zed
 exact(ZaH (ZmI (ZlZ Zpy Zpy Zao (Zbd ZcA Zab) Zao) (Zbd ZpN (Zba (ZpM Zab) Zah Zbi (td_b ZpL Zab Zf4)))))
theorem ZdP:CalX P w K mg base "check_new_name" 2 ["name","names"] ZbA:=by
 refine T.f_check_new_name.ok (body:=Zb0) Ze7 (by decide) (fun _=>.inr rfl) fun f cdv A outer s H E hr=>?_
 refine⟨_,(Zaf (Zb6 (Zfg (ZdN (Zav (K:=K) (mg:=mg) (Zjn T) rfl rfl Zaj (hr.mono (by decide)) (Zaa (pvB 0) Zae)))) (Zam (Zdx (K:=K) (mg:=mg) rfl rfl (fun _ _ _ _ _ _ _ _ I h q=>Zdv I h q) T.c_BadName T.x_BadName (Zd0 (Za7 (ZfX (pvB 0)) (Za7 ZbV (Za7 (ZfY (ZcG (mg:=mg) rfl T.g_LONGEST)) (Za7 ZbV Zfi))))))) ZaM)
 (Zam (Zb6 (ZaK (q_in (K:=K) rfl) (pvB 0) (pvB 1) (by with_unfolding_all rfl)) (Zam (Zdx (K:=K) (mg:=mg) rfl rfl (fun _ _ _ _ _ _ _ _ I h q=>Zdv I h q) T.c_Taken T.x_Taken (Zd0 (Za7 ZbV (Za7 (ZfX (pvB 0)) (Za7 ZbV Zfi)))))) ZaM))),fun fx=>?_⟩
 unfold Zb0
 exact(Zap (Zb7 (Zfh (ZcX (Zaq (Zac Zab Zai)))) (Zdb (k:=4) T.c_BadName (Za8 (Zf0 Zab) (Za8 (ZbL (by decide)) (Za8 (Zf2 Zao) (Za8 (ZbL (by decide)) Zfj)))) (by decide)) ZaP)
 (Zb7 (ZaO (td_b Zn2 Zab Zab)) (Zdb (k:=3) T.c_Taken (Za8 (ZbL (by decide)) (Za8 (Zf0 Zab) (Za8 (ZbL (by decide)) Zfj))) (by decide)) ZaP))
theorem ZcC:CalX P w K mg base "check_room" 1 ["many","most"] Zbe:=by
 refine T.f_check_room.ok (body:=Zde) ZgX (by decide) (fun _=>.inr rfl) fun f cdv A outer s H E hr=>?_
 refine⟨_,(Zam (Zb6 (ZaK ZqF (pvB 0) (pvB 1) (Za0 _)) (Zam (Zdx (K:=K) (mg:=mg) rfl rfl (fun _ _ _ _ _ _ _ _ I h q=>Zdv I h q) T.c_NoRoom T.x_NoRoom (Zd0 (Za7 ZbV (Za7 (ZfY (pvB 1)) (Za7 ZbV Zfi)))))) ZaM)),fun fx=>?_⟩
 unfold Zde
 exact(Zb7 (ZaO (td_b ZqL Zab Zab)) (Zdb (k:=3) T.c_NoRoom (Za8 (ZbL (by decide)) (Za8 (Zf2 Zab) (Za8 (ZbL (by decide)) Zfj))) (by decide)) ZaP)
theorem Zcm:CalM P w K mg base "Office" "doings" 1 ["self"] Za9:=by
 refine T.f_Office_doings.ok (body:=Zce) Zfr (by decide) (fun _=>.inr rfl) fun f cdv A outer s H E hr=>?_
 refine⟨_,(Zam (ZaG (ZaJ Zha (ZaB (ZdS (K:=K) rfl) rfl T.B.len PySem.boot_len (Zaa (Zbo (K:=K) rfl (pvB 0)) Zae)) Zar))),fun fx=>?_⟩
 unfold Zce
 exact(ZaH (Zax Zhy (td_p (ZpF (ZmP T.fok_Office_stages Zel))) Zao))
theorem ZdI:CalM P w K mg base "Office" "keep" 2 ["self","standing"] ZbM:=by
 refine T.f_Office_keep.ok (body:=ZcP) Zgo (by decide) (fun _=>.inr rfl) fun f cdv A outer s H E hr=>?_
 refine⟨_,(Zaf (ZaN (Zdw (K:=K) rfl (Zbo (K:=K) rfl (pvB 0)) (Zaa (pvB 1) Zae)))
 (Zam (ZaG (ZbG (K:=K) (mg:=mg) (Zcm T) rfl rfl Zaj (hr.mono (by decide)) (pvB 0))))),fun fx=>?_⟩
 unfold ZcP
 exact(Zap (Zn8 T.fok_Office_stages (tp_b Zel))
 (ZaH (ZaW T.c_Office Zai)))
theorem Zf9:CalX P w K mg base "with_new_ware" 3 ["standing","name"] Zcg:=by
 refine T.f_with_new_ware.ok (body:=Zcf) sc_with_new_ware (by decide) (fun _=>.inr rfl) fun f cdv A outer s H E hr=>?_
 refine⟨_,(Zaf (ZgI (i:=2) sc_with_new_ware.nd rfl (Za1 (K:=K) rfl (Zbo (K:=K) rfl (pvB 0))) .nil (.own (x:="row") .nil) (fun _ _ _ _=>(Zas (i:=0) (show(["row"]:List Str).Nodup from by decide +kernel))) (fun _ _ _ _=>ZbU) (fun _ _ _ _=>(ZaJ Zhm (pvB 0) (Zer (ns:=[0]) rfl))))
 (Zam (ZaG (ZhC (K:=K) (mg:=mg) (ZbK T) rfl rfl Zaj (hr.mono (by decide)) (Zaa (ZaJ Zhm (Zbo (K:=K) rfl (pvB 0)) (Zbj (Zaa (pvB 1) Zae))) (Zaa (Zbo (K:=K) rfl (pvB 0)) (Zaa (pvB 2) (Zaa (Zbo (K:=K) rfl (pvB 0)) Zae)))))))),fun fx=>?_⟩
 unfold Zcf
 exact(Zap (ZaD (Zba (Zbr (ZaU T.fok_Standing_rows Zab)) Zah Zbi (Zax Zhz Zab Zet)) Zah)
 (ZaH (ZeX T.c_Standing (Zac (Zat (Zax Zhz (ZaU T.fok_Standing_ware_names Zab) (Zbq (Zac Zab Zai)))) (Zac (Zat (ZaU T.fok_Standing_deed_names Zab)) (Zac Zab (Zac (Zat (ZaU T.fok_Standing_stopped Zab)) Zai)))))))
theorem Zdt:CalM P w K mg base "Office" "put_ware" 4 ["self","name"] ZaV:=by
 refine T.f_Office_put_ware.ok (body:=ZbN) sc_Office_put_ware (by decide) (fun _=>.inr rfl) fun f cdv A outer s H E hr=>?_
 refine⟨_,(Zaf (Zaz (i:=2) sc_Office_put_ware.nd (ZbG (K:=K) (mg:=mg) (Za3 T) rfl rfl Zaj (hr.mono (by decide)) (pvB 0)))
 (Zaf (ZaN (Zav (K:=K) (mg:=mg) (ZdP T) rfl rfl Zaj (hr.mono (by decide)) (Zaa (pvB 1) (Zaa (Zbo (K:=K) rfl (pvB 2)) Zae))))
 (Zaf (ZaN (Zav (K:=K) (mg:=mg) (ZcC T) rfl rfl Zaj (hr.mono (by decide)) (Zaa (ZaB (ZdS (K:=K) rfl) rfl T.B.len PySem.boot_len (Zaa (Zbo (K:=K) rfl (pvB 2)) Zae)) (Zaa (ZcG (mg:=mg) rfl T.g_MOST_WARES) Zae))))
 (Zaf (ZaN (Zav (K:=K) (mg:=mg) (ZcC T) rfl rfl Zaj (hr.mono (by decide)) (Zaa (ZbG (K:=K) (mg:=mg) (Zcm T) rfl rfl Zaj (hr.mono (by decide)) (pvB 0)) (Zaa (ZcG (mg:=mg) rfl T.g_MOST_DOINGS) Zae))))
 (Zam (ZaG (ZeH (K:=K) (mg:=mg) (ZdI T) rfl rfl Zaj (hr.mono (by decide)) (pvB 0) (Zaa (Zav (K:=K) (mg:=mg) (Zf9 T) rfl rfl Zaj (hr.mono (by decide)) (Zaa (pvB 2) (Zaa (pvB 1) Zae))) Zae)))))))),fun fx=>?_⟩
 unfold ZbN
 exact(Zap (ZaD (ZaW T.c_Office Zai) Zah)
 (Zap (Za5 (Zaq (Zac Zab (Zac (Zat (ZaU T.fok_Standing_ware_names Zab)) Zai))))
 (Zap (Za5 (Zaq (Zac (Zat (Zbd ZcA (ZaU T.fok_Standing_ware_names Zab))) (Zac Zao Zai))))
 (Zap (Za5 (Zaq (Zac (Zat (ZaW T.c_Office Zai)) (Zac Zao Zai))))
 (ZaH (ZaW T.c_Office (Zac (Zat (Zaq (Zac Zab (Zac Zab Zai)))) Zai)))))))
theorem ZcT:CalX P w K mg base "_law_name" 1 ["_law_cell","_law_k"] ZaI:=by
 refine T.f_law_name.ok (body:=Zdr) sc_law_name (by decide) (fun _=>.inr rfl) fun f cdv A outer s H E hr=>?_
 refine⟨_,(Zaf (Zaz (i:=2) sc_law_name.nd ZbV)
 (Zaf (Zb6 (ZaK Zfk (ZaJ ZbD (pvB 0) Zar) Zar (Za0 _)) (Zam (ZaG (ZaJ Zop (Zbw ZjN (pvB 2) (ZaJ ZbD (ZaJ ZdU (ZaJ ZcW (pvB 0) Zar) (ZaJ ZcW (pvB 1) Zar)) Zar) (fun _ _=>rfl)) (ZaJ ZdU Zar (ZaJ ZbD (pvB 1) Zar))))) ZaM)
 (Zaf (Zaz (i:=3) sc_law_name.nd (ZaJ ZdU Zar (ZaJ ZbD (ZaJ ZcW (pvB 0) Zar) Zar)))
 (Zaf (Zaz (i:=4) sc_law_name.nd (ZaJ ZbD (ZaJ ZcW (pvB 0) Zar) (pvB 3)))
 (Zaf (Zaz (i:=5) sc_law_name.nd (Zbj Zae))
 (Zaf (Zaz (i:=6) sc_law_name.nd (ZaJ ZcW (pvB 0) Zar))
 (Zaf (Zco PassesOwn.leaving rfl (Za4 rfl T.B.range (Zaa (pvB 3) Zae)) (Zas (i:=7) sc_law_name.nd) (Zaf (ZaN (Zdw (K:=K) rfl (pvB 5) (Zaa (Zbw ZjN (pvB 2) (ZaJ ZbD (pvB 6) Zar) (fun _ _=>rfl)) Zae)))
 (Zam (Zaz (i:=6) sc_law_name.nd (ZaJ ZcW (pvB 6) Zar)))))
 (Zaf (Zjx (Zbw ZjN (pvB 2) (ZaJ ZbD (ZaJ ZdU (ZaJ ZcW (pvB 0) Zar) (pvB 1)) Zar) (fun _ _=>rfl)) (Zo8 (pvB 5) (pvB 4) ZlI))
 (Zam (ZaG (ZpQ (K:=K) rfl ZbV (Zaa (pvB 5) Zae)))))))))))),fun fx=>?_⟩
 unfold Zdr
 exact(Zap (ZaD Zf4 Zah)
 (Zap (Zb7 (ZaO (td_b Zfn (Zax ZbE Zab Zao) Zao)) (ZaH (Zax Zoq (Zax Zkk Zab (Zax ZbE (Zax ZdX (Zax ZdY Zab Zao) (Zax ZdY Zab Zao)) Zao)) (Zax ZdX Zao (Zax ZbE Zab Zao)))) ZaP)
 (Zap (ZaD (Zax ZdX Zao (Zax ZbE (Zax ZdY Zab Zao) Zao)) Zah)
 (Zap (ZaD (Zax ZbE (Zax ZdY Zab Zao) Zab) Zah)
 (Zap (ZaD (Zbq Zai) Zah)
 (Zap (ZaD (Zax ZdY Zab Zao) Zah)
 (Zap (Zcp (Za6 Zab) Zah (Zap (Zgw (Zax Zkk Zab (Zax ZbE Zab Zao)))
 (ZaD (Zax ZdY Zab Zao) Zah)))
 (Zap (Zn9 (Zax Zkk Zab (Zax ZbE (Zax ZdX (Zax ZdY Zab Zao) Zab) Zao)) (tp_b Zel))
 (ZaH (Zoe Zab))))))))))
theorem ZeO:CalX P w K mg base "check_wares" 1 ["standing","asked"] ZbO:=by
 refine T.f_check_wares.ok (body:=ZcQ) sc_check_wares (by decide) (fun _=>.inr rfl) fun f cdv A outer s H E hr=>?_
 refine⟨_,(Zam (Zco PassesOwn.leaving rfl (Za1 (K:=K) rfl (pvB 1)) (Zas (i:=2) sc_check_wares.nd) (Zam (Zb6 (ZaK (ZgO (K:=K) rfl) (pvB 2) (Zbo (K:=K) rfl (pvB 0)) (by with_unfolding_all rfl)) (Zam (Zdx (K:=K) (mg:=mg) rfl rfl (fun _ _ _ _ _ _ _ _ I h q=>Zdv I h q) T.c_NoWare T.x_NoWare (Zd0 (Za7 ZbV (Za7 (ZfX (pvB 2)) Zfi))))) ZaM)))),fun fx=>?_⟩
 unfold ZcQ
 exact(Zcp (Zbr Zab) Zah (Zb7 (ZaO (td_b ZfA Zab (ZaU T.fok_Standing_ware_names Zab))) (Zdb (k:=2) T.c_NoWare (Za8 (ZbL (by decide)) (Za8 (Zf0 Zab) Zfj)) (by decide)) ZaP))
theorem Zga:CalX P w K mg base "check_numbers" 1 ["numbers"] ZbI:=by
 refine T.f_check_numbers.ok (body:=Zch) sc_check_numbers (by decide) (fun _=>.inr rfl) fun f cdv A outer s H E hr=>?_
 refine⟨_,(Zam (Zco PassesOwn.leaving rfl (Za1 (K:=K) rfl (pvB 0)) (Zas (i:=1) sc_check_numbers.nd) (Zam (Zb6 (ZaK ZjD (ZaB ZlB rfl T.B.abs boot_abs (Zaa (pvB 1) Zae)) (ZcG (mg:=mg) rfl T.g_HIGHEST_NUMBER) (Za0 _)) (Zam (Zdx (K:=K) (mg:=mg) rfl rfl (fun _ _ _ _ _ _ _ _ I h q=>Zdv I h q) T.c_BadNumber T.x_BadNumber (Zd0 (Za7 ZbV (Za7 (ZfY (ZcG (mg:=mg) rfl T.g_HIGHEST_NUMBER)) (Za7 ZbV (Za7 (ZfY (ZcG (mg:=mg) rfl T.g_HIGHEST_NUMBER)) Zfi))))))) ZaM)))),fun fx=>?_⟩
 unfold Zch
 exact(Zcp (Zbr Zab) Zah (Zb7 (ZaO (td_b Zkh (Zbd ZpC Zab) Zao)) (Zdb (k:=4) T.c_BadNumber (Za8 (ZbL (by decide)) (Za8 (Zf2 Zao) (Za8 (ZbL (by decide)) (Za8 (Zf2 Zao) Zfj)))) (by decide)) ZaP))
theorem Zgb:CalX P w K mg base "with_new_deed" 3 ["standing","name","numbers"] Zcj:=by
 refine T.f_with_new_deed.ok (body:=Zci) sc_with_new_deed (by decide) (fun _=>.inr rfl) fun f cdv A outer s H E hr=>?_
 refine⟨_,(Zaf (ZgI (i:=3) sc_with_new_deed.nd rfl (Za1 (K:=K) rfl (Zbo (K:=K) rfl (pvB 0))) (.cons rfl .nil) (.own (x:="ware") (.cap (x:="numbers") (j:=2) rfl (Or.inl rfl) (Or.inl rfl) ⟨_,rfl⟩ .nil)) (fun _ _ _ _=>(Zas (i:=0) (show(["ware","numbers"]:List Str).Nodup from by decide +kernel))) (fun _ _ _ _=>ZbU) (fun _ _ _ _=>(ZmU (Zho hr) (pvB 1) (pvB 0) Zar)))
 (Zam (ZaG (ZhC (K:=K) (mg:=mg) (ZbK T) rfl rfl Zaj (hr.mono (by decide)) (Zaa (Zbo (K:=K) rfl (pvB 0)) (Zaa (ZaJ Zhm (Zbo (K:=K) rfl (pvB 0)) (Zbj (Zaa (pvB 1) Zae))) (Zaa (ZaJ Zhm (Zbo (K:=K) rfl (pvB 0)) (Zbj (Zaa (pvB 3) Zae))) (Zaa (Zbo (K:=K) rfl (pvB 0)) Zae)))))))),fun fx=>?_⟩
 unfold Zci
 exact(Zap (ZaD (ZcY (fun _=>(Zba (Zbr (ZaU T.fok_Standing_ware_names Zab)) Zah Zbi (ZiI Zab Zab Zao)))) Zah)
 (ZaH (ZeX T.c_Standing (Zac (Zat (ZaU T.fok_Standing_ware_names Zab)) (Zac (Zat (Zax Zhz (ZaU T.fok_Standing_deed_names Zab) (Zbq (Zac Zab Zai)))) (Zac (Zat (Zax Zhz (ZaU T.fok_Standing_rows Zab) (Zbq (Zac Zab Zai)))) (Zac (Zat (ZaU T.fok_Standing_stopped Zab)) Zai)))))))
theorem Zfb:CalM P w K mg base "Office" "put_deed" 4 ["self","name","numbers"] Zbm:=by
 refine T.f_Office_put_deed.ok (body:=ZbP) sc_Office_put_deed (by decide) (fun _=>.inr rfl) fun f cdv A outer s H E hr=>?_
 refine⟨_,(Zaf (Zaz (i:=3) sc_Office_put_deed.nd (ZbG (K:=K) (mg:=mg) (Za3 T) rfl rfl Zaj (hr.mono (by decide)) (pvB 0)))
 (Zaf (ZaN (Zav (K:=K) (mg:=mg) (ZdP T) rfl rfl Zaj (hr.mono (by decide)) (Zaa (pvB 1) (Zaa (Zbo (K:=K) rfl (pvB 3)) Zae))))
 (Zaf (ZaN (Zav (K:=K) (mg:=mg) (ZeO T) rfl rfl Zaj (hr.mono (by decide)) (Zaa (pvB 3) (Zaa (Zbc (Zdp (K:=K) rfl rfl) rfl T.B.list boot_list (Zaa (pvB 2) Zae)) Zae))))
 (Zaf (ZaN (Zav (K:=K) (mg:=mg) (Zga T) rfl rfl Zaj (hr.mono (by decide)) (Zaa (Zbc (Ze0 rfl) rfl T.B.list boot_list (Zaa (Zec (K:=K) rfl (pvB 2)) Zae)) Zae)))
 (Zaf (ZaN (Zav (K:=K) (mg:=mg) (ZcC T) rfl rfl Zaj (hr.mono (by decide)) (Zaa (ZaB (ZdS (K:=K) rfl) rfl T.B.len PySem.boot_len (Zaa (Zbo (K:=K) rfl (pvB 3)) Zae)) (Zaa (ZcG (mg:=mg) rfl T.g_MOST_DEEDS) Zae))))
 (Zaf (ZaN (Zav (K:=K) (mg:=mg) (ZcC T) rfl rfl Zaj (hr.mono (by decide)) (Zaa (ZbG (K:=K) (mg:=mg) (Zcm T) rfl rfl Zaj (hr.mono (by decide)) (pvB 0)) (Zaa (ZcG (mg:=mg) rfl T.g_MOST_DOINGS) Zae))))
 (Zam (ZaG (ZeH (K:=K) (mg:=mg) (ZdI T) rfl rfl Zaj (hr.mono (by decide)) (pvB 0) (Zaa (Zav (K:=K) (mg:=mg) (Zgb T) rfl rfl Zaj (hr.mono (by decide)) (Zaa (pvB 3) (Zaa (pvB 1) (Zaa (pvB 2) Zae)))) Zae)))))))))),fun fx=>?_⟩
 unfold ZbP
 exact(Zap (ZaD (ZaW T.c_Office Zai) Zah)
 (Zap (Za5 (Zaq (Zac Zab (Zac (Zat (ZaU T.fok_Standing_deed_names Zab)) Zai))))
 (Zap (Za5 (Zaq (Zac Zab (Zac (Zat (ZcY (fun _=>(Zbd ZeG Zab)))) Zai))))
 (Zap (Za5 (Zaq (Zac (Zat (ZcY (fun _=>(ZeZ Zab)))) Zai)))
 (Zap (Za5 (Zaq (Zac (Zat (Zbd ZcA (ZaU T.fok_Standing_deed_names Zab))) (Zac Zao Zai))))
 (Zap (Za5 (Zaq (Zac (Zat (ZaW T.c_Office Zai)) (Zac Zao Zai))))
 (ZaH (ZaW T.c_Office (Zac (Zat (Zaq (Zac Zab (Zac Zab (ZgK Zai))))) Zai)))))))))
theorem ZhN:CalX P w K mg base "_law_office" 6 ["_law_width","_law_deeds","_law_first","_law_second"] Zdg:=by
 refine T.f_law_office.ok (body:=Zdf) sc_law_office (by decide) (fun _=>.inr rfl) fun f cdv A outer s H E hr=>?_
 refine⟨_,(Zaf (Zaz (i:=4) sc_law_office.nd (Zoh (K:=K) (mg:=mg) (ZgZ T) rfl rfl Zaj (hr.mono (by decide))))
 (Zaf (Zco PassesOwn.leaving rfl (Za4 rfl T.B.range (Zaa (pvB 0) Zae)) (Zas (i:=5) sc_law_office.nd) (Zam (ZaN (ZeH (K:=K) (mg:=mg) (Zdt T) rfl rfl Zaj (hr.mono (by decide)) (pvB 4) (Zaa (Zav (K:=K) (mg:=mg) (ZcT T) rfl rfl Zaj (hr.mono (by decide)) (Zaa (pvB 2) (Zaa (pvB 5) Zae))) Zae)))))
 (Zaf (Zco PassesOwn.leaving rfl (Za4 rfl T.B.range (Zaa (ZaB (ZdS (K:=K) rfl) rfl T.B.len PySem.boot_len (Zaa (pvB 1) Zae)) Zae)) (Zas (i:=5) sc_law_office.nd) (Zaf (Zaz (i:=6) sc_law_office.nd ZiB)
 (Zaf (Zco PassesOwn.leaving rfl (Za4 rfl T.B.range (Zaa (pvB 0) Zae)) (Zas (i:=7) sc_law_office.nd) (Zam (Zb6 (ZaK Zhb (Zbw (q_ix (K:=K) rfl) (Zbw (q_ix (K:=K) rfl) (pvB 1) (pvB 5) (fun _ _=>rfl)) (pvB 7) (fun _ _=>rfl)) Zar (Za0 _)) (Zam (Zh5 (Zho hr) (pvB 6) (Zav (K:=K) (mg:=mg) (ZcT T) rfl rfl Zaj (hr.mono (by decide)) (Zaa (pvB 2) (Zaa (pvB 7) Zae))) (Zbw (q_ix (K:=K) rfl) (Zbw (q_ix (K:=K) rfl) (pvB 1) (pvB 5) (fun _ _=>rfl)) (pvB 7) (fun _ _=>rfl)) rfl)) ZaM)))
 (Zam (ZaN (ZeH (K:=K) (mg:=mg) (Zfb T) rfl rfl Zaj (hr.mono (by decide)) (pvB 4) (Zaa (Zav (K:=K) (mg:=mg) (ZcT T) rfl rfl Zaj (hr.mono (by decide)) (Zaa (pvB 3) (Zaa (pvB 5) Zae))) (Zaa (pvB 6) Zae))))))))
 (Zam (ZaG (pvB 4)))))),fun fx=>?_⟩
 unfold Zdf
 exact(Zap (ZaD (ZeX T.c_Office Zai) Zah)
 (Zap (Zcp (Za6 Zab) Zah (Za5 (ZaW T.c_Office (Zac (Zat (Zaq (Zac Zab (Zac Zab Zai)))) Zai))))
 (Zap (Zcp (Za6 (Zbd ZcA Zab)) Zah (Zap (ZaD Zkq Zah)
 (Zap (Zcp (Za6 Zab) Zah (Zb7 (ZaO (td_b Zia (Zax ZbW (Zax ZbW Zab Zab) Zab) Zao)) (Zif (Zax ZbW (Zax ZbW Zab Zab) Zab) (Zaq (Zac Zab (Zac Zab Zai)))) ZaP))
 (Za5 (ZaW T.c_Office (Zac (Zat (Zaq (Zac Zab (Zac Zab Zai)))) (Zac Zab Zai)))))))
 (ZaH ZkD))))
theorem ZdJ:CalX P w K mg base "check_deeds" 1 ["standing","asked"] ZbQ:=by
 refine T.f_check_deeds.ok (body:=ZcR) sc_check_deeds (by decide) (fun _=>.inr rfl) fun f cdv A outer s H E hr=>?_
 refine⟨_,(Zam (Zco PassesOwn.leaving rfl (Za1 (K:=K) rfl (pvB 1)) (Zas (i:=2) sc_check_deeds.nd) (Zam (Zb6 (ZaK (ZgO (K:=K) rfl) (pvB 2) (Zbo (K:=K) rfl (pvB 0)) (by with_unfolding_all rfl)) (Zam (Zdx (K:=K) (mg:=mg) rfl rfl (fun _ _ _ _ _ _ _ _ I h q=>Zdv I h q) T.c_NoDeed T.x_NoDeed (Zd0 (Za7 ZbV (Za7 (ZfX (pvB 2)) Zfi))))) ZaM)))),fun fx=>?_⟩
 unfold ZcR
 exact(Zcp (Zbr Zab) Zah (Zb7 (ZaO (td_b ZfA Zab (ZaU T.fok_Standing_deed_names Zab))) (Zdb (k:=2) T.c_NoDeed (Za8 (ZbL (by decide)) (Za8 (Zf0 Zab) Zfj)) (by decide)) ZaP))
theorem Zey:CalX P w K mg base "check_let" 1 ["standing","asked"] Zcv:=by
 refine T.f_check_let.ok (body:=ZdF) sc_check_let (by decide) (fun _=>.inr rfl) fun f cdv A outer s H E hr=>?_
 refine⟨_,(Zam (Zco PassesOwn.leaving rfl (Za1 (K:=K) rfl (pvB 1)) (Zas (i:=2) sc_check_let.nd) (Zam (Zb6 (ZaK (q_in (K:=K) rfl) (pvB 2) (Zbo (K:=K) rfl (pvB 0)) (by with_unfolding_all rfl)) (Zam (Zdx (K:=K) (mg:=mg) rfl rfl (fun _ _ _ _ _ _ _ _ I h q=>Zdv I h q) T.c_Forbidden T.x_Forbidden (Zd0 (Za7 ZbV (Za7 (ZfX (pvB 2)) (Za7 ZbV Zfi)))))) ZaM)))),fun fx=>?_⟩
 unfold ZdF
 exact(Zcp (Zbr Zab) Zah (Zb7 (ZaO (td_b Zn2 Zab (ZaU T.fok_Standing_stopped Zab))) (Zdb (k:=3) T.c_Forbidden (Za8 (ZbL (by decide)) (Za8 (Zf0 Zab) (Za8 (ZbL (by decide)) Zfj))) (by decide)) ZaP))
theorem Zfu:CalX P w K mg base "with_forbidden" 3 ["standing","deed"] Zb2:=by
 refine T.f_with_forbidden.ok (body:=Zb1) Ze8 (by decide) (fun _=>.inr rfl) fun f cdv A outer s H E hr=>?_
 refine⟨_,(Zam (ZaG (ZhC (K:=K) (mg:=mg) (ZbK T) rfl rfl Zaj (hr.mono (by decide)) (Zaa (Zbo (K:=K) rfl (pvB 0)) (Zaa (Zbo (K:=K) rfl (pvB 0)) (Zaa (Zbo (K:=K) rfl (pvB 0)) (Zaa (ZaJ Zhm (Zbo (K:=K) rfl (pvB 0)) (Zbj (Zaa (pvB 1) Zae))) Zae))))))),fun fx=>?_⟩
 unfold Zb1
 exact(ZaH (ZeX T.c_Standing (Zac (Zat (ZaU T.fok_Standing_ware_names Zab)) (Zac (Zat (ZaU T.fok_Standing_deed_names Zab)) (Zac (Zat (ZaU T.fok_Standing_rows Zab)) (Zac (Zat (Zax Zhz (ZaU T.fok_Standing_stopped Zab) (Zbq (Zac Zab Zai)))) Zai))))))
theorem Zgc:CalM P w K mg base "Office" "forbid" 4 ["self","deed"] ZbJ:=by
 refine T.f_Office_forbid.ok (body:=Zck) sc_Office_forbid (by decide) (fun _=>.inr rfl) fun f cdv A outer s H E hr=>?_
 refine⟨_,(Zaf (Zaz (i:=2) sc_Office_forbid.nd (ZbG (K:=K) (mg:=mg) (Za3 T) rfl rfl Zaj (hr.mono (by decide)) (pvB 0)))
 (Zaf (ZaN (Zav (K:=K) (mg:=mg) (ZdJ T) rfl rfl Zaj (hr.mono (by decide)) (Zaa (pvB 2) (Zaa (Zbj (Zaa (pvB 1) Zae)) Zae))))
 (Zaf (ZaN (Zav (K:=K) (mg:=mg) (Zey T) rfl rfl Zaj (hr.mono (by decide)) (Zaa (pvB 2) (Zaa (Zbj (Zaa (pvB 1) Zae)) Zae))))
 (Zaf (ZaN (Zav (K:=K) (mg:=mg) (ZcC T) rfl rfl Zaj (hr.mono (by decide)) (Zaa (ZbG (K:=K) (mg:=mg) (Zcm T) rfl rfl Zaj (hr.mono (by decide)) (pvB 0)) (Zaa (ZcG (mg:=mg) rfl T.g_MOST_DOINGS) Zae))))
 (Zam (ZaG (ZeH (K:=K) (mg:=mg) (ZdI T) rfl rfl Zaj (hr.mono (by decide)) (pvB 0) (Zaa (Zav (K:=K) (mg:=mg) (Zfu T) rfl rfl Zaj (hr.mono (by decide)) (Zaa (pvB 2) (Zaa (pvB 1) Zae))) Zae)))))))),fun fx=>?_⟩
 unfold Zck
 exact(Zap (ZaD (ZaW T.c_Office Zai) Zah)
 (Zap (Za5 (Zaq (Zac Zab (Zac (Zat (Zbq (Zac Zab Zai))) Zai))))
 (Zap (Za5 (Zaq (Zac Zab (Zac (Zat (Zbq (Zac Zab Zai))) Zai))))
 (Zap (Za5 (Zaq (Zac (Zat (ZaW T.c_Office Zai)) (Zac Zao Zai))))
 (ZaH (ZaW T.c_Office (Zac (Zat (Zaq (Zac Zab (Zac Zab Zai)))) Zai)))))))
theorem ZkR:CalX P w K mg base "_law_set" 7 ["_law_script","_law_top"] Zd7:=by
 refine T.f_law_set.ok (body:=ZeL) sc_law_set (by decide) (fun _=>.inr rfl) fun f cdv A outer s H E hr=>?_
 refine⟨_,(@Zaf _ _ _ _ _ (@Zjx _ _ _ _ _ _ (Zav (K:=K) (mg:=mg) (Zii T) rfl rfl Zaj (hr.mono (by decide)) (Zaa (pvB 0) Zae)) (ZmT (K:=K) (n:=2) rfl rfl (ZaX (Zas (i:=2) sc_law_set.nd) (ZaX (Zas (i:=3) sc_law_set.nd) ZdT))) (by rfl) (by rfl) (by rfl)) (@Zaf _ _ _ _ _ (@Zaz _ _ (3) _ _ _ _ sc_law_set.nd (@ZlH _ _ _ _ _ _ _ _ _ _ (ZlM (K:=K) rfl) (@pvB _ _ 3 _ (by rfl)) (@ZnC _) (@ZnD _ _ _ (@pvB _ _ 1 _ (by rfl)))) (by rfl) (by rfl)) (@Zaf _ _ _ _ _ (@Zaz _ _ (4) _ _ _ _ sc_law_set.nd (Zav (K:=K) (mg:=mg) (Zb5 T) rfl rfl Zaj (hr.mono (by decide)) (Zaa (pvB 0) (Zaa Zar Zae))) (by rfl) (by rfl)) (@Zaf _ _ _ _ _ (@Zaz _ _ (5) _ _ _ _ sc_law_set.nd (Zav (K:=K) (mg:=mg) (Zb5 T) rfl rfl Zaj (hr.mono (by decide)) (Zaa (pvB 0) (Zaa Zar Zae))) (by rfl) (by rfl)) (@Zaf _ _ _ _ _ (@Zaz _ _ (6) _ _ _ _ sc_law_set.nd (Zav (K:=K) (mg:=mg) (ZhN T) rfl rfl Zaj (hr.mono (by decide)) (Zaa (pvB 2) (Zaa (pvB 3) (Zaa (pvB 4) (Zaa (pvB 5) Zae))))) (by rfl) (by rfl)) (@Zaf _ _ _ _ _ (@Zaz _ _ (7) _ _ _ _ sc_law_set.nd (Zav (K:=K) (mg:=mg) (ZdH T) rfl rfl Zaj (hr.mono (by decide)) (Zaa (Zav (K:=K) (mg:=mg) (Zb5 T) rfl rfl Zaj (hr.mono (by decide)) (Zaa (pvB 0) (Zaa Zar Zae))) (Zaa (ZaB (ZdS (K:=K) rfl) rfl T.B.len PySem.boot_len (Zaa (pvB 3) Zae)) (Zaa Zar (Zaa (Zdj Zfk (ZaJ ZbD (Zav (K:=K) (mg:=mg) (Zb5 T) rfl rfl Zaj (hr.mono (by decide)) (Zaa (pvB 0) (Zaa Zar Zae))) Zar) Zar (Za0 _)) Zae))))) (by rfl) (by rfl)) (@Zaf _ _ _ _ _ (@ZgI _ _ _ _ _ _ _ _ _ _ _ _ _ _ (8) _ _ _ sc_law_set.nd rfl (@Za4 _ _ _ _ _ _ rfl T.B.range (@Zaa _ _ _ _ _ (@ZaB _ _ _ _ _ _ _ _ _ (ZdS (K:=K) rfl) rfl T.B.len PySem.boot_len (@Zaa _ _ _ _ _ (@pvB _ _ 3 _ (by rfl)) (@Zae _) (by rfl)) (by decide) (by decide) (by rfl) (by rfl)) (@Zae _) (by rfl)) (by rfl)) (.cons rfl .nil) (.own (x:="_law_k") (.cap (x:="_law_marks") (j:=7) rfl (Or.inl rfl) (Or.inl rfl) ⟨_,rfl⟩ .nil)) (fun _ _ _ _=>(@Zas _ _ (0) _ (show(["_law_k","_law_marks"]:List Str).Nodup from by decide +kernel) (by rfl))) (fun _ _ _ _=>(@Zep _ _ _ (@ZaK _ _ _ _ _ _ _ _ Zhb (@Zbw _ _ _ _ _ _ _ (q_ix (K:=K) rfl) (@pvB _ _ 1 _ (by rfl)) (@pvB _ _ 0 _ (by rfl)) (fun _ _=>rfl)) (@Zar _ _ _ _) (Za0 _)))) (fun _ _ _ _=>(@pvB _ _ 0 _ (by rfl))) (by rfl) (by rfl) (by rfl) (by rfl) (by rfl) (by rfl) (by rfl) (by rfl) (by intro _;rfl)) (@Zaf _ _ _ _ _ (@Zco _ _ _ _ _ _ _ _ PassesOwn.leaving rfl (@Za4 _ _ _ _ _ _ rfl T.B.range (@Zaa _ _ _ _ _ (@ZaB _ _ _ _ _ _ _ _ _ (ZdS (K:=K) rfl) rfl T.B.len PySem.boot_len (@Zaa _ _ _ _ _ (@pvB _ _ 3 _ (by rfl)) (@Zae _) (by rfl)) (by decide) (by decide) (by rfl) (by rfl)) (@Zae _) (by rfl)) (by rfl)) (@Zas _ _ (9) _ sc_law_set.nd (by rfl)) (@Zam _ _ _ (@Zb6 _ _ _ _ _ _ _ _ (@ZaK _ _ _ _ _ _ _ _ Zfk (@Zbw _ _ _ _ _ _ _ (q_ix (K:=K) rfl) (@pvB _ _ 7 _ (by rfl)) (@pvB _ _ 9 _ (by rfl)) (fun _ _=>rfl)) (@Zar _ _ _ _) (Za0 _)) (@Zam _ _ _ (@ZaN _ _ _ _ (ZeH (K:=K) (mg:=mg) (Zgc T) rfl rfl Zaj (hr.mono (by decide)) (pvB 6) (Zaa (Zav (K:=K) (mg:=mg) (ZcT T) rfl rfl Zaj (hr.mono (by decide)) (Zaa (pvB 5) (Zaa (pvB 9) Zae))) Zae)) (by rfl))) (@ZaM _))) (by intro _;rfl)) (@Zaf _ _ _ _ _ (@ZgI _ _ _ _ _ _ _ _ _ _ _ _ _ _ (10) _ _ _ sc_law_set.nd rfl (@Za4 _ _ _ _ _ _ rfl T.B.range (@Zaa _ _ _ _ _ (@pvB _ _ 2 _ (by rfl)) (@Zae _) (by rfl)) (by rfl)) (.cons rfl .nil) (.own (x:="_law_k") (.cap (x:="_law_first") (j:=4) rfl (Or.inl rfl) (Or.inl rfl) ⟨_,rfl⟩ .nil)) (fun _ _ _ _=>(@Zas _ _ (0) _ (show(["_law_k","_law_first"]:List Str).Nodup from by decide +kernel) (by rfl))) (fun _ _ _ _=>(@ZbU _)) (fun _ _ _ _=>(Zav (K:=K) (mg:=mg) (ZcT T) rfl rfl ZgR (hr.mono (by decide)) (Zaa (pvB 1) (Zaa (pvB 0) Zae)))) (by rfl) (by rfl) (by rfl) (by rfl) (by rfl) (by rfl) (by rfl) (by rfl) (by intro _;rfl)) (@Zam _ _ _ (@ZaG _ _ _ _ (@Zbj _ _ _ _ (@Zaa _ _ _ _ _ (@pvB _ _ 2 _ (by rfl)) (@Zaa _ _ _ _ _ (@pvB _ _ 6 _ (by rfl)) (@Zaa _ _ _ _ _ (@pvB _ _ 10 _ (by rfl)) (@Zaa _ _ _ _ _ (@ZeC _ _ _ _ _ _ _ _ _ _ _ _ _ _ (@Za1 _ (K) _ _ _ rfl (@pvB _ _ 8 _ (by rfl))) (.cons rfl .nil) (.own (x:="_law_k") (.cap (x:="_law_second") (j:=5) rfl (Or.inl rfl) (Or.inl rfl) ⟨_,rfl⟩ .nil)) (fun _ _ _ _=>(@Zas _ _ (0) _ (show(["_law_k","_law_second"]:List Str).Nodup from by decide +kernel) (by rfl))) (fun _ _ _ _=>(@ZbU _)) (fun _ _ _ _=>(Zav (K:=K) (mg:=mg) (ZcT T) rfl rfl ZgR (hr.mono (by decide)) (Zaa (pvB 1) (Zaa (pvB 0) Zae)))) (by rfl) (by rfl) (by rfl) (by rfl) (by rfl) (by rfl) (by intro _;rfl)) (@Zaa _ _ _ _ _ (@ZeC _ _ _ _ _ _ _ _ _ _ _ _ _ _ (@Za1 _ (K) _ _ _ rfl (@pvB _ _ 8 _ (by rfl))) (.cons rfl .nil) (.own (x:="_law_k") (.cap (x:="_law_deeds") (j:=3) rfl (Or.inl rfl) (Or.inl rfl) ⟨_,rfl⟩ .nil)) (fun _ _ _ _=>(@Zas _ _ (0) _ (show(["_law_k","_law_deeds"]:List Str).Nodup from by decide +kernel) (by rfl))) (fun _ _ _ _=>(@ZbU _)) (fun _ _ _ _=>(@Zbw _ _ _ _ _ _ _ (q_ix (K:=K) rfl) (@pvB _ _ 1 _ (by rfl)) (@pvB _ _ 0 _ (by rfl)) (fun _ _=>rfl))) (by rfl) (by rfl) (by rfl) (by rfl) (by rfl) (by rfl) (by intro _;rfl)) (@Zae _) (by rfl)) (by rfl)) (by rfl)) (by rfl)) (by rfl)))))))))))))),fun fx=>?_⟩
 unfold ZeL
 exact(Zap (ZaD (Zaq (Zac Zab Zai)) (Zke (ZaY Zah (ZaY Zah ZdW))))
 (Zap (ZaD (Zot Zel (tp_b Zel)) Zah)
 (Zap (ZaD (Zaq (Zac Zab (Zac Zao Zai))) Zah)
 (Zap (ZaD (Zaq (Zac Zab (Zac Zao Zai))) Zah)
 (Zap (ZaD (Zaq (Zac Zab (Zac Zab (Zac Zab (Zac Zab Zai))))) Zah)
 (Zap (ZaD (Zaq (Zac (Zat (Zaq (Zac Zab (Zac Zao Zai)))) (Zac (Zat (Zbd ZcA Zab)) (Zac Zao (Zac (Zat (td_b Zfn (Zax ZbE (Zaq (Zac Zab (Zac Zao Zai))) Zao) Zao)) Zai))))) Zah)
 (Zap (ZaD (Zba (Za6 (Zbd ZcA Zab)) Zah (ZaO (td_b Zia (Zax ZbW Zab Zab) Zao)) Zab) Zah)
 (Zap (Zcp (Za6 (Zbd ZcA Zab)) Zah (Zb7 (ZaO (td_b Zfn (Zax ZbW Zab Zab) Zao)) (Za5 (ZaW T.c_Office (Zac (Zat (Zaq (Zac Zab (Zac Zab Zai)))) Zai))) ZaP))
 (Zap (ZaD (Zba (Za6 Zab) Zah Zbi (Zaq (Zac Zab (Zac Zab Zai)))) Zah)
 (ZaH (Zbq (Zac Zab (Zac ZkD (Zac Zab (Zac (Zba (Zbr Zab) Zah Zbi (Zaq (Zac Zab (Zac Zab Zai)))) (Zac (Zba (Zbr Zab) Zah Zbi (Zax ZbW Zab Zab)) Zai))))))))))))))))
theorem Zfc:CalX P w K mg base "forbidden_names" 1 ["standing"] Zcw:=by
 refine T.f_forbidden_names.ok (body:=ZbR) ZeI (by decide) (fun _=>.inr rfl) fun f cdv A outer s H E hr=>?_
 refine⟨_,(Zam (ZaG (ZeC (Za1 (K:=K) rfl (Zbo (K:=K) rfl (pvB 0))) (.cons rfl .nil) (.own (x:="name") (.cap (x:="standing") (j:=0) rfl (Or.inl rfl) (Or.inl rfl) ⟨_,rfl⟩ .nil)) (fun _ _ _ _=>(Zas (i:=0) (show(["name","standing"]:List Str).Nodup from by decide +kernel))) (fun _ _ _ _=>(Zep (ZaK (q_in (K:=K) rfl) (pvB 0) (Zbo (K:=K) rfl (pvB 1)) (by with_unfolding_all rfl)))) (fun _ _ _ _=>(pvB 0))))),fun fx=>?_⟩
 unfold ZbR
 exact(ZaH (Zba (Zbr (ZaU T.fok_Standing_deed_names Zab)) Zah (ZaO (td_b Zn2 Zab (ZaU T.fok_Standing_stopped Zab))) Zab))
theorem ZeP:CalM P w K mg base "Office" "forbidden" 2 ["self"] ZaZ:=by
 refine T.f_Office_forbidden.ok (body:=ZbF) Zex (by decide) (fun _=>.inr rfl) fun f cdv A outer s H E hr=>?_
 refine⟨_,(Zam (ZaG (Zav (K:=K) (mg:=mg) (Zfc T) rfl rfl Zaj (hr.mono (by decide)) (Zaa (ZbG (K:=K) (mg:=mg) (Za3 T) rfl rfl Zaj (hr.mono (by decide)) (pvB 0)) Zae)))),fun fx=>?_⟩
 unfold ZbF
 exact(ZaH (Zaq (Zac (Zat (ZaW T.c_Office Zai)) Zai)))
theorem Zjo:CalX P w K mg base "_law_sums" 1 ["_law_width","_law_deeds","_law_counts"] Zds:=by
 refine T.f_law_sums.ok (body:=Zef) sc_law_sums (by decide) (fun _=>.inr rfl) fun f cdv A outer s H E hr=>?_
 refine⟨_,(Zaf (Zaz (i:=3) sc_law_sums.nd (Zbj Zae))
 (Zaf (Zco PassesOwn.leaving rfl (Za4 rfl T.B.range (Zaa (pvB 0) Zae)) (Zas (i:=4) sc_law_sums.nd) (Zaf (Zaz (i:=5) sc_law_sums.nd Zar)
 (Zaf (Zco PassesOwn.leaving rfl (Za4 rfl T.B.range (Zaa (ZaB (ZdS (K:=K) rfl) rfl T.B.len PySem.boot_len (Zaa (pvB 1) Zae)) Zae)) (Zas (i:=6) sc_law_sums.nd) (Zam (Zaz (i:=5) sc_law_sums.nd (ZaJ ZdU (pvB 5) (ZaJ Zeq (Zbw (q_ix (K:=K) rfl) (pvB 2) (pvB 6) (fun _ _=>rfl)) (Zbw (q_ix (K:=K) rfl) (Zbw (q_ix (K:=K) rfl) (pvB 1) (pvB 6) (fun _ _=>rfl)) (pvB 4) (fun _ _=>rfl)))))))
 (Zam (ZaN (Zdw (K:=K) rfl (pvB 3) (Zaa (pvB 5) Zae)))))))
 (Zam (ZaG (pvB 3))))),fun fx=>?_⟩
 unfold Zef
 exact(Zap (ZaD (Zbq Zai) Zah)
 (Zap (Zcp (Za6 Zab) Zah (Zap (ZaD Zao Zah)
 (Zap (Zcp (Za6 (Zbd ZcA Zab)) Zah (ZaD (Zax ZdX Zab (Zax ZfS (td_p (Zn7 Zel (tp_b Zel))) (Zax ZbW (Zax ZbW Zab Zab) Zab))) Zah))
 (Zgw Zab))))
 (ZaH Zab)))
theorem Zdu:∀j,CalX P w K mg base "_law_same" (j+1) ["_law_found","_law_due"] (ZaF j)
 | 0=>T.f_law_same.never
 | j+1=>by
  have hR:=Zdu j
  refine T.f_law_same.ok (body:=Zca (ZaF j)) sc_law_same (by decide) (fun _=>.inr rfl) fun f cdv A outer s H E hr=>?_
  refine⟨_,(Zaf (Zb6 (ZdN (ZaB (ZpP (K:=K) rfl) rfl T.B.isinstance boot_isinstance (Zaa (pvB 1) (Zaa (Zgt (Zaa (ZcV (v:=.ty "list") rfl T.B.list boot_list rfl) (Zaa (ZcV (v:=.ty "tuple") rfl T.B.tuple boot_tuple rfl) Zae))) Zae)))) (Zaf (Zb6 (PW.pt (Zlv (Zfg (ZdN (ZaB (ZpP (K:=K) rfl) rfl T.B.isinstance boot_isinstance (Zaa (pvB 0) (Zaa (Zgt (Zaa (ZcV (v:=.ty "list") rfl T.B.list boot_list rfl) (Zaa (ZcV (v:=.ty "tuple") rfl T.B.tuple boot_tuple rfl) Zae))) Zae))))) (Zir (ZaK Zhb (ZaB (Zie (K:=K) rfl) rfl T.B.isinstance boot_isinstance (Zaa (pvB 0) (Zaa (ZcV (v:=.ty "list") rfl T.B.list boot_list rfl) Zae))) (ZaB (Zie (K:=K) rfl) rfl T.B.isinstance boot_isinstance (Zaa (pvB 1) (Zaa (ZcV (v:=.ty "list") rfl T.B.list boot_list rfl) Zae))) (Za0 _))))) (Zam (ZaG Zgk)) ZaM)
 (Zaf (Zb6 (ZaK Zhb (ZaB (ZdS (K:=K) rfl) rfl T.B.len PySem.boot_len (Zaa (pvB 0) Zae)) (ZaB (ZdS (K:=K) rfl) rfl T.B.len PySem.boot_len (Zaa (pvB 1) Zae)) (Za0 _)) (Zam (ZaG Zgk)) ZaM)
 (Zaf (Zco PassesOwn.leaving rfl (ZgP (K:=K) rfl rfl T.B.zip (Zaa (pvB 0) (Zaa (pvB 1) Zae))) (ZeV (K:=K) (n:=2) rfl rfl (ZaX (Zas (i:=2) sc_law_same.nd) (ZaX (Zas (i:=3) sc_law_same.nd) ZdT))) (Zam (Zb6 (Zfg (ZdN (Zav (K:=K) (mg:=mg) hR rfl rfl Zaj hr (Zaa (pvB 2) (Zaa (pvB 3) Zae))))) (Zam (ZaG Zgk)) ZaM)))
 (Zam (ZaG Zgk))))) ZaM)
 (Zaf (Zb6 (PW.pt (Zlv (ZaK ZmA (pvB 1) Zmx (Za0 _)) (Zir (ZdN (ZaB (Zie (K:=K) rfl) rfl T.B.isinstance boot_isinstance (Zaa (pvB 1) (Zaa (ZcV (v:=.ty "str") rfl T.B.str boot_str rfl) Zae))))))) (Zam (ZaG (Zmy (ZqE (Zdj ZmA (pvB 0) Zmx (Za0 _)) (Zjw (ZaB (Zie (K:=K) rfl) rfl T.B.isinstance boot_isinstance (Zaa (pvB 0) (Zaa (ZcV (v:=.ty "str") rfl T.B.str boot_str rfl) Zae))))) (Zjw (Zdj Zfk (pvB 0) (pvB 1) (Za0 _)))))) ZaM)
 (Zaf (Zb6 (PW.pt (Zlv (Zfg (ZdN (ZaB (Zie (K:=K) rfl) rfl T.B.isinstance boot_isinstance (Zaa (pvB 0) (Zaa (ZcV (v:=.ty "int") rfl T.B.int boot_int rfl) Zae))))) (Zir (ZaK Zhb (ZaB (Zie (K:=K) rfl) rfl T.B.isinstance boot_isinstance (Zaa (pvB 0) (Zaa (ZcV (v:=.ty "bool") rfl T.B.bool boot_bool rfl) Zae))) (ZaB (Zie (K:=K) rfl) rfl T.B.isinstance boot_isinstance (Zaa (pvB 1) (Zaa (ZcV (v:=.ty "bool") rfl T.B.bool boot_bool rfl) Zae))) (Za0 _))))) (Zam (ZaG Zgk)) ZaM)
 (Zam (ZaG (Zdj Zfk (pvB 0) (pvB 1) (Za0 _))))))),fun fx=>?_⟩
  unfold Zca
  exact(Zap (Zb7 (ZcX (ZmR Zab)) (Zap (Zb7 (ZlY (Zfh (ZcX (ZmR Zab))) (ZaO (td_b Zia (Zic Zab) (Zic Zab)))) (ZaH Zgm) ZaP)
 (Zap (Zb7 (ZaO (td_b Zia (Zbd ZcA Zab) (Zbd ZcA Zab))) (ZaH Zgm) ZaP)
 (Zap (Zcp (ZgQ Zab Zab) (Zgv (ZaY Zah (ZaY Zah ZdW))) (Zb7 (Zfh (ZcX (Zaq (Zac Zab (Zac Zab Zai))))) (ZaH Zgm) ZaP))
 (ZaH Zgm)))) ZaP)
 (Zap (Zb7 (ZlY (ZaO (td_b ZmM Zab ZmW)) (ZcX (Zic Zab))) (ZaH (ZmI (ZqH (td_b ZmM Zab ZmW) (Zic Zab)) (td_b Zfn Zab Zab))) ZaP)
 (Zap (Zb7 (ZlY (Zfh (ZcX (Zic Zab))) (ZaO (td_b Zia (Zic Zab) (Zic Zab)))) (ZaH Zgm) ZaP)
 (ZaH (td_b Zfn Zab Zab)))))
theorem ZhO:CalX P w K mg base "done_in" 1 ["counts"] Zd8:=by
 refine T.f_done_in.ok (body:=ZeM) Zjm (by decide) (fun _=>.inr rfl) fun f cdv A outer s H E hr=>?_
 refine⟨_,(Zam (ZaG (Zow (ZeC (Zov (pvB 0)) (.cons rfl .nil) (.own (x:="name") (.cap (x:="counts") (j:=0) rfl (Or.inl rfl) (Or.inl rfl) ⟨_,rfl⟩ .nil)) (fun _ _ _ _=>(Zas (i:=0) (show(["name","counts"]:List Str).Nodup from by decide +kernel))) (fun _ _ _ _=>(Zep (ZaK Zhb (ZnV (Zho hr) (pvB 1) (pvB 0) (fun _ _=>rfl)) Zar (Za0 _)))) (fun _ _ _ _=>(pvB 0)))))),fun fx=>?_⟩
 unfold ZeM
 exact(ZaH (ZcY (fun _=>Zmj)))
theorem Zen:CalX P w K mg base "check_counts" 1 ["counts"] ZbX:=by
 refine T.f_check_counts.ok (body:=Zcx) sc_check_counts (by decide) (fun _=>.inr rfl) fun f cdv A outer s H E hr=>?_
 refine⟨_,(Zam (Zco PassesOwn.leaving rfl (Za1 (K:=K) rfl (pvB 0)) (Zas (i:=1) sc_check_counts.nd) (Zam (Zb6 (PW.pt (Zlv (ZaK Znt (pvB 1) Zar (Za0 _)) (Zir (ZaK ZjD (pvB 1) (ZcG (mg:=mg) rfl T.g_HIGHEST_COUNT) (Za0 _))))) (Zam (Zdx (K:=K) (mg:=mg) rfl rfl (fun _ _ _ _ _ _ _ _ I h q=>Zdv I h q) T.c_BadNumber T.x_BadNumber (Zd0 (Za7 ZbV (Za7 (ZfY (ZcG (mg:=mg) rfl T.g_HIGHEST_COUNT)) Zfi))))) ZaM)))),fun fx=>?_⟩
 unfold Zcx
 exact(Zcp (Zbr Zab) Zah (Zb7 (ZlY (ZaO (td_b Zn1 Zab Zao)) (ZaO (td_b Zkh Zab Zao))) (Zdb (k:=2) T.c_BadNumber (Za8 (ZbL (by decide)) (Za8 (Zf2 Zao) Zfj)) (by decide)) ZaP))
theorem Zg0:CalX P w K mg base "end_of" 1 ["deeds","counts","ware"] ZdG:=by
 refine T.f_end_of.ok (body:=ZfC) ZkM (by decide) (fun _=>.inr rfl) fun f cdv A outer s H E hr=>?_
 refine⟨_,(Zam (ZaG (ZaB (Zq6 (K:=K) rfl rfl) rfl T.B.sum boot_sum (Zaa (ZeC (ZgP (K:=K) rfl rfl T.B.zip (Zaa (pvB 1) (Zaa (pvB 0) Zae))) (.cons rfl .nil) (.own (x:="count") (.own (x:="row") (.cap (x:="ware") (j:=2) rfl (Or.inl rfl) (Or.inl rfl) ⟨_,rfl⟩ .nil))) (fun _ _ _ _=>(ZeV (K:=K) (n:=2) rfl rfl (ZaX (Zas (i:=0) (show(["count","row","ware"]:List Str).Nodup from by decide +kernel)) (ZaX (Zas (i:=1) (show(["count","row","ware"]:List Str).Nodup from by decide +kernel)) ZdT)))) (fun _ _ _ _=>ZbU) (fun _ _ _ _=>(ZaJ Zeq (pvB 0) (Zbw (q_ix (K:=K) rfl) (pvB 1) (pvB 2) (fun _ _=>rfl))))) Zae)))),fun fx=>?_⟩
 unfold ZfC
 exact(ZaH (Zbd Zp2 (Zba (ZgQ Zab Zab) (Zgv (ZaY Zah (ZaY Zah ZdW))) Zbi (Zax ZfS Zab (Zax ZbW Zab Zab)))))
theorem ZiP:CalX P w K mg base "row_of" 1 ["works","counts"] ZeN:=by
 refine T.f_row_of.ok (body:=ZfD) ZkN (by decide) (fun _=>.inr rfl) fun f cdv A outer s H E hr=>?_
 refine⟨_,(Zam (ZaG (ZeC (Za1 (K:=K) rfl (Zbo (K:=K) rfl (pvB 0))) (.cons rfl .nil) (.own (x:="name") (.cap (x:="counts") (j:=1) rfl (Or.inl rfl) (Or.inl rfl) ⟨_,rfl⟩ .nil)) (fun _ _ _ _=>(Zas (i:=0) (show(["name","counts"]:List Str).Nodup from by decide +kernel))) (fun _ _ _ _=>ZbU) (fun _ _ _ _=>(ZmU (Zho hr) (pvB 1) (pvB 0) Zar))))),fun fx=>?_⟩
 unfold ZfD
 exact(ZaH (ZcY (fun _=>(Zba (Zbr (ZaU T.fok_Standing_deed_names Zab)) Zah Zbi (ZiI Zab Zab Zao)))))
theorem Zjp:CalX P w K mg base "told_end" 2 ["works","counts","ware"] Zeh:=by
 refine T.f_told_end.ok (body:=Zeg) Zih (by decide) (fun _=>.inr rfl) fun f cdv A outer s H E hr=>?_
 refine⟨_,(Zam (ZaG (Zav (K:=K) (mg:=mg) (Zg0 T) rfl rfl Zaj (hr.mono (by decide)) (Zaa (Zbo (K:=K) rfl (pvB 0)) (Zaa (Zav (K:=K) (mg:=mg) (ZiP T) rfl rfl Zaj (hr.mono (by decide)) (Zaa (pvB 0) (Zaa (pvB 1) Zae))) (Zaa (Zoi (K:=K) rfl (Zbo (K:=K) rfl (pvB 0)) (Zaa (pvB 2) Zae)) Zae)))))),fun fx=>?_⟩
 unfold Zeg
 exact(ZaH (Zaq (Zac (Zat (ZaU T.fok_Standing_rows Zab)) (Zac (Zat (Zaq (Zac Zab (ZgK Zai)))) (Zac (Zat (Zl8 (ZaU T.fok_Standing_ware_names Zab) Zab)) Zai)))))
theorem Zez:CalX P w K mg base "without_forbidden" 3 ["standing"] Zbu:=by
 refine T.f_without_forbidden.ok (body:=Zbt) sc_without_forbidden (by decide) (fun _=>.inr rfl) fun f cdv A outer s H E hr=>?_
 refine⟨_,(Zaf (ZgI (i:=1) sc_without_forbidden.nd rfl (Za1 (K:=K) rfl (Zbo (K:=K) rfl (pvB 0))) (.cons rfl .nil) (.own (x:="name") (.cap (x:="standing") (j:=0) rfl (Or.inl rfl) (Or.inl rfl) ⟨_,rfl⟩ .nil)) (fun _ _ _ _=>(Zas (i:=0) (show(["name","standing"]:List Str).Nodup from by decide +kernel))) (fun _ _ _ _=>(Zep (ZaK (ZgO (K:=K) rfl) (pvB 0) (Zbo (K:=K) rfl (pvB 1)) (by with_unfolding_all rfl)))) (fun _ _ _ _=>(pvB 0)))
 (Zaf (ZgI (i:=2) sc_without_forbidden.nd rfl (ZgP (K:=K) rfl rfl T.B.zip (Zaa (Zbo (K:=K) rfl (pvB 0)) (Zaa (Zbo (K:=K) rfl (pvB 0)) Zae))) (.cons rfl .nil) (.own (x:="name") (.own (x:="row") (.cap (x:="standing") (j:=0) rfl (Or.inl rfl) (Or.inl rfl) ⟨_,rfl⟩ .nil))) (fun _ _ _ _=>(ZeV (K:=K) (n:=2) rfl rfl (ZaX (Zas (i:=0) (show(["name","row","standing"]:List Str).Nodup from by decide +kernel)) (ZaX (Zas (i:=1) (show(["name","row","standing"]:List Str).Nodup from by decide +kernel)) ZdT)))) (fun _ _ _ _=>(Zep (ZaK (ZgO (K:=K) rfl) (pvB 0) (Zbo (K:=K) rfl (pvB 2)) (by with_unfolding_all rfl)))) (fun _ _ _ _=>(pvB 1)))
 (Zam (ZaG (ZhC (K:=K) (mg:=mg) (ZbK T) rfl rfl Zaj (hr.mono (by decide)) (Zaa (Zbo (K:=K) rfl (pvB 0)) (Zaa (pvB 1) (Zaa (pvB 2) (Zaa (Zbj Zae) Zae))))))))),fun fx=>?_⟩
 unfold Zbt
 exact(Zap (ZaD (Zba (Zbr (ZaU T.fok_Standing_deed_names Zab)) Zah (ZaO (td_b ZfA Zab (ZaU T.fok_Standing_stopped Zab))) Zab) Zah)
 (Zap (ZaD (Zba (ZgQ (ZaU T.fok_Standing_deed_names Zab) (ZaU T.fok_Standing_rows Zab)) (Zgv (ZaY Zah (ZaY Zah ZdW))) (ZaO (td_b ZfA Zab (ZaU T.fok_Standing_stopped Zab))) Zab) Zah)
 (ZaH (ZeX T.c_Standing (Zac (Zat (ZaU T.fok_Standing_ware_names Zab)) (Zac Zab (Zac Zab (Zac (Zat (Zbq Zai)) Zai))))))))
theorem ZdQ:CalM P w K mg base "Office" "let_now" 4 ["self"] ZbB:=by
 refine T.f_Office_let_now.ok (body:=Zb3) Ze9 (by decide) (fun _=>.inr rfl) fun f cdv A outer s H E hr=>?_
 refine⟨_,(Zam (ZaG (Zav (K:=K) (mg:=mg) (Zez T) rfl rfl Zaj (hr.mono (by decide)) (Zaa (ZbG (K:=K) (mg:=mg) (Za3 T) rfl rfl Zaj (hr.mono (by decide)) (pvB 0)) Zae)))),fun fx=>?_⟩
 unfold Zb3
 exact(ZaH (Zaq (Zac (Zat (ZaW T.c_Office Zai)) Zai)))
theorem Zfv:CalM P w K mg base "Office" "ends_at" 5 ["self","counts","ware"] Zbb:=by
 refine T.f_Office_ends_at.ok (body:=Zb4) Zfa (by decide) (fun _=>.inr rfl) fun f cdv A outer s H E hr=>?_
 refine⟨_,(Zaf (ZaN (Zav (K:=K) (mg:=mg) (ZdJ T) rfl rfl Zaj (hr.mono (by decide)) (Zaa (ZbG (K:=K) (mg:=mg) (Za3 T) rfl rfl Zaj (hr.mono (by decide)) (pvB 0)) (Zaa (Zbc (Zdp (K:=K) rfl rfl) rfl T.B.list boot_list (Zaa (pvB 1) Zae)) Zae))))
 (Zaf (ZaN (Zav (K:=K) (mg:=mg) (ZeO T) rfl rfl Zaj (hr.mono (by decide)) (Zaa (ZbG (K:=K) (mg:=mg) (Za3 T) rfl rfl Zaj (hr.mono (by decide)) (pvB 0)) (Zaa (Zbj (Zaa (pvB 2) Zae)) Zae))))
 (Zaf (ZaN (Zav (K:=K) (mg:=mg) (Zey T) rfl rfl Zaj (hr.mono (by decide)) (Zaa (ZbG (K:=K) (mg:=mg) (Za3 T) rfl rfl Zaj (hr.mono (by decide)) (pvB 0)) (Zaa (Zav (K:=K) (mg:=mg) (ZhO T) rfl rfl Zaj (hr.mono (by decide)) (Zaa (pvB 1) Zae)) Zae))))
 (Zaf (ZaN (Zav (K:=K) (mg:=mg) (Zen T) rfl rfl Zaj (hr.mono (by decide)) (Zaa (Zbc (Ze0 rfl) rfl T.B.list boot_list (Zaa (Zec (K:=K) rfl (pvB 1)) Zae)) Zae)))
 (Zam (ZaG (Zav (K:=K) (mg:=mg) (Zjp T) rfl rfl Zaj (hr.mono (by decide)) (Zaa (ZbG (K:=K) (mg:=mg) (ZdQ T) rfl rfl Zaj (hr.mono (by decide)) (pvB 0)) (Zaa (pvB 1) (Zaa (pvB 2) Zae)))))))))),fun fx=>?_⟩
 unfold Zb4
 exact(Zap (Za5 (Zaq (Zac (Zat (ZaW T.c_Office Zai)) (Zac (Zat (ZcY (fun _=>(Zbd ZeG Zab)))) Zai))))
 (Zap (Za5 (Zaq (Zac (Zat (ZaW T.c_Office Zai)) (Zac (Zat (Zbq (Zac Zab Zai))) Zai))))
 (Zap (Za5 (Zaq (Zac (Zat (ZaW T.c_Office Zai)) (Zac (Zat (Zaq (ZgK Zai))) Zai))))
 (Zap (Za5 (Zaq (Zac (Zat (ZcY (fun _=>(ZeZ Zab)))) Zai)))
 (ZaH (Zaq (Zac (Zat (ZaW T.c_Office Zai)) (ZgK (Zac Zab Zai)))))))))
theorem ZhP:CalX P w K mg base "check_some" 1 ["counts"] Zdi:=by
 refine T.f_check_some.ok (body:=Zdh) ZgY (by decide) (fun _=>.inr rfl) fun f cdv A outer s H E hr=>?_
 refine⟨_,(Zam (Zb6 (Zfg (ZdN (ZaB (Zq7 (K:=K) rfl rfl) rfl T.B.any boot_any (Zaa (ZeC (Za1 (K:=K) rfl (pvB 0)) .nil (.own (x:="count") .nil) (fun _ _ _ _=>(Zas (i:=0) (show(["count"]:List Str).Nodup from by decide +kernel))) (fun _ _ _ _=>ZbU) (fun _ _ _ _=>(Zdj ZjD (pvB 0) Zar (Za0 _)))) Zae)))) (Zam (Zdx (K:=K) (mg:=mg) rfl rfl (fun _ _ _ _ _ _ _ _ I h q=>Zdv I h q) T.c_NoRound T.x_NoRound ZbV)) ZaM)),fun fx=>?_⟩
 unfold Zdh
 exact(Zb7 (Zfh (ZcX (Zbd Zp3 (Zba (Zbr Zab) Zah Zbi (td_b Zkh Zab Zao))))) (Zkl T.c_NoRound) ZaP)
theorem Zqb:CalX P w K mg base "ends" 2 ["width","deeds","counts"] ZhL:=by
 refine T.f_ends.ok (body:=ZiO) ZoB (by decide) (fun _=>.inr rfl) fun f cdv A outer s H E hr=>?_
 refine⟨_,(Zam (ZaG (ZeC (Za4 rfl T.B.range (Zaa (pvB 0) Zae)) (.cons rfl (.cons rfl .nil)) (.own (x:="ware") (.cap (x:="deeds") (j:=1) rfl (Or.inl rfl) (Or.inl rfl) ⟨_,rfl⟩ (.cap (x:="counts") (j:=2) rfl (Or.inl rfl) (Or.inl rfl) ⟨_,rfl⟩ .nil))) (fun _ _ _ _=>(Zas (i:=0) (show(["ware","deeds","counts"]:List Str).Nodup from by decide +kernel))) (fun _ _ _ _=>ZbU) (fun _ _ _ _=>(Zav (K:=K) (mg:=mg) (Zg0 T) rfl rfl ZgR (hr.mono (by decide)) (Zaa (pvB 1) (Zaa (pvB 2) (Zaa (pvB 0) Zae)))))))),fun fx=>?_⟩
 unfold ZiO
 exact(ZaH (Zba (Za6 Zab) Zah Zbi (Zaq (Zac Zab (Zac Zab (Zac Zab Zai))))))
theorem Zmk:CalX P w K mg base "uneven" 3 ["width","deeds","counts"] ZfF:=by
 refine T.f_uneven.ok (body:=ZfE) ZkO (by decide) (fun _=>.inr rfl) fun f cdv A outer s H E hr=>?_
 refine⟨_,(Zam (ZaG (ZeC (ZlN (K:=K) rfl rfl T.B.enumerate (Zaa (Zav (K:=K) (mg:=mg) (Zqb T) rfl rfl Zaj (hr.mono (by decide)) (Zaa (pvB 0) (Zaa (pvB 1) (Zaa (pvB 2) Zae)))) Zae)) .nil (.own (x:="ware") (.own (x:="end") .nil)) (fun _ _ _ _=>(ZeV (K:=K) (n:=2) rfl rfl (ZaX (Zas (i:=0) (show(["ware","end"]:List Str).Nodup from by decide +kernel)) (ZaX (Zas (i:=1) (show(["ware","end"]:List Str).Nodup from by decide +kernel)) ZdT)))) (fun _ _ _ _=>(Zep (ZaK Zhb (pvB 1) Zar (Za0 _)))) (fun _ _ _ _=>(pvB 0))))),fun fx=>?_⟩
 unfold ZfE
 exact(ZaH (Zba (Zou (Zaq (Zac Zab (Zac Zab (Zac Zab Zai))))) (Zgv (ZaY Zah (ZaY Zah ZdW))) (ZaO (td_b Zia Zab Zao)) Zab))
theorem ZkS:CalX P w K mg base "made_of" 1 ["width","deeds","counts"] ZhM:=T.f_made_of.never
theorem Zjq:CalX P w K mg base "by_names" 1 ["names","row"] Zgz:=T.f_by_names.never
theorem Zgp:CalX P w K mg base "told_settled" 4 ["works","counts"] Zcz:=by
 refine T.f_told_settled.ok (body:=Zcy) sc_told_settled (by decide) (fun _=>.inr rfl) fun f cdv A outer s H E hr=>?_
 refine⟨_,(Zaf (Zaz (i:=2) sc_told_settled.nd (ZaB (ZdS (K:=K) rfl) rfl T.B.len PySem.boot_len (Zaa (Zbo (K:=K) rfl (pvB 0)) Zae)))
 (Zaf (Zaz (i:=3) sc_told_settled.nd (Zav (K:=K) (mg:=mg) (ZiP T) rfl rfl Zaj (hr.mono (by decide)) (Zaa (pvB 0) (Zaa (pvB 1) Zae))))
 (Zaf (Zaz (i:=4) sc_told_settled.nd (Zav (K:=K) (mg:=mg) (Zmk T) rfl rfl Zaj (hr.mono (by decide)) (Zaa (pvB 2) (Zaa (Zbo (K:=K) rfl (pvB 0)) (Zaa (pvB 3) Zae)))))
 (Zaf (Zb6 (ZaK ZjD (ZaB (ZdS (K:=K) rfl) rfl T.B.len PySem.boot_len (Zaa (pvB 4) Zae)) Zar (Za0 _)) (Zam (ZaG (Zgt (Zaa ZbV (Zaa (Zbw (q_ix (K:=K) rfl) (Zbo (K:=K) rfl (pvB 0)) (Zbw (q_ix (K:=K) rfl) (pvB 4) Zar (fun _ _=>rfl)) (fun _ _=>rfl)) (Zaa (Zav (K:=K) (mg:=mg) (Zg0 T) rfl rfl Zaj (hr.mono (by decide)) (Zaa (Zbo (K:=K) rfl (pvB 0)) (Zaa (pvB 3) (Zaa (Zbw (q_ix (K:=K) rfl) (pvB 4) Zar (fun _ _=>rfl)) Zae)))) Zae)))))) ZaM)
 (Zaf (Zaz (i:=5) sc_told_settled.nd (Zav (K:=K) (mg:=mg) (ZkS T) rfl rfl Zaj (hr.mono (by decide)) (Zaa (pvB 2) (Zaa (Zbo (K:=K) rfl (pvB 0)) (Zaa (pvB 3) Zae)))))
 (Zam (ZaG (Zgt (Zaa ZbV (Zaa (ZeC (Za1 (K:=K) rfl (pvB 5)) (.cons rfl .nil) (.own (x:="top") (.own (x:="bottom") (.own (x:="lean") (.cap (x:="works") (j:=0) rfl (Or.inl rfl) (Or.inl rfl) ⟨_,rfl⟩ .nil)))) (fun _ _ _ _=>(ZeV (K:=K) (n:=3) rfl rfl (ZaX (Zas (i:=0) (show(["top","bottom","lean","works"]:List Str).Nodup from by decide +kernel)) (ZaX (Zas (i:=1) (show(["top","bottom","lean","works"]:List Str).Nodup from by decide +kernel)) (ZaX (Zas (i:=2) (show(["top","bottom","lean","works"]:List Str).Nodup from by decide +kernel)) ZdT))))) (fun _ _ _ _=>ZbU) (fun _ _ _ _=>(Zgt (Zaa (pvB 0) (Zaa (pvB 1) (Zaa (Zav (K:=K) (mg:=mg) (Zjq T) rfl rfl ZgR (hr.mono (by decide)) (Zaa (Zbo (K:=K) rfl (pvB 3)) (Zaa (pvB 2) Zae))) Zae)))))) Zae)))))))))),fun fx=>?_⟩
 unfold Zcy
 exact(Zap (ZaD (Zbd ZcA (ZaU T.fok_Standing_ware_names Zab)) Zah)
 (Zap (ZaD (Zaq (Zac Zab (ZgK Zai))) Zah)
 (Zap (ZaD (Zaq (Zac Zab (Zac (Zat (ZaU T.fok_Standing_rows Zab)) (Zac Zab Zai)))) Zah)
 (Zap (Zb7 (ZaO (td_b Zkh (Zbd ZcA Zab) Zao)) (ZaH (ZiE (Zac Zf4 (Zac (Zax ZbW (ZaU T.fok_Standing_ware_names Zab) (Zax ZbW Zab Zao)) (Zac (Zat (Zaq (Zac (Zat (ZaU T.fok_Standing_rows Zab)) (Zac Zab (Zac (Zat (Zax ZbW Zab Zao)) Zai))))) Zai))))) ZaP)
 (Zap (ZaD (Zaq (Zac Zab (Zac (Zat (ZaU T.fok_Standing_rows Zab)) (Zac Zab Zai)))) Zah)
 (ZaH (ZiE (Zac Zf4 (Zac (Zba (Zbr Zab) (Zgv (ZaY Zah (ZaY Zah (ZaY Zah ZdW)))) Zbi (ZiE (Zac Zab (Zac Zab (Zac (Zat (Zaq (Zac (Zat (ZaU T.fok_Standing_deed_names Zab)) (Zac Zab Zai)))) Zai))))) Zai)))))))))
theorem Zgd:CalM P w K mg base "Office" "settle" 5 ["self","counts"] Zbn:=by
 refine T.f_Office_settle.ok (body:=Zcl) Zfs (by decide) (fun _=>.inr rfl) fun f cdv A outer s H E hr=>?_
 refine⟨_,(Zaf (ZaN (Zav (K:=K) (mg:=mg) (ZdJ T) rfl rfl Zaj (hr.mono (by decide)) (Zaa (ZbG (K:=K) (mg:=mg) (Za3 T) rfl rfl Zaj (hr.mono (by decide)) (pvB 0)) (Zaa (Zbc (Zdp (K:=K) rfl rfl) rfl T.B.list boot_list (Zaa (pvB 1) Zae)) Zae))))
 (Zaf (ZaN (Zav (K:=K) (mg:=mg) (Zey T) rfl rfl Zaj (hr.mono (by decide)) (Zaa (ZbG (K:=K) (mg:=mg) (Za3 T) rfl rfl Zaj (hr.mono (by decide)) (pvB 0)) (Zaa (Zav (K:=K) (mg:=mg) (ZhO T) rfl rfl Zaj (hr.mono (by decide)) (Zaa (pvB 1) Zae)) Zae))))
 (Zaf (ZaN (Zav (K:=K) (mg:=mg) (Zen T) rfl rfl Zaj (hr.mono (by decide)) (Zaa (Zbc (Ze0 rfl) rfl T.B.list boot_list (Zaa (Zec (K:=K) rfl (pvB 1)) Zae)) Zae)))
 (Zaf (ZaN (Zav (K:=K) (mg:=mg) (ZhP T) rfl rfl Zaj (hr.mono (by decide)) (Zaa (Zbc (Ze0 rfl) rfl T.B.list boot_list (Zaa (Zec (K:=K) rfl (pvB 1)) Zae)) Zae)))
 (Zam (ZaG (Zav (K:=K) (mg:=mg) (Zgp T) rfl rfl Zaj (hr.mono (by decide)) (Zaa (ZbG (K:=K) (mg:=mg) (ZdQ T) rfl rfl Zaj (hr.mono (by decide)) (pvB 0)) (Zaa (pvB 1) Zae))))))))),fun fx=>?_⟩
 unfold Zcl
 exact(Zap (Za5 (Zaq (Zac (Zat (ZaW T.c_Office Zai)) (Zac (Zat (ZcY (fun _=>(Zbd ZeG Zab)))) Zai))))
 (Zap (Za5 (Zaq (Zac (Zat (ZaW T.c_Office Zai)) (Zac (Zat (Zaq (ZgK Zai))) Zai))))
 (Zap (Za5 (Zaq (Zac (Zat (ZcY (fun _=>(ZeZ Zab)))) Zai)))
 (Zap (Za5 (Zaq (Zac (Zat (ZcY (fun _=>(ZeZ Zab)))) Zai)))
 (ZaH (Zaq (Zac (Zat (ZaW T.c_Office Zai)) (ZgK Zai))))))))
theorem Zqc{f:Addr}{fd:FuncData}(Fn:Fun K "law" "law" ZkK f fd):FnOk P w K mg base (XC P w) 8 f fd ["_law_script"] (spF K mg 1 ZoD):=by
 refine Fun.okX Fn (body:=ZoC) sc_law (by decide) (fun _=>.inr rfl) fun cdv A outer s H E hr=>?_
 refine⟨_,(@Zaf _ _ _ _ _ (@Zjx _ _ _ _ _ _ (Zav (K:=K) (mg:=mg) (ZkR T) rfl rfl Zaj (hr.mono (by decide)) (Zaa (pvB 0) (Zaa Zar Zae))) (ZmT (K:=K) (n:=5) rfl rfl (ZaX (Zas (i:=1) sc_law.nd) (ZaX (Zas (i:=2) sc_law.nd) (ZaX (Zas (i:=3) sc_law.nd) (ZaX (Zas (i:=4) sc_law.nd) (ZaX (Zas (i:=5) sc_law.nd) ZdT)))))) (by rfl) (by rfl) (by rfl)) (@Zaf _ _ _ _ _ (@Zb6 _ _ _ _ _ _ _ _ (@ZaK _ _ _ _ _ _ _ _ (ZnP (K:=K) rfl (Nat.lt_of_succ_lt (Zho hr))) (@pvB _ _ 3 _ (by rfl)) (@Zbj _ _ _ _ (@Zae _)) (Za0 _)) (@Zaf _ _ _ _ _ (@ZaN _ _ _ _ (ZeH (K:=K) (mg:=mg) (Zdt T) rfl rfl Zaj (hr.mono (by decide)) (pvB 2) (Zaa ZbV Zae)) (by rfl)) (@Zaf _ _ _ _ _ (@Zaz _ _ (3) _ _ _ _ sc_law.nd (@Zbj _ _ _ _ (@Zaa _ _ _ _ _ (@ZbV _ _ _ _) (@Zae _) (by rfl))) (by rfl) (by rfl)) (@Zam _ _ _ (@ZgI _ _ _ _ _ _ _ _ _ _ _ _ _ _ (5) _ _ _ sc_law.nd rfl (@Za1 _ (K) _ _ _ rfl (@pvB _ _ 5 _ (by rfl))) .nil (.own (x:="_law_row_here") .nil) (fun _ _ _ _=>(@Zas _ _ (0) _ (show(["_law_row_here"]:List Str).Nodup from by decide +kernel) (by rfl))) (fun _ _ _ _=>(@ZbU _)) (fun _ _ _ _=>(@Zer _ _ _ ([0]) rfl)) (by rfl) (by rfl) (by rfl) (by rfl) (by rfl) (by rfl) (by rfl) (by rfl) (by intro _;rfl))))) (@ZaM _)) (@Zaf _ _ _ _ _ (@Zaz _ _ (6) _ _ _ _ sc_law.nd (@Zbw _ _ _ _ _ _ _ (q_ix (K:=K) rfl) (@Zbj _ _ _ _ (@Zaa _ _ _ _ _ (@Zar _ _ _ _) (@Zaa _ _ _ _ _ (@ZaJ _ _ _ _ _ _ _ _ Zpb (@Zar _ _ _ _) (@Zar _ _ _ _)) (@Zae _) (by rfl)) (by rfl))) (@ZaJ _ _ _ _ _ _ _ _ ZbD (Zav (K:=K) (mg:=mg) (Zb5 T) rfl rfl Zaj (hr.mono (by decide)) (Zaa (pvB 0) (Zaa Zar Zae))) (@Zar _ _ _ _)) (fun _ _=>rfl)) (by rfl) (by rfl)) (@Zaf _ _ _ _ _ (@Zaz _ _ (7) _ _ _ _ sc_law.nd (@Zbj _ _ _ _ (@Zae _)) (by rfl) (by rfl)) (@Zaf _ _ _ _ _ (@Zaz _ _ (8) _ _ _ _ sc_law.nd ZiB (by rfl) (by rfl)) (@Zaf _ _ _ _ _ (@Zco _ _ _ _ _ _ _ _ PassesOwn.leaving rfl (@Za4 _ _ _ _ _ _ rfl T.B.range (@Zaa _ _ _ _ _ (@ZaB _ _ _ _ _ _ _ _ _ (ZdS (K:=K) rfl) rfl T.B.len PySem.boot_len (@Zaa _ _ _ _ _ (@pvB _ _ 4 _ (by rfl)) (@Zae _) (by rfl)) (by decide) (by decide) (by rfl) (by rfl)) (@Zae _) (by rfl)) (by rfl)) (@Zas _ _ (9) _ sc_law.nd (by rfl)) (@Zaf _ _ _ _ _ (@Zaz _ _ (10) _ _ _ _ sc_law.nd (Zav (K:=K) (mg:=mg) (Zb5 T) rfl rfl Zaj (hr.mono (by decide)) (Zaa (pvB 0) (Zaa (ZaJ ZdU Zar (pvB 9)) Zae))) (by rfl) (by rfl)) (@Zaf _ _ _ _ _ (@ZaN _ _ _ _ (Zdw (K:=K) rfl (pvB 7) (Zaa (Zbw (q_ix (K:=K) rfl) (Zbj (Zaa (ZaJ ZbD (ZaJ ZcW (pvB 10) Zar) (pvB 6)) (Zaa Zar Zae))) (Zbc Zhc rfl T.B.int boot_int (Zaa (Zdj Zfk (ZaJ ZbD (pvB 10) Zar) Zar (Za0 _)) Zae)) (fun _ _=>rfl)) Zae)) (by rfl)) (@Zam _ _ _ (@Zb6 _ _ _ _ _ _ _ _ (@ZaK _ _ _ _ _ _ _ _ Znt (@ZaJ _ _ _ _ _ _ _ _ ZbD (@pvB _ _ 10 _ (by rfl)) (@Zar _ _ _ _)) (@Zar _ _ _ _) (Za0 _)) (@Zam _ _ _ (Zh5 (Zho hr) (pvB 8) (Zbw (q_ix (K:=K) rfl) (pvB 4) (pvB 9) (fun _ _=>rfl)) (Zbw (q_ix (K:=K) rfl) (pvB 7) (pvB 9) (fun _ _=>rfl)) rfl)) (@ZaM _))))) (by intro _;rfl)) (@Zaf _ _ _ _ _ (@Zb6 _ _ _ _ _ _ _ _ (@ZaK _ _ _ _ _ _ _ _ Zfk (@ZaJ _ _ _ _ _ _ _ _ ZbD (@ZaJ _ _ _ _ _ _ _ _ ZcW (Zav (K:=K) (mg:=mg) (Zb5 T) rfl rfl Zaj (hr.mono (by decide)) (Zaa (pvB 0) (Zaa Zar Zae))) (@Zar _ _ _ _)) (@Zar _ _ _ _)) (@Zar _ _ _ _) (Za0 _)) (@Zam _ _ _ (@Zco _ _ _ _ _ _ _ _ PassesOwn.leaving rfl (@Za1 _ (K) _ _ _ rfl (ZbG (K:=K) (mg:=mg) (ZeP T) rfl rfl Zaj (hr.mono (by decide)) (pvB 2))) (@Zas _ _ (11) _ sc_law.nd (by rfl)) (@Zam _ _ _ (Zh5 (Zho hr) (pvB 8) (pvB 11) Zar rfl)) (by intro _;rfl))) (@ZaM _)) (@Zaf _ _ _ _ _ (@Zaz _ _ (12) _ _ _ _ sc_law.nd (@Zbc _ _ _ _ _ _ _ _ _ (Zjk (K:=K)) rfl T.B.dict boot_dict (@Zaa _ _ _ _ _ (@pvB _ _ 8 _ (by rfl)) (@Zae _) (by rfl)) (by decide) (by decide) (by rfl) (by rfl)) (by rfl) (by rfl)) (@Zaf _ _ _ _ _ (@Zaz _ _ (13) _ _ _ _ sc_law.nd (Zav (K:=K) (mg:=mg) (Zjo T) rfl rfl Zaj (hr.mono (by decide)) (Zaa (ZaB (ZdS (K:=K) rfl) rfl T.B.len PySem.boot_len (Zaa (pvB 3) Zae)) (Zaa (pvB 5) (Zaa (pvB 7) Zae)))) (by rfl) (by rfl)) (@Zaf _ _ _ _ _ (@Zco _ _ _ _ _ _ _ _ PassesOwn.leaving rfl (@Za4 _ _ _ _ _ _ rfl T.B.range (@Zaa _ _ _ _ _ (@ZaB _ _ _ _ _ _ _ _ _ (ZdS (K:=K) rfl) rfl T.B.len PySem.boot_len (@Zaa _ _ _ _ _ (@pvB _ _ 3 _ (by rfl)) (@Zae _) (by rfl)) (by decide) (by decide) (by rfl) (by rfl)) (@Zae _) (by rfl)) (by rfl)) (@Zas _ _ (9) _ sc_law.nd (by rfl)) (@Zam _ _ _ (@Zb6 _ _ _ _ _ _ _ _ (@Zfg _ _ _ _ (@ZdN _ _ _ (Zav (K:=K) (mg:=mg) (Zdu T 4) rfl rfl Zaj (hr.mono (by decide)) (Zaa (ZeH (K:=K) (mg:=mg) (Zfv T) rfl rfl Zaj (hr.mono (by decide)) (pvB 2) (Zaa (pvB 8) (Zaa (Zbw (q_ix (K:=K) rfl) (pvB 3) (pvB 9) (fun _ _=>rfl)) Zae))) (Zaa (Zbw (q_ix (K:=K) rfl) (pvB 13) (pvB 9) (fun _ _=>rfl)) Zae))) (by intro _;rfl))) (@Zam _ _ _ (@ZaG _ _ _ _ (@Zgk _ _ _ _))) (@ZaM _))) (by intro _;rfl)) (@Zaf _ _ _ _ _ (@ZgI _ _ _ _ _ _ _ _ _ _ _ _ _ _ (14) _ _ _ sc_law.nd rfl (@Za4 _ _ _ _ _ _ rfl T.B.range (@Zaa _ _ _ _ _ (@ZaB _ _ _ _ _ _ _ _ _ (ZdS (K:=K) rfl) rfl T.B.len PySem.boot_len (@Zaa _ _ _ _ _ (@pvB _ _ 3 _ (by rfl)) (@Zae _) (by rfl)) (by decide) (by decide) (by rfl) (by rfl)) (@Zae _) (by rfl)) (by rfl)) (.cons rfl .nil) (.own (x:="_law_k") (.cap (x:="_law_due") (j:=13) rfl (Or.inl rfl) (Or.inl rfl) ⟨_,rfl⟩ .nil)) (fun _ _ _ _=>(@Zas _ _ (0) _ (show(["_law_k","_law_due"]:List Str).Nodup from by decide +kernel) (by rfl))) (fun _ _ _ _=>(@Zep _ _ _ (@ZaK _ _ _ _ _ _ _ _ Zhb (@Zbw _ _ _ _ _ _ _ (q_ix (K:=K) rfl) (@pvB _ _ 1 _ (by rfl)) (@pvB _ _ 0 _ (by rfl)) (fun _ _=>rfl)) (@Zar _ _ _ _) (Za0 _)))) (fun _ _ _ _=>(@pvB _ _ 0 _ (by rfl))) (by rfl) (by rfl) (by rfl) (by rfl) (by rfl) (by rfl) (by rfl) (by rfl) (by intro _;rfl)) (@Zaf _ _ _ _ _ (@Zb6 _ _ _ _ _ _ _ _ (@ZaK _ _ _ _ _ _ _ _ (Zq5 (K:=K) rfl (Nat.lt_of_succ_lt (Zho hr))) (@pvB _ _ 14 _ (by rfl)) (@Zbj _ _ _ _ (@Zae _)) (Za0 _)) (@Zaf _ _ _ _ _ (@Zaz _ _ (15) _ _ _ _ sc_law.nd (@Zgt _ _ _ _ _ (@Zaa _ _ _ _ _ (@ZbV _ _ _ _) (@Zaa _ _ _ _ _ (@Zbw _ _ _ _ _ _ _ (q_ix (K:=K) rfl) (@pvB _ _ 3 _ (by rfl)) (@Zbw _ _ _ _ _ _ _ (q_ix (K:=K) rfl) (@pvB _ _ 14 _ (by rfl)) (@Zar _ _ _ _) (fun _ _=>rfl)) (fun _ _=>rfl)) (@Zaa _ _ _ _ _ (@Zbw _ _ _ _ _ _ _ (q_ix (K:=K) rfl) (@pvB _ _ 13 _ (by rfl)) (@Zbw _ _ _ _ _ _ _ (q_ix (K:=K) rfl) (@pvB _ _ 14 _ (by rfl)) (@Zar _ _ _ _) (fun _ _=>rfl)) (fun _ _=>rfl)) (@Zae _) (by rfl)) (by rfl)) (by rfl))) (by rfl) (by rfl)) (@Zam _ _ _ (@Zb6 _ _ _ _ _ _ _ _ (@Zfg _ _ _ _ (@ZdN _ _ _ (Zav (K:=K) (mg:=mg) (Zdu T 4) rfl rfl Zaj (hr.mono (by decide)) (Zaa (ZeH (K:=K) (mg:=mg) (Zgd T) rfl rfl Zaj (hr.mono (by decide)) (pvB 2) (Zaa (pvB 8) Zae)) (Zaa (pvB 15) Zae))) (by intro _;rfl))) (@Zam _ _ _ (@ZaG _ _ _ _ (@Zgk _ _ _ _))) (@ZaM _)))) (@ZaM _)) (@Zaf _ _ _ _ _ (@Zb6 _ _ _ _ _ _ _ _ (@Zfg _ _ _ _ (@ZdN _ _ _ (Zav (K:=K) (mg:=mg) (Zdu T 4) rfl rfl Zaj (hr.mono (by decide)) (Zaa (Zbc (Zdp (K:=K) rfl rfl) rfl T.B.list boot_list (Zaa (pvB 8) Zae)) (Zaa (Zbc (Zdp (K:=K) rfl rfl) rfl T.B.list boot_list (Zaa (pvB 12) Zae)) Zae))) (by intro _;rfl))) (@Zam _ _ _ (@ZaG _ _ _ _ (@Zgk _ _ _ _))) (@ZaM _)) (@Zam _ _ _ (@ZaG _ _ _ _ (Zav (K:=K) (mg:=mg) (Zdu T 4) rfl rfl Zaj (hr.mono (by decide)) (Zaa (Zbc (Ze0 rfl) rfl T.B.list boot_list (Zaa (Zec (K:=K) rfl (pvB 8)) Zae)) (Zaa (Zbc (Ze0 rfl) rfl T.B.list boot_list (Zaa (Zec (K:=K) rfl (pvB 12)) Zae)) Zae)))))))))))))))))),fun fx=>?_⟩
 unfold ZoC
 exact(Zap (ZaD (Zaq (Zac Zab (Zac Zao Zai))) (Zke (ZaY Zah (ZaY Zah (ZaY Zah (ZaY Zah (ZaY Zah ZdW)))))))
 (Zap (Zb7 (ZaO (td_b Zp7 Zab (Zbq Zai))) (Zap (Za5 (ZaW T.c_Office (Zac Zf4 Zai)))
 (Zap (ZaD (Zbq (Zac Zf4 Zai)) Zah)
 (ZaD (Zba (Zbr Zab) Zah Zbi Zet) Zah))) ZaP)
 (Zap (ZaD (Zax ZbW (Zbq (Zac Zao (Zac (Zax ZpY Zao Zao) Zai))) (Zax ZbE (Zaq (Zac Zab (Zac Zao Zai))) Zao)) Zah)
 (Zap (ZaD (Zbq Zai) Zah)
 (Zap (ZaD Zkq Zah)
 (Zap (Zcp (Za6 (Zbd ZcA Zab)) Zah (Zap (ZaD (Zaq (Zac Zab (Zac (Zat (Zax ZdX Zao Zab)) Zai))) Zah)
 (Zap (Zgw (Zat (Zax ZbW (Zbq (Zac (Zax ZbE (Zax ZdY Zab Zao) Zab) (Zac Zao Zai))) (Zbd ZmN (td_b Zfn (Zax ZbE Zab Zao) Zao)))))
 (Zb7 (ZaO (td_b Zn1 (Zax ZbE Zab Zao) Zao)) (Zif (td_p (Zn7 Zel (tp_b Zel))) (Zax ZbW Zab Zab)) ZaP))))
 (Zap (Zb7 (ZaO (td_b Zfn (Zax ZbE (Zax ZdY (Zaq (Zac Zab (Zac Zao Zai))) Zao) Zao) Zao)) (Zcp (Zbr (ZaW T.c_Office Zai)) Zah (Zif Zao Zab)) ZaP)
 (Zap (ZaD (Zbd Zmf Zab) Zah)
 (Zap (ZaD (Zaq (Zac (Zat (Zbd ZcA Zab)) (Zac Zab (ZgK Zai)))) Zah)
 (Zap (Zcp (Za6 (Zbd ZcA Zab)) Zah (Zb7 (Zfh (ZcX (Zaq (Zac (Zat (ZaW T.c_Office (Zac Zab (Zac (Zat (Zax ZbW Zab Zab)) Zai)))) (Zac (Zat (Zax ZbW Zab Zab)) Zai))))) (ZaH Zgm) ZaP))
 (Zap (ZaD (Zba (Za6 (Zbd ZcA Zab)) Zah (ZaO (td_b Zia (Zax ZbW Zab Zab) Zao)) Zab) Zah)
 (Zap (Zb7 (ZaO (td_b Zp1 Zab (Zbq Zai))) (Zap (ZaD (ZiE (Zac Zf4 (Zac (Zax ZbW Zab (Zax ZbW Zab Zao)) (Zac (Zax ZbW Zab (Zax ZbW Zab Zao)) Zai)))) Zah)
 (Zb7 (Zfh (ZcX (Zaq (Zac (Zat (ZaW T.c_Office (Zac Zab Zai))) (Zac Zab Zai))))) (ZaH Zgm) ZaP)) ZaP)
 (Zap (Zb7 (Zfh (ZcX (Zaq (Zac (Zat (Zbd ZeG Zab)) (Zac (Zat (Zbd ZeG Zab)) Zai))))) (ZaH Zgm) ZaP)
 (ZaH (Zaq (Zac (Zat (ZeZ Zab)) (Zac (Zat (ZeZ Zab)) Zai)))))))))))))))))
end
end My
namespace My
open PySem PySem.Spec PyProof.Rows L2 DL PySem.W
def eD(P:Params)(x:Str)(t:Nat)(v:Value):DictEntry:=⟨PyData.keyHash P x,.str x t,v⟩
def fO(n q:Str)(st:Stmt)(m:Str)(t c:Nat):Obj:=⟨.type "function",none,.func (PySem.W.fnOf n q (ZdV st) (ZbT st) (Zal st) .none .none .none (.str m t) none (.ref c) .none),Array.mk []⟩
def kO(n q:Str)(t:Nat)(l a g:Int)(r1:Nat)(m:Int)(r2 r3 r4 r5:Nat)(t4:Int)(t5:Nat):Obj:=⟨.type "code",none,.fields (Array.mk [.str n t,.str q (t+1),.str "/claim/cut.py" (t+2),.int l 0,.int a 0,.int 0 0,.int 0 0,.int g 0,.ref r1,.bool true,.int m 0,.ref r2,.none,.ref r3,.ref r4,.ref r5,.int t4 0,.int l 0,.str "/claim/cut.py" t5]),Array.mk []⟩
noncomputable def KK:Params->Frag:=fun P=>
 (nat_lit 3,⟨(.type "dict"),none,(.dict (Array.mk [eD P "__name__" 165 (.str "law_leanmodes_k22_ends_at" 908),eD P "__doc__" 166 .none,eD P "__package__" 167 .none,eD P "__loader__" 168 (.builtin "__main__.__loader__#opaque"),eD P "__spec__" 169 .none,eD P "__annotations__" 170 (.ref 6),eD P "__builtins__" 171 (.ref 4),eD P "__file__" 173 (.str "/claim/cut.py" 172),eD P "__cached__" 174 .none,eD P "_wall" 193 (.ref 21),eD P "WorksError" 213 (.ref 31),eD P "BadName" 229 (.ref 44),eD P "Taken" 245 (.ref 56),eD P "NoDeed" 261 (.ref 68),eD P "NoWare" 277 (.ref 80),eD P "Forbidden" 293 (.ref 92),eD P "BadNumber" 309 (.ref 104),eD P "NoRound" 325 (.ref 116),eD P "NoRoom" 341 (.ref 128),eD P "LETTERS" 345 (.str "abcdefghijklmnopqrstuvwxyz" 344),eD P "LONGEST" 347 (.int 6 346),eD P "has_form" 353 (.ref 135),eD P "HIGHEST_NUMBER" 357 (.int 9 356),eD P "HIGHEST_COUNT" 359 (.int 999999999999 358),eD P "check_new_name" 367 (.ref 142),eD P "check_deeds" 376 (.ref 149),eD P "check_wares" 385 (.ref 156),eD P "check_let" 394 (.ref 163),eD P "check_numbers" 402 (.ref 170),eD P "check_counts" 410 (.ref 177),eD P "check_some" 416 (.ref 182),eD P "check_room" 424 (.ref 189),eD P "Standing" 461 (.ref 206),eD P "nothing_put_in" 467 (.ref 217),eD P "with_new_ware" 473 (.ref 222),eD P "with_new_deed" 479 (.ref 227),eD P "with_forbidden" 487 (.ref 234),eD P "number_of" 496 (.ref 241),eD P "forbidden_names" 502 (.ref 246),eD P "without_forbidden" 508 (.ref 251),eD P "divisor_of_two" 519 (.ref 258),eD P "divisor" 528 (.ref 265),eD P "lowest" 534 (.ref 270),eD P "fraction" 543 (.ref 277),eD P "deed_set" 554 (.ref 284),eD P "is_within" 562 (.ref 291),eD P "single" 570 (.ref 296),eD P "evened" 576 (.ref 301),eD P "are_neighbours" 582 (.ref 306),eD P "evened_pairs" 588 (.ref 311),eD P "end_of" 596 (.ref 316),eD P "ends" 602 (.ref 321),eD P "uneven" 608 (.ref 326),eD P "places" 614 (.ref 331),eD P "with_ware" 622 (.ref 336),eD P "lean_rounds" 628 (.ref 341),eD P "first_to_run_out" 640 (.ref 348),eD P "made_of" 646 (.ref 353),eD P "by_names" 654 (.ref 358),eD P "told_rounds" 660 (.ref 363),eD P "told_lean" 667 (.ref 370),eD P "row_of" 673 (.ref 375),eD P "told_settled" 679 (.ref 380),eD P "told_end" 688 (.ref 387),eD P "MOST_WARES" 692 (.int 6 691),eD P "MOST_DEEDS" 694 (.int 10 693),eD P "MOST_DOINGS" 696 (.int 200 695),eD P "done_in" 702 (.ref 392),eD P "Office" 907 (.ref 564),eD P "_law_at" 917 (.ref 575),eD P "_law_mix" 926 (.ref 582),eD P "_law_draws" 938 (.ref 589),eD P "_law_row" 944 (.ref 594),eD P "_law_works" 950 (.ref 599),eD P "_law_name" 964 (.ref 606),eD P "_law_office" 978 (.ref 613),eD P "_law_set" 984 (.ref 618),eD P "_law_same" 994 (.ref 625),eD P "_law_sums" 1007 (.ref 632),eD P "law" 1013 (.ref 637)]) 80),Array.mk []⟩) ::
 (nat_lit 30,⟨(.type "dict"),none,(.dict (Array.mk [eD P "__module__" 203 (.str "leanmodes.errors" 194),eD P "__firstlineno__" 207 (.int 5 206),eD P "__static_attributes__" 208 (.ref 29),eD P "__weakref__" 210 (.ref 32),eD P "__doc__" 211 .none]) 3),Array.mk []⟩) ::
 (nat_lit 31,⟨(.type "type"),none,(.cls ⟨"WorksError",[(.type "ValueError")],[(.ref 31),(.type "ValueError"),(.type "Exception"),(.type "BaseException"),(.type "object")],30,"WorksError",true,[],[(.ref 44),(.ref 56),(.ref 68),(.ref 80),(.ref 92),(.ref 104),(.ref 116),(.ref 128)],false,none,false⟩),Array.mk [some (.ref 22),none,some (.str "WorksError" 196),some (.str "WorksError" 204),some (.builtin "ValueError.__new__"),some (.bool true)]⟩) ::
 (nat_lit 43,⟨(.type "dict"),none,(.dict (Array.mk [eD P "__module__" 221 (.str "leanmodes.errors" 194),eD P "__firstlineno__" 225 (.int 7 224),eD P "__static_attributes__" 226 (.ref 42),eD P "__doc__" 227 .none]) 2),Array.mk []⟩) ::
 (nat_lit 44,⟨(.type "type"),none,(.cls ⟨"BadName",[(.ref 31)],[(.ref 44),(.ref 31),(.type "ValueError"),(.type "Exception"),(.type "BaseException"),(.type "object")],43,"BadName",true,[],[],false,none,false⟩),Array.mk [some (.ref 35),none,some (.str "BadName" 214),some (.str "BadName" 222),some (.builtin "ValueError.__new__"),some (.bool true)]⟩) ::
 (nat_lit 55,⟨(.type "dict"),none,(.dict (Array.mk [eD P "__module__" 237 (.str "leanmodes.errors" 194),eD P "__firstlineno__" 241 (.int 9 240),eD P "__static_attributes__" 242 (.ref 54),eD P "__doc__" 243 .none]) 2),Array.mk []⟩) ::
 (nat_lit 56,⟨(.type "type"),none,(.cls ⟨"Taken",[(.ref 31)],[(.ref 56),(.ref 31),(.type "ValueError"),(.type "Exception"),(.type "BaseException"),(.type "object")],55,"Taken",true,[],[],false,none,false⟩),Array.mk [some (.ref 47),none,some (.str "Taken" 230),some (.str "Taken" 238),some (.builtin "ValueError.__new__"),some (.bool true)]⟩) ::
 (nat_lit 67,⟨(.type "dict"),none,(.dict (Array.mk [eD P "__module__" 253 (.str "leanmodes.errors" 194),eD P "__firstlineno__" 257 (.int 11 256),eD P "__static_attributes__" 258 (.ref 66),eD P "__doc__" 259 .none]) 2),Array.mk []⟩) ::
 (nat_lit 68,⟨(.type "type"),none,(.cls ⟨"NoDeed",[(.ref 31)],[(.ref 68),(.ref 31),(.type "ValueError"),(.type "Exception"),(.type "BaseException"),(.type "object")],67,"NoDeed",true,[],[],false,none,false⟩),Array.mk [some (.ref 59),none,some (.str "NoDeed" 246),some (.str "NoDeed" 254),some (.builtin "ValueError.__new__"),some (.bool true)]⟩) ::
 (nat_lit 79,⟨(.type "dict"),none,(.dict (Array.mk [eD P "__module__" 269 (.str "leanmodes.errors" 194),eD P "__firstlineno__" 273 (.int 13 272),eD P "__static_attributes__" 274 (.ref 78),eD P "__doc__" 275 .none]) 2),Array.mk []⟩) ::
 (nat_lit 80,⟨(.type "type"),none,(.cls ⟨"NoWare",[(.ref 31)],[(.ref 80),(.ref 31),(.type "ValueError"),(.type "Exception"),(.type "BaseException"),(.type "object")],79,"NoWare",true,[],[],false,none,false⟩),Array.mk [some (.ref 71),none,some (.str "NoWare" 262),some (.str "NoWare" 270),some (.builtin "ValueError.__new__"),some (.bool true)]⟩) ::
 (nat_lit 91,⟨(.type "dict"),none,(.dict (Array.mk [eD P "__module__" 285 (.str "leanmodes.errors" 194),eD P "__firstlineno__" 289 (.int 15 288),eD P "__static_attributes__" 290 (.ref 90),eD P "__doc__" 291 .none]) 2),Array.mk []⟩) ::
 (nat_lit 92,⟨(.type "type"),none,(.cls ⟨"Forbidden",[(.ref 31)],[(.ref 92),(.ref 31),(.type "ValueError"),(.type "Exception"),(.type "BaseException"),(.type "object")],91,"Forbidden",true,[],[],false,none,false⟩),Array.mk [some (.ref 83),none,some (.str "Forbidden" 278),some (.str "Forbidden" 286),some (.builtin "ValueError.__new__"),some (.bool true)]⟩) ::
 (nat_lit 103,⟨(.type "dict"),none,(.dict (Array.mk [eD P "__module__" 301 (.str "leanmodes.errors" 194),eD P "__firstlineno__" 305 (.int 17 304),eD P "__static_attributes__" 306 (.ref 102),eD P "__doc__" 307 .none]) 2),Array.mk []⟩) ::
 (nat_lit 104,⟨(.type "type"),none,(.cls ⟨"BadNumber",[(.ref 31)],[(.ref 104),(.ref 31),(.type "ValueError"),(.type "Exception"),(.type "BaseException"),(.type "object")],103,"BadNumber",true,[],[],false,none,false⟩),Array.mk [some (.ref 95),none,some (.str "BadNumber" 294),some (.str "BadNumber" 302),some (.builtin "ValueError.__new__"),some (.bool true)]⟩) ::
 (nat_lit 115,⟨(.type "dict"),none,(.dict (Array.mk [eD P "__module__" 317 (.str "leanmodes.errors" 194),eD P "__firstlineno__" 321 (.int 19 320),eD P "__static_attributes__" 322 (.ref 114),eD P "__doc__" 323 .none]) 2),Array.mk []⟩) ::
 (nat_lit 116,⟨(.type "type"),none,(.cls ⟨"NoRound",[(.ref 31)],[(.ref 116),(.ref 31),(.type "ValueError"),(.type "Exception"),(.type "BaseException"),(.type "object")],115,"NoRound",true,[],[],false,none,false⟩),Array.mk [some (.ref 107),none,some (.str "NoRound" 310),some (.str "NoRound" 318),some (.builtin "ValueError.__new__"),some (.bool true)]⟩) ::
 (nat_lit 127,⟨(.type "dict"),none,(.dict (Array.mk [eD P "__module__" 333 (.str "leanmodes.errors" 194),eD P "__firstlineno__" 337 (.int 21 336),eD P "__static_attributes__" 338 (.ref 126),eD P "__doc__" 339 .none]) 2),Array.mk []⟩) ::
 (nat_lit 128,⟨(.type "type"),none,(.cls ⟨"NoRoom",[(.ref 31)],[(.ref 128),(.ref 31),(.type "ValueError"),(.type "Exception"),(.type "BaseException"),(.type "object")],127,"NoRoom",true,[],[],false,none,false⟩),Array.mk [some (.ref 119),none,some (.str "NoRoom" 326),some (.str "NoRoom" 334),some (.builtin "ValueError.__new__"),some (.bool true)]⟩) ::
 (nat_lit 134,⟨(.type "code"),none,(.fields (Array.mk [(.str "has_form" 348),(.str "has_form" 349),(.str "/claim/cut.py" 350),(.int 26 0),(.int 1 0),(.int 0 0),(.int 0 0),(.int 3 0),(.ref 131),(.bool true),(.int 181 0),(.ref 132),.none,.none,.none,(.ref 133),(.int 351 0),(.int 26 0),(.str "/claim/cut.py" 352)])),Array.mk []⟩) ::
 (nat_lit 135,fO "has_form" "has_form" Ze1 "leanmodes.names" 342 134) ::
 (nat_lit 141,kO "check_new_name" "check_new_name" 360 31 2 3 136 181 137 138 139 140 365 366) ::
 (nat_lit 142,fO "check_new_name" "check_new_name" ZcI "leanmodes.refusals" 354 141) ::
 (nat_lit 148,kO "check_deeds" "check_deeds" 368 36 2 3 143 181 144 145 146 147 374 375) ::
 (nat_lit 149,fO "check_deeds" "check_deeds" ZdB "leanmodes.refusals" 354 148) ::
 (nat_lit 155,kO "check_wares" "check_wares" 377 40 2 3 150 181 151 152 153 154 383 384) ::
 (nat_lit 156,fO "check_wares" "check_wares" ZdA "leanmodes.refusals" 354 155) ::
 (nat_lit 162,kO "check_let" "check_let" 386 44 2 3 157 181 158 159 160 161 392 393) ::
 (nat_lit 163,fO "check_let" "check_let" Zew "leanmodes.refusals" 354 162) ::
 (nat_lit 169,kO "check_numbers" "check_numbers" 395 48 1 3 164 181 165 166 167 168 400 401) ::
 (nat_lit 170,fO "check_numbers" "check_numbers" Zc2 "leanmodes.refusals" 354 169) ::
 (nat_lit 176,kO "check_counts" "check_counts" 403 52 1 3 171 181 172 173 174 175 408 409) ::
 (nat_lit 177,fO "check_counts" "check_counts" Zdm "leanmodes.refusals" 354 176) ::
 (nat_lit 181,⟨(.type "code"),none,(.fields (Array.mk [(.str "check_some" 411),(.str "check_some" 412),(.str "/claim/cut.py" 413),(.int 56 0),(.int 1 0),(.int 0 0),(.int 0 0),(.int 3 0),(.ref 178),(.bool true),(.int 181 0),(.ref 179),.none,.none,.none,(.ref 180),(.int 414 0),(.int 56 0),(.str "/claim/cut.py" 415)])),Array.mk []⟩) ::
 (nat_lit 182,fO "check_some" "check_some" Zd5 "leanmodes.refusals" 354 181) ::
 (nat_lit 188,kO "check_room" "check_room" 417 59 2 3 183 181 184 185 186 187 422 423) ::
 (nat_lit 189,fO "check_room" "check_room" Zd3 "leanmodes.refusals" 354 188) ::
 (nat_lit 202,kO "__init__" "Standing.__init__" 439 65 5 3 197 181 198 199 200 201 447 448) ::
 (nat_lit 203,fO "__init__" "Standing.__init__" ZcZ "leanmodes.standing" 425 202) ::
 (nat_lit 205,⟨(.type "dict"),none,(.dict (Array.mk [eD P "__module__" 434 (.str "leanmodes.standing" 425),eD P "__firstlineno__" 438 (.int 63 437),eD P "__init__" 449 (.ref 203),eD P "__static_attributes__" 454 (.ref 204),eD P "__dict__" 456 (.ref 207),eD P "__weakref__" 458 (.ref 208),eD P "__doc__" 459 .none]) 4),Array.mk []⟩) ::
 (nat_lit 206,⟨(.type "type"),none,(.cls ⟨"Standing",[(.type "object")],[(.ref 206),(.type "object")],205,"Standing",true,[],[],false,none,false⟩),Array.mk [none,none,some (.str "Standing" 427),some (.str "Standing" 435),some (.builtin "object.__new__"),some (.bool true)]⟩) ::
 (nat_lit 216,kO "nothing_put_in" "nothing_put_in" 462 70 0 3 211 181 212 213 214 215 465 466) ::
 (nat_lit 217,fO "nothing_put_in" "nothing_put_in" ZcH "leanmodes.standing" 425 216) ::
 (nat_lit 221,⟨(.type "code"),none,(.fields (Array.mk [(.str "with_new_ware" 468),(.str "with_new_ware" 469),(.str "/claim/cut.py" 470),(.int 72 0),(.int 2 0),(.int 0 0),(.int 0 0),(.int 3 0),(.ref 218),(.bool true),(.int 181 0),(.ref 219),.none,.none,.none,(.ref 220),(.int 471 0),(.int 72 0),(.str "/claim/cut.py" 472)])),Array.mk []⟩) ::
 (nat_lit 222,fO "with_new_ware" "with_new_ware" Zc1 "leanmodes.standing" 425 221) ::
 (nat_lit 226,⟨(.type "code"),none,(.fields (Array.mk [(.str "with_new_deed" 474),(.str "with_new_deed" 475),(.str "/claim/cut.py" 476),(.int 75 0),(.int 3 0),(.int 0 0),(.int 0 0),(.int 3 0),(.ref 223),(.bool true),(.int 181 0),(.ref 224),.none,.none,.none,(.ref 225),(.int 477 0),(.int 75 0),(.str "/claim/cut.py" 478)])),Array.mk []⟩) ::
 (nat_lit 227,fO "with_new_deed" "with_new_deed" Zc3 "leanmodes.standing" 425 226) ::
 (nat_lit 233,kO "with_forbidden" "with_forbidden" 480 78 2 3 228 181 229 230 231 232 485 486) ::
 (nat_lit 234,fO "with_forbidden" "with_forbidden" ZcJ "leanmodes.standing" 425 233) ::
 (nat_lit 245,⟨(.type "code"),none,(.fields (Array.mk [(.str "forbidden_names" 497),(.str "forbidden_names" 498),(.str "/claim/cut.py" 499),(.int 82 0),(.int 1 0),(.int 0 0),(.int 0 0),(.int 3 0),(.ref 242),(.bool true),(.int 181 0),(.ref 243),.none,.none,.none,(.ref 244),(.int 500 0),(.int 82 0),(.str "/claim/cut.py" 501)])),Array.mk []⟩) ::
 (nat_lit 246,fO "forbidden_names" "forbidden_names" Zcu "leanmodes.standing" 425 245) ::
 (nat_lit 250,⟨(.type "code"),none,(.fields (Array.mk [(.str "without_forbidden" 503),(.str "without_forbidden" 504),(.str "/claim/cut.py" 505),(.int 84 0),(.int 1 0),(.int 0 0),(.int 0 0),(.int 3 0),(.ref 247),(.bool true),(.int 181 0),(.ref 248),.none,.none,.none,(.ref 249),(.int 506 0),(.int 84 0),(.str "/claim/cut.py" 507)])),Array.mk []⟩) ::
 (nat_lit 251,fO "without_forbidden" "without_forbidden" Zb8 "leanmodes.standing" 425 250) ::
 (nat_lit 315,⟨(.type "code"),none,(.fields (Array.mk [(.str "end_of" 591),(.str "end_of" 592),(.str "/claim/cut.py" 593),(.int 139 0),(.int 3 0),(.int 0 0),(.int 0 0),(.int 3 0),(.ref 312),(.bool true),(.int 181 0),(.ref 313),.none,.none,.none,(.ref 314),(.int 594 0),(.int 139 0),(.str "/claim/cut.py" 595)])),Array.mk []⟩) ::
 (nat_lit 316,fO "end_of" "end_of" ZgT "leanmodes.rounds" 589 315) ::
 (nat_lit 320,⟨(.type "code"),none,(.fields (Array.mk [(.str "ends" 597),(.str "ends" 598),(.str "/claim/cut.py" 599),(.int 141 0),(.int 3 0),(.int 0 0),(.int 0 0),(.int 3 0),(.ref 317),(.bool true),(.int 181 0),(.ref 318),.none,.none,.none,(.ref 319),(.int 600 0),(.int 141 0),(.str "/claim/cut.py" 601)])),Array.mk []⟩) ::
 (nat_lit 321,fO "ends" "ends" ZkJ "leanmodes.rounds" 589 320) ::
 (nat_lit 325,⟨(.type "code"),none,(.fields (Array.mk [(.str "uneven" 603),(.str "uneven" 604),(.str "/claim/cut.py" 605),(.int 143 0),(.int 3 0),(.int 0 0),(.int 0 0),(.int 3 0),(.ref 322),(.bool true),(.int 181 0),(.ref 323),.none,.none,.none,(.ref 324),(.int 606 0),(.int 143 0),(.str "/claim/cut.py" 607)])),Array.mk []⟩) ::
 (nat_lit 326,fO "uneven" "uneven" ZgV "leanmodes.rounds" 589 325) ::
 (nat_lit 352,⟨(.type "code"),none,(.fields (Array.mk [(.str "made_of" 641),(.str "made_of" 642),(.str "/claim/cut.py" 643),(.int 164 0),(.int 3 0),(.int 0 0),(.int 0 0),(.int 3 0),(.ref 349),(.bool true),(.int 181 0),(.ref 350),.none,.none,.none,(.ref 351),(.int 644 0),(.int 164 0),(.str "/claim/cut.py" 645)])),Array.mk []⟩) ::
 (nat_lit 353,fO "made_of" "made_of" ZhK "leanmodes.made" 629 352) ::
 (nat_lit 357,⟨(.type "code"),none,(.fields (Array.mk [(.str "by_names" 649),(.str "by_names" 650),(.str "/claim/cut.py" 651),(.int 179 0),(.int 2 0),(.int 0 0),(.int 0 0),(.int 3 0),(.ref 354),(.bool true),(.int 181 0),(.ref 355),.none,.none,.none,(.ref 356),(.int 652 0),(.int 179 0),(.str "/claim/cut.py" 653)])),Array.mk []⟩) ::
 (nat_lit 358,fO "by_names" "by_names" Zgy "leanmodes.told" 647 357) ::
 (nat_lit 374,⟨(.type "code"),none,(.fields (Array.mk [(.str "row_of" 668),(.str "row_of" 669),(.str "/claim/cut.py" 670),(.int 185 0),(.int 2 0),(.int 0 0),(.int 0 0),(.int 3 0),(.ref 371),(.bool true),(.int 181 0),(.ref 372),.none,.none,.none,(.ref 373),(.int 671 0),(.int 185 0),(.str "/claim/cut.py" 672)])),Array.mk []⟩) ::
 (nat_lit 375,fO "row_of" "row_of" ZgU "leanmodes.told" 647 374) ::
 (nat_lit 379,⟨(.type "code"),none,(.fields (Array.mk [(.str "told_settled" 674),(.str "told_settled" 675),(.str "/claim/cut.py" 676),(.int 187 0),(.int 2 0),(.int 0 0),(.int 0 0),(.int 3 0),(.ref 376),(.bool true),(.int 181 0),(.ref 377),.none,.none,.none,(.ref 378),(.int 677 0),(.int 187 0),(.str "/claim/cut.py" 678)])),Array.mk []⟩) ::
 (nat_lit 380,fO "told_settled" "told_settled" Zdn "leanmodes.told" 647 379) ::
 (nat_lit 386,kO "told_end" "told_end" 680 195 3 3 381 181 382 383 384 385 686 687) ::
 (nat_lit 387,fO "told_end" "told_end" Ze5 "leanmodes.told" 647 386) ::
 (nat_lit 391,⟨(.type "code"),none,(.fields (Array.mk [(.str "done_in" 697),(.str "done_in" 698),(.str "/claim/cut.py" 699),(.int 201 0),(.int 1 0),(.int 0 0),(.int 0 0),(.int 3 0),(.ref 388),(.bool true),(.int 181 0),(.ref 389),.none,.none,.none,(.ref 390),(.int 700 0),(.int 201 0),(.str "/claim/cut.py" 701)])),Array.mk []⟩) ::
 (nat_lit 392,fO "done_in" "done_in" Zf8 "leanmodes.office" 689 391) ::
 (nat_lit 405,kO "__init__" "Office.__init__" 715 205 1 3 400 181 401 402 403 404 719 720) ::
 (nat_lit 406,fO "__init__" "Office.__init__" Zdy "leanmodes.office" 689 405) ::
 (nat_lit 412,kO "now" "Office.now" 722 208 1 3 407 181 408 409 410 411 726 727) ::
 (nat_lit 413,fO "now" "Office.now" Zd2 "leanmodes.office" 689 412) ::
 (nat_lit 419,kO "let_now" "Office.let_now" 729 211 1 3 414 181 415 416 417 418 733 734) ::
 (nat_lit 420,fO "let_now" "Office.let_now" ZcK "leanmodes.office" 689 419) ::
 (nat_lit 426,kO "keep" "Office.keep" 736 214 2 3 421 181 422 423 424 425 741 742) ::
 (nat_lit 427,fO "keep" "Office.keep" Zdz "leanmodes.office" 689 426) ::
 (nat_lit 433,kO "put_ware" "Office.put_ware" 744 218 2 3 428 181 429 430 431 432 750 751) ::
 (nat_lit 434,fO "put_ware" "Office.put_ware" Zcs "leanmodes.office" 689 433) ::
 (nat_lit 440,kO "put_deed" "Office.put_deed" 753 225 3 3 435 181 436 437 438 439 760 761) ::
 (nat_lit 441,fO "put_deed" "Office.put_deed" Zct "leanmodes.office" 689 440) ::
 (nat_lit 454,kO "forbid" "Office.forbid" 773 237 2 3 449 181 450 451 452 453 779 780) ::
 (nat_lit 455,fO "forbid" "Office.forbid" Zc4 "leanmodes.office" 689 454) ::
 (nat_lit 476,kO "doings" "Office.doings" 799 250 1 3 471 181 472 473 474 475 803 804) ::
 (nat_lit 477,fO "doings" "Office.doings" Zc0 "leanmodes.office" 689 476) ::
 (nat_lit 497,kO "forbidden" "Office.forbidden" 820 259 1 3 492 181 493 494 495 496 824 825) ::
 (nat_lit 498,fO "forbidden" "Office.forbidden" Zcd "leanmodes.office" 689 497) ::
 (nat_lit 553,kO "settle" "Office.settle" 882 285 2 3 548 181 549 550 551 552 887 888) ::
 (nat_lit 554,fO "settle" "Office.settle" Zc5 "leanmodes.office" 689 553) ::
 (nat_lit 560,kO "ends_at" "Office.ends_at" 890 292 3 3 555 181 556 557 558 559 896 897) ::
 (nat_lit 561,fO "ends_at" "Office.ends_at" ZcL "leanmodes.office" 689 560) ::
 (nat_lit 563,⟨(.type "dict"),none,(.dict (Array.mk [eD P "__module__" 710 (.str "leanmodes.office" 689),eD P "__firstlineno__" 714 (.int 203 713),eD P "__init__" 721 (.ref 406),eD P "now" 728 (.ref 413),eD P "let_now" 735 (.ref 420),eD P "keep" 743 (.ref 427),eD P "put_ware" 752 (.ref 434),eD P "put_deed" 762 (.ref 441),eD P "change" 772 (.ref 448),eD P "forbid" 781 (.ref 455),eD P "let" 789 (.ref 462),eD P "take_back" 798 (.ref 470),eD P "doings" 805 (.ref 477),eD P "wares" 812 (.ref 484),eD P "deeds" 819 (.ref 491),eD P "forbidden" 826 (.ref 498),eD P "number" 835 (.ref 505),eD P "lean" 842 (.ref 512),eD P "with_without" 851 (.ref 519),eD P "stands" 859 (.ref 526),eD P "idle" 866 (.ref 533),eD P "sums" 873 (.ref 540),eD P "fewest_to_forbid" 881 (.ref 547),eD P "settle" 889 (.ref 554),eD P "ends_at" 898 (.ref 561),eD P "__static_attributes__" 900 (.ref 562),eD P "__dict__" 902 (.ref 565),eD P "__weakref__" 904 (.ref 566),eD P "__doc__" 905 .none]) 4),Array.mk []⟩) ::
 (nat_lit 564,⟨(.type "type"),none,(.cls ⟨"Office",[(.type "object")],[(.ref 564),(.type "object")],563,"Office",true,[],[],false,none,false⟩),Array.mk [none,none,some (.str "Office" 703),some (.str "Office" 711),some (.builtin "object.__new__"),some (.bool true)]⟩) ::
 (nat_lit 574,kO "_law_at" "_law_at" 910 299 2 3 569 181 570 571 572 573 915 916) ::
 (nat_lit 575,fO "_law_at" "_law_at" ZgS "law_leanmodes_k22_ends_at" 908 574) ::
 (nat_lit 581,kO "_law_mix" "_law_mix" 918 303 2 3 576 181 577 578 579 580 924 925) ::
 (nat_lit 582,fO "_law_mix" "_law_mix" Zf5 "law_leanmodes_k22_ends_at" 908 581) ::
 (nat_lit 588,kO "_law_draws" "_law_draws" 927 306 4 3 583 181 584 585 586 587 936 937) ::
 (nat_lit 589,fO "_law_draws" "_law_draws" Zeu "law_leanmodes_k22_ends_at" 908 588) ::
 (nat_lit 593,⟨(.type "code"),none,(.fields (Array.mk [(.str "_law_row" 939),(.str "_law_row" 940),(.str "/claim/cut.py" 941),(.int 315 0),(.int 3 0),(.int 0 0),(.int 0 0),(.int 3 0),(.ref 590),(.bool true),(.int 181 0),(.ref 591),.none,.none,.none,(.ref 592),(.int 942 0),(.int 315 0),(.str "/claim/cut.py" 943)])),Array.mk []⟩) ::
 (nat_lit 594,fO "_law_row" "_law_row" Zf6 "law_leanmodes_k22_ends_at" 908 593) ::
 (nat_lit 598,⟨(.type "code"),none,(.fields (Array.mk [(.str "_law_works" 945),(.str "_law_works" 946),(.str "/claim/cut.py" 947),(.int 321 0),(.int 1 0),(.int 0 0),(.int 0 0),(.int 3 0),(.ref 595),(.bool true),(.int 181 0),(.ref 596),.none,.none,.none,(.ref 597),(.int 948 0),(.int 321 0),(.str "/claim/cut.py" 949)])),Array.mk []⟩) ::
 (nat_lit 599,fO "_law_works" "_law_works" Zev "law_leanmodes_k22_ends_at" 908 598) ::
 (nat_lit 605,kO "_law_name" "_law_name" 951 334 2 3 600 181 601 602 603 604 962 963) ::
 (nat_lit 606,fO "_law_name" "_law_name" Ze2 "law_leanmodes_k22_ends_at" 908 605) ::
 (nat_lit 612,kO "_law_office" "_law_office" 965 347 4 3 607 181 608 609 610 611 976 977) ::
 (nat_lit 613,fO "_law_office" "_law_office" Zd4 "law_leanmodes_k22_ends_at" 908 612) ::
 (nat_lit 617,⟨(.type "code"),none,(.fields (Array.mk [(.str "_law_set" 979),(.str "_law_set" 980),(.str "/claim/cut.py" 981),(.int 358 0),(.int 2 0),(.int 0 0),(.int 0 0),(.int 3 0),(.ref 614),(.bool true),(.int 181 0),(.ref 615),.none,.none,.none,(.ref 616),(.int 982 0),(.int 358 0),(.str "/claim/cut.py" 983)])),Array.mk []⟩) ::
 (nat_lit 618,fO "_law_set" "_law_set" Zf7 "law_leanmodes_k22_ends_at" 908 617) ::
 (nat_lit 624,kO "_law_same" "_law_same" 985 371 2 3 619 181 620 621 622 623 992 993) ::
 (nat_lit 625,fO "_law_same" "_law_same" Ze4 "law_leanmodes_k22_ends_at" 908 624) ::
 (nat_lit 631,kO "_law_sums" "_law_sums" 995 386 3 3 626 181 627 628 629 630 1005 1006) ::
 (nat_lit 632,fO "_law_sums" "_law_sums" Ze3 "law_leanmodes_k22_ends_at" 908 631) ::
 (nat_lit 636,⟨(.type "code"),none,(.fields (Array.mk [(.str "law" 1008),(.str "law" 1009),(.str "/claim/cut.py" 1010),(.int 394 0),(.int 1 0),(.int 0 0),(.int 0 0),(.int 3 0),(.ref 633),(.bool true),(.int 181 0),(.ref 634),.none,.none,.none,(.ref 635),(.int 1011 0),(.int 394 0),(.str "/claim/cut.py" 1012)])),Array.mk []⟩) ::
 (nat_lit 637,fO "law" "law" ZkK "law_leanmodes_k22_ends_at" 908 636) :: []
def KA:List Addr:=[3,30,31,43,44,55,56,67,68,79,80,91,92,103,104,115,116,127,128,134,135,141,142,148,149,155,156,162,163,169,170,176,177,181,182,188,189,202,203,205,206,216,217,221,222,226,227,233,234,245,246,250,251,315,316,320,321,325,326,352,353,357,358,374,375,379,380,386,387,391,392,405,406,412,413,419,420,426,427,433,434,440,441,454,455,476,477,497,498,553,554,560,561,563,564,574,575,581,582,588,589,593,594,598,599,605,606,612,613,617,618,624,625,631,632,636,637]
def KP:List Nat:=[0,2,3,4,5,6,7,8,9,10,12,13,14,16,17,18,19,20,21,22,23,24,25,27,28,29,30,31,32,33,34,36,37,38,39,41,42,44,45,46,47,49,50,51,52,54,55,57,58,60,61,62,63,64,65,67,68,69,70,71,73,74,75,76,77,78,79,80,81,82,83]
abbrev pwK:Program:=PySem.Challenge.pw_leanmodes_k22_ends_at
def qK:Program:=PySem.W.view pwK KP
theorem ekK:∀P,KA=(KK P).map (·.1):=fun _=>by kernel_rfl
noncomputable def runK:=runS pwK qK KA 20000
noncomputable def goodK:=Zp9 qK KK
theorem twK:(Function.const _ true (runK,goodK):Bool)=true:=by k_qdec
theorem e1K(w:World)(os:OsState):pj1 (runK w os)=qj1 (goodK w os):=by
 have _:=twK
 rw[PySem.W.Fast.te10250739832206929840,PySem.W.Fast.te5222347185251412909]
 kernel_rfl
theorem e2K(w:World)(os:OsState):pj2 (runK w os)=qj2 (goodK w os):=by
 have _:=twK
 rw[PySem.W.Fast.te10250739832206929840,PySem.W.Fast.te5222347185251412909]
 kernel_rfl
theorem e3K(w:World)(os:OsState):pj3 (runK w os)=qj3 (goodK w os):=by
 have _:=twK
 rw[PySem.W.Fast.te10250739832206929840,PySem.W.Fast.te5222347185251412909]
 kernel_rfl
theorem e4K(w:World)(os:OsState):pj4 (runK w os)=qj4 (goodK w os):=by
 have _:=twK
 rw[PySem.W.Fast.te10250739832206929840,PySem.W.Fast.te5222347185251412909]
 kernel_rfl
theorem e5K(w:World)(os:OsState):pj5 (runK w os)=qj5 (goodK w os):=by
 have _:=twK
 rw[PySem.W.Fast.te10250739832206929840,PySem.W.Fast.te5222347185251412909]
 kernel_rfl
theorem eqK(w:World):runK w=goodK w:=funext fun os=>Zqa (e1K w os) (e2K w os) (e3K w os) (e4K w os) (e5K w os)
theorem leftK:LeftO pwK qK [] (Zoz qK) (kHook KK KA ekK).obs (kHook KK KA ekK).val 20000 true:=
 ZoA (by kernel_rfl) (by decide) (fun _=>by kernel_rfl) eqK
end My
namespace My
open PySem L2 DL
section
def okS:Nat->T->Bool
 | _,.non=>true
 | _,.bl _=>true
 | _,.int _=>true
 | _,.str _=>true
 | n+1,.lst ts=>ts.all (okS n)
 | n+1,.tup ts=>ts.all (okS n)
 | _,_=>false
theorem ZiQ{R:List D->FO}(ts:List T)(a b:Sl):(∀t∈ts,R [.t t,.t t]=.ret (.t (.bl true)) [.t t,.t t]) -> ∀x y:Sl,(x=.e \/ ∃d,x=.v d)->(y=.e \/ ∃d,y=.v d) -> ∃x' y',
 forS (kTup Zbp 2 (Zay (Zag 2) (Zay (Zag 3) Zcc))) (sIf (sNot (sT (Zaw 2 R [none,none] (Zad (eVar 2) (Zad (eVar 3) aNil))))) (sRet (eC (.bl false))) ZaS) (ts.map fun a=>.tup [a,a]) [a,b,x,y]=.next [a,b,x',y']:=by
 induction ts with
 | nil=>intro _ x y _ _;exact⟨x,y,rfl⟩
 | cons t ts ih=>
  intro h x y hx hy
  obtain⟨x',y',e⟩:=ih (fun t q=>h t (.tail _ q)) (.v (.t t)) (.v (.t t)) (.inr ⟨_,rfl⟩) (.inr ⟨_,rfl⟩)
  refine⟨x',y',?_⟩
  have ht:=h t (.head _)
  rw[List.map_cons,forS]
  have k1:kTup Zbp 2 (Zay (Zag 2) (Zay (Zag 3) Zcc)) (.t (.tup [t,t])) [a,b,x,y]=some [a,b,.v (.t t),.v (.t t)]:=by
   rcases hx with rfl | ⟨d,rfl⟩<;>rcases hy with rfl | ⟨d',rfl⟩<;>simp[kTup,Zbp,Zay,Zcc,Zag]
  rw[k1]
  simp[Out.bnd,Out.th,FO.of,sIf,sNot,sT,Zaw,Zad,aNil,eVar,frz,ht,ZeF,wb,ZaS]
  exact e
theorem ZeQ:∀(n:Nat) (x:T),okS n x=true->ZaF (n+1) [.t x,.t x]=.ret (.t (.bl true)) [.t x,.t x]:=by
 intro n
 induction n with
 | zero=>
  intro x h
  cases x<;>first | (simp[okS] at h;done) | simp[Out.bnd,Out.th,FO.of,ZaF,runF,Zca,Zbx,Zh9,outA,sSeq,sIf,sOr,sNot,sT,e1,eVar,oIs2,oIs,tyN,Zfo,eB,e2,eC,frz,ZeF,oIsN,isN,ZaS,sRet,eAnd,eOr,oEq,oNe]
 | succ n ih=>
  intro x h
  show runF 4 (Zca (ZaF (n+1))) _=_
  generalize ZaF (n+1)=R at ih ⊢
  cases x with
  | lst ts=>
   simp only[okS,List.all_eq_true] at h
   obtain⟨x',y',e⟩:=ZiQ ts (.v (.t (.lst ts))) (.v (.t (.lst ts))) (fun t q=>ih t (h t q)) .e .e (.inl rfl) (.inl rfl)
   simp[Out.bnd,Out.th,FO.of,runF,Zca,Zbx,Zh9,outA,sSeq,sIf,sOr,sNot,sT,e1,eVar,oIs2,oIs,tyN,Zfo,eB,e2,eC,frz,ZeF,oNe,oEq,oLen,items,ZaS,sFor,Zek,zipD,ZdZ,sRet]
   rw[e]
   simp[Out.bnd,Out.th,FO.of,outA]
  | tup ts=>
   simp only[okS,List.all_eq_true] at h
   obtain⟨x',y',e⟩:=ZiQ ts (.v (.t (.tup ts))) (.v (.t (.tup ts))) (fun t q=>ih t (h t q)) .e .e (.inl rfl) (.inl rfl)
   simp[Out.bnd,Out.th,FO.of,runF,Zca,Zbx,Zh9,outA,sSeq,sIf,sOr,sNot,sT,e1,eVar,oIs2,oIs,tyN,Zfo,eB,e2,eC,frz,ZeF,oNe,oEq,oLen,items,ZaS,sFor,Zek,zipD,ZdZ,sRet]
   rw[e]
   simp[Out.bnd,Out.th,FO.of,outA]
  | _=>first | (simp[okS] at h;done) | simp[Out.bnd,Out.th,FO.of,runF,Zca,Zbx,Zh9,outA,sSeq,sIf,sOr,sNot,sT,e1,eVar,oIs2,oIs,tyN,Zfo,eB,e2,eC,frz,ZeF,oIsN,isN,ZaS,sRet,eAnd,eOr,oEq,oNe]
end
local macro_rules | `(tactic| simp_arith[$as,*])=>`(tactic| simp (decide:=true) [-List.map_append,-List.map_map,runF,Zbx,Zh9,outA,FO.of,Out.bnd,Out.th,sSeq,sAsg,sIf,sFor,sRet,ZqJ,Zcb,ZaS,sApp,Zl3,ZhA,Zl4,Zcq,sTry,sT,sNot,sAnd,sOr,eVar,eC,e1,e2,Zl9,Zom,eAnd,eOr,eIf,ZiC,Zaw,Zbs,ZgM,eLst,eTup,Zd1,ZpU,eFrz,eP,eIdx,Zf3,Zji,aNil,Zad,aIo,lend,put,wb,Zag,Zay,Zcc,kTup,ZfR,Zbp,upSl,Zby,Zbz,Zkz,Zq4,ZpX,ZfB,bVar,bFld,fldD,pB,pC,p2,pLen,lenD,pNeg,pIx,ixD,Sl.get,uSeq,uC,ZfZ,Zf1,putD,Zkt,Zku,ZmX,ZqV,ZqW,ZqX,ZqY,ZqZ,Zq0,Zq1,Zq2,Zq3,ZmY,Zkv,Zmb,Zmc,ZpV,ZpW,Zmd,ZiJ,Zkx,Zky,iLst,Zl7,ZbC,clr,OutS.clr,List.lookup,beqS,ZkA,$as,*])
abbrev LT:Str:="abcdefghijklmnopqrstuvwxyz"
def inL(c:Nat):Bool:=!(Builtin.Str.occurrences LT ⟨#[c]⟩ 0 LT.length 1).isEmpty
def ZeA(z:Str):Bool:=decide (1<=z.length)&&(decide (z.length<=6)&&z.cps.toList.all inL)
structure W(z:Str):Prop where
 a:Zhv z=true
 l:z.length<=7
 s:ZfW z=true
theorem ZkT{a b:Int}(h0:0<=b)(h1:b<1000000):Zbe [.t (.int a),.t (.int b)]=if b<=a then .exc "NoRoom" [.t (.int a),.t (.int b)] else .ret (.t .non) [.t (.int a),.t (.int b)]:=by
 unfold Zbe Zde
 by_cases h:b<=a
 · simp_arith[h,h0,h1]
 · simp_arith[h]
abbrev off(ss:List T):D:=.obj "Office" [("stages",.lst (ss.map .t))]
abbrev rowT(r:List Int):T:=.lst (r.map .int)
abbrev stT(ws ds:List Str)(rs:List (List Int))(sh:List Str):T:=.ins "Standing" [("ware_names",.lst (ws.map .str)),("deed_names",.lst (ds.map .str)),("rows",.lst (rs.map rowT)),("stopped",.lst (sh.map .str))]
theorem Zij{ss:List T}{x:T}:ZaL [off (ss++[x])]=.ret (.t x) [off (ss++[x])]:=by
 unfold ZaL Zdd
 have e:atI ((ss++[x]).map D.t) (-1)=some (.t x):=by rw[List.map_append];exact Zme
 simp_arith[e]
theorem ZfG{ss:List T}:Za9 [off ss]=.ret (.t (.int (ss.length - 1))) [off ss]:=by
 unfold Za9 Zce
 simp_arith []
theorem ZkU{ss:List T}{x:T}(h:ss.length<1000000):ZbM [off ss,.t x]=.ret (.t (.int ss.length)) [off (ss++[x]),.t x]:=by
 unfold ZbM ZcP
 have e:=ZfG (ss:=ss++[x])
 rw[List.length_append,List.length_singleton] at e
 have e2:ss.map D.t++[.t x]=(ss++[x]).map D.t:=by rw[List.map_append];rfl
 simp_arith[h,e2,e]
theorem ZoE:ZbZ []=.ret (.obj "Standing" [("ware_names",.t (.lst [])),("deed_names",.t (.lst [])),("rows",.t (.lst [])),("stopped",.t (.lst []))]) []:=by
 unfold ZbZ ZbY ZaR ZbH
 simp_arith []
theorem Zqd:ZcO [.obj "Office" []]=.ret (.t .non) [off [stT [] [] [] []]]:=by
 unfold ZcO ZcN
 simp_arith[ZoE]
theorem ZiR:∀(cs:List Nat) (x:Sl),(x=.e \/ ∃d,x=.v d)->Zbk (Zag 0) Zbl (eB oInS (eVar 0) (eC (.str LT))) (cs.map fun c=>.str ⟨#[c]⟩) [x]=some (cs.map fun c=>.t (.bl (inL c)))
 | [],_,_=>rfl
 | c :: cs,x,hx=>by
  have ih:=ZiR cs (.v (.t (.str ⟨#[c]⟩))) (.inr ⟨_,rfl⟩)
  have hc:inL c = !(Builtin.Str.occurrences LT ⟨#[c]⟩ 0 LT.length 1).isEmpty:=rfl
  rcases hx with rfl | ⟨d,rfl⟩<;>simp[Zbk,Zag,Zbl,Zl9,eVar,eC,Out.bnd,Zby,ZmY,ih,hc]
theorem ZkV(cs:List Nat):Zdc (cs.map fun c=>.bl (inL c))=some (cs.map inL):=by
 induction cs with
 | nil=>rfl
 | cons c cs ih=>simp[Zdc,ih]
theorem Zjr(cs:List Nat):Zdc (List.map (frz∘fun c=>D.t (T.bl (inL c))) cs)=some (cs.map inL):=by
 rw[show(frz∘fun c=>D.t (T.bl (inL c)))=fun c=>T.bl (inL c) from funext fun c=>Zby]
 exact ZkV cs
theorem Zik(cs:List Nat):Zdc (List.map frz (cs.map fun c=>D.t (T.bl (inL c))))=some (cs.map inL):=by
 rw[List.map_map]
 exact Zjr cs
theorem Zqe{z:Str}(h:W z):Zee [.t (.str z)]=.ret (.t (.bl (ZeA z))) [.t (.str z)]:=by
 unfold Zee Zed ZeA
 have hl:=h.l
 have e:=ZiR z.cps.toList .e (.inl rfl)
 have n1:z.length<=1000000:=by omega
 have n2:z.cps.size<sizeLine:=by
  have:z.cps.size=z.length:=rfl
  have:sizeLine=2 ^ 24:=rfl
  omega
 by_cases h1:1<=z.length
 · have h1':(1:Int)<=(z.length:Int):=by omega
   by_cases h2:z.length<=6
   · have h2':(z.length:Int)<=6:=by omega
     simp_arith[h.a,h1,h2,h1',h2',n1,n2,Zbh,Zkw n1,Zkn,ZaC,capE,e,oAll,Zik,List.all_map]
   · have h2':¬(z.length:Int)<=6:=by omega
     simp_arith[h.a,h1,h2,h1',h2',Zkw n1]
 · have h1':¬(1:Int)<=(z.length:Int):=by omega
   simp_arith[h.a,h1,h1',Zkw n1]
theorem Zqf{z:Str}{ns:List Str}(h:W z):ZbA [.t (.str z),.t (.lst (ns.map .str))] =
 if ZeA z=false then .exc "BadName" [.t (.str z),.t (.lst (ns.map .str))] else if z∈ns then .exc "Taken" [.t (.str z),.t (.lst (ns.map .str))] else .ret (.t .non) [.t (.str z),.t (.lst (ns.map .str))]:=by
 unfold ZbA Zb0
 have e:=Zqe h
 cases q:ZeA z with
 | false=>simp_arith[e,q,h.s]
 | true=>
  by_cases hz:z∈ns
  · simp_arith[e,q,h.s,hz]
  · simp_arith[e,q,h.s,hz]
theorem Zg1{a b c d:T}:ZaR [.obj "Standing" [],.t a,.t b,.t c,.t d]=.ret (.t .non) [.obj "Standing" [("ware_names",.t a),("deed_names",.t b),("rows",.t c),("stopped",.t d)],.t a,.t b,.t c,.t d]:=by
 unfold ZaR ZbH
 simp_arith []
abbrev stD(ws ds:List Str)(rs:List (List Int))(sh:List Str):D:=.obj "Standing" [("ware_names",.t (.lst (ws.map .str))),("deed_names",.t (.lst (ds.map .str))),("rows",.t (.lst (rs.map rowT))),("stopped",.t (.lst (sh.map .str)))]
theorem ZhQ{ws ds sh:List Str}{rs:List (List Int)}:frz (stD ws ds rs sh)=stT ws ds rs sh:=by
 rw[ZpX]
 simp only[List.map_cons,List.map_nil,Zby]
def rowD(r:List Int):D:=.lst ((r.map T.int).map D.t)
theorem ZoF{r:List Int}:frz (rowD r)=rowT r:=by
 unfold rowD
 rw[Zbz]
theorem ZiS{rs:List (List Int)}:(rs.map rowD).map frz=rs.map rowT:=by
 rw[List.map_map]
 exact List.map_congr_left fun _ _=>ZoF
theorem ZkW{rs:List (List Int)}:frz (.lst (rs.map rowD))=.lst (rs.map rowT):=by
 rw[Zkz,ZiS]
theorem Zbv{n:Nat}(h:n<=100000):n<sizeLine:=by
 have:sizeLine=2 ^ 24:=rfl
 omega
theorem ZiT:∀(rs:List (List Int)) (x:Sl),(x=.e \/ ∃d,x=.v d)->(∀r∈rs,r.length<=1000)->Zbk (Zag 0) Zbl (e2 oCat (eVar 0) (Zd1 [0])) (rs.map rowT) [x]=some ((rs.map (· ++ [0])).map rowD)
 | [],_,_,_=>rfl
 | r :: rs,x,hx,h=>by
  have ih:=ZiT rs (.v (.t (rowT r))) (.inr ⟨_,rfl⟩) fun r hr=>h r (.tail _ hr)
  have hr:=h r (.head _)
  have e:oCat (.lst (r.map .int)) (.lst [.int 0])=some (rowD (r++[0])):=by
   rw[ZhF (by simp;omega)]
   simp[rowD]
  rcases hx with rfl | ⟨q,rfl⟩<;>simp[Zbk,Zag,Zbl,e2,eVar,Zd1,Out.bnd,Zby,Zkz,e]<;>(simp only[List.map_map] at ih;exact ih)
theorem Zqg{z:Str}{ws ds sh:List Str}{rs:List (List Int)}(hw:ws.length<=1000)(hr:rs.length<=1000)(hrs:∀r∈rs,r.length<=1000):Zcg [.t (stT ws ds rs sh),.t (.str z)]=.ret (stD (ws++[z]) ds (rs.map (· ++ [0])) sh) [.t (stT ws ds rs sh),.t (.str z)]:=by
 unfold Zcg Zcf
 have e:=ZiT rs .e (.inl rfl) hrs
 have n2:rs.length<sizeLine:=Zbv (by omega)
 have e2:oCat (.lst (ws.map .str)) (.lst [.str z])=some (.lst (((ws++[z]).map T.str).map .t)):=by
  rw[ZhF (by simp;omega)]
  simp
 have e3:=ZiS (rs:=rs.map (· ++ [0]))
 simp_arith[Zbh,ZaC,capE,e,n2,e2,Zg1,e3]
abbrev dctT(kvs:List (Str×Int)):List (Str×T):=kvs.map fun p=>(p.1,T.int p.2)
def ZdK(kvs:List (Str×Int))(ws:List Str):List Int:=ws.map fun w=>(kvs.lookup w).getD 0
theorem ZgA{w:Str}:∀{kvs:List (Str×Int)},((dctT kvs).lookup w).getD (.int 0)=T.int ((kvs.lookup w).getD 0)
 | []=>rfl
 | (k,v) :: kvs=>by
  have ih:=ZgA (w:=w) (kvs:=kvs)
  by_cases h:w=k
  · subst h;simp[List.lookup_cons]
  · have h':(w == k)=false:=by simp[h]
    show(((k,T.int v) :: dctT kvs).lookup w).getD (.int 0)=_
    rw[List.lookup_cons,List.lookup_cons,h']
    exact ih
theorem Zg2{kvs:List (Str×Int)}:∀(ws:List Str) (x:Sl),(x=.e \/ ∃d,x=.v d)->Zbk (Zag 0) Zbl (Zf3 (eVar 1) (eVar 0) (eC (.int 0))) (ws.map .str) [x,.v (.t (.dct (dctT kvs)))]=some (((ZdK kvs ws).map T.int).map D.t)
 | [],_,_=>rfl
 | w :: ws,x,hx=>by
  have ih:=Zg2 (kvs:=kvs) ws (.v (.t (.str w))) (.inr ⟨_,rfl⟩)
  have l:=ZgA (w:=w) (kvs:=kvs)
  rcases hx with rfl | ⟨d,rfl⟩<;>simp[Zbk,Zag,Zbl,Zf3,eVar,eC,Out.bnd,Zby,l,-List.map_map]<;>exact⟨_,ih,rfl⟩
theorem ZcU{ns:List Int}:Zon (.lst ((ns.map T.int).map D.t))=true:=by
 show List.all _ Zjj=true
 simp[Zjj,ZhG]
theorem Zei{ns:List Str}:Zon (.lst ((ns.map T.str).map D.t))=true:=by
 show List.all _ Zjj=true
 simp[Zjj,ZhG]
theorem Zqh{z:Str}{ws ds sh:List Str}{rs:List (List Int)}{kvs:List (Str×Int)}{b:D}(hb:b=.dct (dctT kvs)\/b=.t (.dct (dctT kvs)))(hw:ws.length<=1000)(hd:ds.length<=1000)(hr:rs.length<=1000) :
 Zcj [.t (stT ws ds rs sh),.t (.str z),b]=.ret (stD ws (ds++[z]) (rs++[ZdK kvs ws]) sh) [.t (stT ws ds rs sh),.t (.str z),b]:=by
 unfold Zcj Zci
 have e:=Zg2 (kvs:=kvs) ws .e (.inl rfl)
 have n2:ws.length<sizeLine:=Zbv (by omega)
 have e2:oCat (.lst (ds.map .str)) (.lst [.str z])=some (.lst (((ds++[z]).map T.str).map .t)):=by
  rw[ZhF (by simp;omega)]
  simp
 have e3:oCat (.lst (rs.map rowT)) (.lst [.lst ((ZdK kvs ws).map .int)])=some (.lst (((rs++[ZdK kvs ws]).map rowT).map .t)):=by
  rw[ZhF (by simp;omega)]
  simp
 have e4:=ZcU (ns:=ZdK kvs ws)
 rcases hb with rfl | rfl<;>simp_arith[ZcB,seen,Zbh,ZaC,capE,e,n2,e2,e3,e4,Zg1]
def okX(x:Sl):Prop:=x=.e \/ ∃d,x=.v d
section
variable{ws ds sh:List Str}{rs:List (List Int)}
theorem Zg3{bd:SS}{c:Str}{g:Str->Prop}[DecidablePred g]{a b:Sl}:∀(zs:List Str) (x:Sl),okX x->(∀z∈zs,bd [a,b,.v (.t (.str z))]=if g z then .next [a,b,.v (.t (.str z))] else .exc c [a,b,.v (.t (.str z))]) ->
 ∃x',okX x'/\forS (Zag 2) bd (zs.map .str) [a,b,x]=if ∀z∈zs,g z then .next [a,b,x'] else .exc c [a,b,x']
 | [],x,hx,_=>⟨x,hx,by simp[forS]⟩
 | z :: zs,x,hx,h=>by
  have k1:Zag 2 (.t (.str z)) [a,b,x]=some [a,b,.v (.t (.str z))]:=by rcases hx with rfl | ⟨d,rfl⟩<;>rfl
  have b1:=h z (.head _)
  by_cases hg:g z
  · obtain⟨x',hx',ih⟩:=Zg3 (bd:=bd) (c:=c) (g:=g) (a:=a) (b:=b) zs (.v (.t (.str z))) (.inr ⟨_,rfl⟩) fun z hz=>h z (.tail _ hz)
    refine⟨x',hx',?_⟩
    rw[if_pos hg] at b1
    rw[List.map_cons,forS,k1]
    dsimp only
    rw[b1]
    dsimp only
    rw[ih]
    simp[hg]
  · refine⟨.v (.t (.str z)),.inr ⟨_,rfl⟩,?_⟩
    rw[if_neg hg] at b1
    rw[List.map_cons,forS,k1]
    dsimp only
    rw[b1]
    simp[hg]
theorem Zm1{zs:List Str}(hz:∀z∈zs,W z):ZbO [.t (stT ws ds rs sh),.t (.lst (zs.map .str))]=if ∀z∈zs,z∈ws then .ret (.t .non) [.t (stT ws ds rs sh),.t (.lst (zs.map .str))] else .exc "NoWare" [.t (stT ws ds rs sh),.t (.lst (zs.map .str))]:=by
 unfold ZbO ZcQ
 obtain⟨x',hx',e⟩:=Zg3 (bd:=sIf (sT (eB Zda (eVar 2) (e1 (oFld "Standing" "ware_names") (eVar 0)))) (Zcq "NoWare" (uSeq uC (uSeq (ZfZ (eVar 2)) uC))) ZaS) (c:="NoWare") (g:=fun z=>z∈ws) (a:=.v (.t (stT ws ds rs sh))) (b:=.v (.t (.lst (zs.map .str)))) zs .e (.inl rfl) (fun z hz'=>by
  by_cases hg:z∈ws
  · simp_arith[hg]
  · simp_arith[hg,(hz z hz').s])
 by_cases h:∀z∈zs,z∈ws
 · rw[if_pos h] at e ⊢
   simp_arith[e]
 · rw[if_neg h] at e ⊢
   simp_arith[e]
theorem ZkX{zs:List Str}(hz:∀z∈zs,W z):ZbQ [.t (stT ws ds rs sh),.t (.lst (zs.map .str))]=if ∀z∈zs,z∈ds then .ret (.t .non) [.t (stT ws ds rs sh),.t (.lst (zs.map .str))] else .exc "NoDeed" [.t (stT ws ds rs sh),.t (.lst (zs.map .str))]:=by
 unfold ZbQ ZcR
 obtain⟨x',hx',e⟩:=Zg3 (bd:=sIf (sT (eB Zda (eVar 2) (e1 (oFld "Standing" "deed_names") (eVar 0)))) (Zcq "NoDeed" (uSeq uC (uSeq (ZfZ (eVar 2)) uC))) ZaS) (c:="NoDeed") (g:=fun z=>z∈ds) (a:=.v (.t (stT ws ds rs sh))) (b:=.v (.t (.lst (zs.map .str)))) zs .e (.inl rfl) (fun z hz'=>by
  by_cases hg:z∈ds
  · simp_arith[hg]
  · simp_arith[hg,(hz z hz').s])
 by_cases h:∀z∈zs,z∈ds
 · rw[if_pos h] at e ⊢
   simp_arith[e]
 · rw[if_neg h] at e ⊢
   simp_arith[e]
theorem ZkY{zs:List Str}(hz:∀z∈zs,W z):Zcv [.t (stT ws ds rs sh),.t (.lst (zs.map .str))]=if ∀z∈zs,¬z∈sh then .ret (.t .non) [.t (stT ws ds rs sh),.t (.lst (zs.map .str))] else .exc "Forbidden" [.t (stT ws ds rs sh),.t (.lst (zs.map .str))]:=by
 unfold Zcv ZdF
 obtain⟨x',hx',e⟩:=Zg3 (bd:=sIf (sT (eB oIn (eVar 2) (e1 (oFld "Standing" "stopped") (eVar 0)))) (Zcq "Forbidden" (uSeq uC (uSeq (ZfZ (eVar 2)) (uSeq uC uC)))) ZaS) (c:="Forbidden") (g:=fun z=>¬z∈sh) (a:=.v (.t (stT ws ds rs sh))) (b:=.v (.t (.lst (zs.map .str)))) zs .e (.inl rfl) (fun z hz'=>by
  by_cases hg:z∈sh
  · simp_arith[hg,(hz z hz').s]
  · simp_arith[hg])
 by_cases h:∀z∈zs,¬z∈sh
 · rw[if_pos h] at e ⊢
   simp_arith[e]
 · rw[if_neg h] at e ⊢
   simp_arith[e]
end
def big(v:Int):Bool:=decide (9<(if v<0 then -v else v))
theorem Zm2{v:Int}:oAbs (.int v)=some (.t (.int (if v<0 then -v else v))):=rfl
abbrev numB:SS:=sIf (sT (eB oGt (e1 oAbs (eVar 1)) (eC (.int 9)))) (Zcq "BadNumber" (uSeq uC (uSeq (Zf1 (eC (.int 9))) (uSeq uC (uSeq (Zf1 (eC (.int 9))) uC))))) ZaS
theorem ZkZ{a:Sl}:∀(vs:List Int) (x:Sl),okX x -> ∃x',okX x'/\forS (Zag 1) numB (vs.map .int) [a,x]=if ∀v∈vs,big v=false then .next [a,x'] else .exc "BadNumber" [a,x']
 | [],x,hx=>⟨x,hx,by simp[forS]⟩
 | v :: vs,x,hx=>by
  have k1:Zag 1 (.t (.int v)) [a,x]=some [a,.v (.t (.int v))]:=by rcases hx with rfl | ⟨d,rfl⟩<;>rfl
  have b1:numB [a,.v (.t (.int v))]=if big v=false then .next [a,.v (.t (.int v))] else .exc "BadNumber" [a,.v (.t (.int v))]:=by
   have hb:big v=decide (9<(if v<0 then -v else v)):=rfl
   unfold numB
   cases q:big v with
   | true=>rw[q] at hb;simp_arith[Zm2,<- hb]
   | false=>rw[q] at hb;simp_arith[Zm2,<- hb]
  by_cases hg:big v=false
  · obtain⟨x',hx',ih⟩:=ZkZ (a:=a) vs (.v (.t (.int v))) (.inr ⟨_,rfl⟩)
    refine⟨x',hx',?_⟩
    rw[if_pos hg] at b1
    rw[List.map_cons,forS,k1]
    dsimp only
    rw[b1]
    dsimp only
    rw[ih]
    simp[hg]
  · refine⟨.v (.t (.int v)),.inr ⟨_,rfl⟩,?_⟩
    rw[if_neg hg] at b1
    rw[List.map_cons,forS,k1]
    dsimp only
    rw[b1]
    simp[hg]
theorem Zqi{vs:List Int}:ZbI [.t (.lst (vs.map .int))]=if ∀v∈vs,big v=false then .ret (.t .non) [.t (.lst (vs.map .int))] else .exc "BadNumber" [.t (.lst (vs.map .int))]:=by
 unfold ZbI Zch
 obtain⟨x',hx',e⟩:=ZkZ (a:=.v (.t (.lst (vs.map .int)))) vs .e (.inl rfl)
 by_cases h:∀v∈vs,big v=false
 · rw[if_pos h] at e ⊢
   simp_arith[e]
 · rw[if_neg h] at e ⊢
   simp_arith[e]
theorem ZaQ{f g:SS}{σ σ1:Env'}(h:f σ=.next σ1):sSeq f g σ=g σ1:=by
 unfold sSeq
 rw[h]
def ixOf(zs:List Str)(x:Str):Nat:=((zs.map T.str).findIdx? fun z=>eqT z (.str x)).getD 0
theorem ZoG{zs:List Str}{x:Str}(h:x∈zs):((zs.map T.str).findIdx? fun z=>eqT z (.str x))=some (ixOf zs x)/\ixOf zs x<zs.length:=by
 unfold ixOf
 cases q:(zs.map T.str).findIdx? fun z=>eqT z (.str x) with
 | none=>
  rw[List.findIdx?_eq_none_iff] at q
  have:=q (.str x) (List.mem_map.mpr ⟨x,h,rfl⟩)
  simp[eqT] at this
 | some k=>
  obtain⟨h1,_⟩:=List.findIdx?_eq_some_iff_getElem.mp q
  exact⟨rfl,by simpa using h1⟩
theorem ZoH{zs:List Str}(hn:zs.Nodup){k:Nat}(hk:k<zs.length):ixOf zs zs[k]=k:=by
 obtain⟨e,hl⟩:=ZoG (List.getElem_mem hk)
 obtain⟨h1,h2,_⟩:=List.findIdx?_eq_some_iff_getElem.mp e
 have h3:zs[ixOf zs zs[k]]=zs[k]:=by
  simp only[List.getElem_map,eqT] at h2
  simpa using h2
 have hp:=List.pairwise_iff_getElem.mp hn
 rcases Nat.lt_trichotomy (ixOf zs zs[k]) k with z | z | z
 · exact absurd h3 (hp _ _ hl hk z)
 · exact z
 · exact absurd h3.symm (hp _ _ hk hl z)
theorem Zqj{zs:List Str}{x:Str}(h:x∈zs):Zkp (.lst (zs.map .str)) (.str x)=some (.t (.int (ixOf zs x))):=by
 show(if (ZdR (.str x)&&(zs.map T.str).all ZdR)=true then _ else _)=_
 rw[ZhE,(ZoG h).1]
 rfl
section
variable{ws ds sh:List Str}{rs:List (List Int)}
end
structure Ok(ws ds:List Str)(rs:List (List Int))(sh:List Str):Prop where
 lr:rs.length=ds.length
 lw:∀r∈rs,r.length=ws.length
 nw:ws.Nodup
 nd:ds.Nodup
 w6:ws.length<=6
 d10:ds.length<=10
 sub:∀z∈sh,z∈ds
def Zil(zs ws:List Str):Bool:=zs.all fun z=>decide (z∈ws)
def ZdL(vs:List Int):Bool:=vs.all fun v=>!big v
def dueW(z:Str)(ws:List Str)(n:Nat):Option Str:=if ZeA z=false then some "BadName" else if z∈ws then some "Taken" else if 6<=ws.length then some "NoRoom" else if 200<=n then some "NoRoom" else none
def dueD(z:Str)(kvs:List (Str×Int))(ws ds:List Str)(n:Nat):Option Str:=if ZeA z=false then some "BadName" else if z∈ds then some "Taken" else if Zil (kvs.map Prod.fst) ws=false then some "NoWare" else if ZdL (kvs.map Prod.snd)=false then some "BadNumber" else if 10<=ds.length then some "NoRoom" else if 200<=n then some "NoRoom" else none
section
variable{ws ds sh:List Str}{rs:List (List Int)}{ss:List T}
theorem Zk0{n:Nat}:Zbe [.t (.int n),.t (.int 200)]=if 200<=n then .exc "NoRoom" [.t (.int n),.t (.int 200)] else .ret (.t .non) [.t (.int n),.t (.int 200)]:=by
 have e:=ZkT (a:=(n:Int)) (b:=200) (by decide) (by decide)
 rw[e]
 by_cases h:200<=n
 · rw[if_pos h,if_pos (by omega)]
 · rw[if_neg h,if_neg (by omega)]
theorem Zm3{z:Str}(h:W z)(O:Ok ws ds rs sh)(hs:ss.length<=1000):ZaV [off (ss++[stT ws ds rs sh]),.t (.str z)] =
 match dueW z ws ss.length with
 | some c=>.exc c [off (ss++[stT ws ds rs sh]),.t (.str z)]
 | none=>.ret (.t (.int (ss.length+1))) [off (ss++[stT ws ds rs sh]++[stT (ws++[z]) ds (rs.map (· ++ [0])) sh]),.t (.str z)]:=by
 unfold ZaV ZbN
 have h6:=O.w6
 have h10:=O.d10
 have hlr:=O.lr
 have e1:=Zij (ss:=ss) (x:=stT ws ds rs sh)
 have e2:=Zqf (ns:=ws) h
 have e3:=ZkT (a:=(ws.length:Int)) (b:=6) (by decide) (by decide)
 have e4:=ZfG (ss:=ss++[stT ws ds rs sh])
 have e5:=Zk0 (n:=ss.length)
 have e6:=Zqg (z:=z) (ws:=ws) (ds:=ds) (rs:=rs) (sh:=sh) (by omega) (by omega) (fun r hr=>by rw[O.lw r hr];omega)
 have e7:=ZkU (ss:=ss++[stT ws ds rs sh]) (x:=stT (ws++[z]) ds (rs.map (· ++ [0])) sh) (by simp;omega)
 have f6:=ZhQ (ws:=ws++[z]) (ds:=ds) (rs:=rs.map (· ++ [0])) (sh:=sh)
 rw[List.length_append,List.length_singleton] at e4 e7
 unfold dueW
 cases q:ZeA z with
 | false=>simp_arith[e1,e2,q]
 | true=>
  by_cases hz:z∈ws
  · simp_arith[e1,e2,q,hz]
  · by_cases hl:6<=ws.length
    · have hl':(6:Int)<=(ws.length:Int):=by omega
      simp_arith[e1,e2,e3,q,hz,hl,hl']
    · have hl':¬(6:Int)<=(ws.length:Int):=by omega
      by_cases hn:200<=ss.length
      · simp_arith[e1,e2,e3,e4,e5,q,hz,hl,hl',hn]
      · simp_arith[e1,e2,e3,e4,e5,e6,e7,f6,q,hz,hl,hl',hn]
theorem Zqk{zs:List Str}(hz:∀z∈zs,W z):ZbO [.t (stT ws ds rs sh),.t (.lst (zs.map .str))]=if Zil zs ws=true then .ret (.t .non) [.t (stT ws ds rs sh),.t (.lst (zs.map .str))] else .exc "NoWare" [.t (stT ws ds rs sh),.t (.lst (zs.map .str))]:=by
 rw[Zm1 hz]
 have:(∀z∈zs,z∈ws) ↔ Zil zs ws=true:=by unfold Zil;simp
 by_cases h:∀z∈zs,z∈ws
 · rw[if_pos h,if_pos (this.mp h)]
 · rw[if_neg h,if_neg fun q=>h (this.mpr q)]
theorem Zql{vs:List Int}:ZbI [.t (.lst (vs.map .int))]=if ZdL vs=true then .ret (.t .non) [.t (.lst (vs.map .int))] else .exc "BadNumber" [.t (.lst (vs.map .int))]:=by
 rw[Zqi]
 have:(∀v∈vs,big v=false) ↔ ZdL vs=true:=by unfold ZdL;simp
 by_cases h:∀v∈vs,big v=false
 · rw[if_pos h,if_pos (this.mp h)]
 · rw[if_neg h,if_neg fun q=>h (this.mpr q)]
theorem Zqm{kvs:List (Str×Int)}:(dctT kvs).map (fun p=>D.t (.str p.1))=((kvs.map Prod.fst).map T.str).map D.t:=by simp
theorem Zqn{kvs:List (Str×Int)}:(dctT kvs).map (fun p=>D.t p.2)=((kvs.map Prod.snd).map T.int).map D.t:=by simp
theorem ZfH{kvs:List (Str×Int)}:ZdO (.dct (dctT kvs))=some (.lst (((kvs.map Prod.fst).map T.str).map D.t)):=by rw[ZiJ,Zqm]
theorem Zg4{kvs:List (Str×Int)}:Zfp (.dct (dctT kvs))=some (.lst (((kvs.map Prod.snd).map T.int).map D.t)):=by rw[Zkx,Zqn]
theorem Zqo{z:Str}{kvs:List (Str×Int)}{b:D}(hb:b=.dct (dctT kvs)\/b=.t (.dct (dctT kvs)))(h:W z)(hk:∀k∈kvs.map Prod.fst,W k)(O:Ok ws ds rs sh)(hs:ss.length<=1000):Zbm [off (ss++[stT ws ds rs sh]),.t (.str z),b] =
 match dueD z kvs ws ds ss.length with
 | some c=>.exc c [off (ss++[stT ws ds rs sh]),.t (.str z),b]
 | none=>.ret (.t (.int (ss.length+1))) [off (ss++[stT ws ds rs sh]++[stT ws (ds++[z]) (rs++[ZdK kvs ws]) sh]),.t (.str z),b]:=by
 unfold Zbm ZbP
 have h6:=O.w6
 have h10:=O.d10
 have hlr:=O.lr
 have e1:=Zij (ss:=ss) (x:=stT ws ds rs sh)
 have e2:=Zqf (ns:=ds) h
 have e3:=ZkT (a:=(ds.length:Int)) (b:=10) (by decide) (by decide)
 have e4:=ZfG (ss:=ss++[stT ws ds rs sh])
 have e5:=Zk0 (n:=ss.length)
 have e6:=Zqh (z:=z) (ws:=ws) (ds:=ds) (rs:=rs) (sh:=sh) (kvs:=kvs) hb (by omega) (by omega) (by omega)
 have e7:=ZkU (ss:=ss++[stT ws ds rs sh]) (x:=stT ws (ds++[z]) (rs++[ZdK kvs ws]) sh) (by simp;omega)
 have f6:=ZhQ (ws:=ws) (ds:=ds++[z]) (rs:=rs++[ZdK kvs ws]) (sh:=sh)
 have e8:=Zqk (ws:=ws) (ds:=ds) (rs:=rs) (sh:=sh) hk
 have e9:=Zql (vs:=kvs.map Prod.snd)
 have g1:=ZfH (kvs:=kvs)
 have g2:=Zg4 (kvs:=kvs)
 have g3:=Zei (ns:=kvs.map Prod.fst)
 have g4:=ZcU (ns:=kvs.map Prod.snd)
 rw[List.length_append,List.length_singleton] at e4 e7
 unfold dueD
 cases q:ZeA z with
 | false=>rcases hb with rfl | rfl<;>simp_arith[e1,e2,q]
 | true=>
  by_cases hz:z∈ds
  · rcases hb with rfl | rfl<;>simp_arith[e1,e2,q,hz]
  · cases hA:Zil (kvs.map Prod.fst) ws with
    | false=>rcases hb with rfl | rfl<;>simp_arith[e1,e2,q,hz,ZcB,seen,g1,g3,e8,hA]
    | true=>
     cases hB:ZdL (kvs.map Prod.snd) with
     | false=>rcases hb with rfl | rfl<;>simp_arith[e1,e2,q,hz,ZcB,seen,g1,g2,g3,g4,e8,e9,hA,hB]
     | true=>
      by_cases hl:10<=ds.length
      · have hl':(10:Int)<=(ds.length:Int):=by omega
        rcases hb with rfl | rfl<;>simp_arith[e1,e2,e3,q,hz,ZcB,seen,g1,g2,g3,g4,e8,e9,hA,hB,hl,hl']
      · have hl':¬(10:Int)<=(ds.length:Int):=by omega
        by_cases hn:200<=ss.length
        · rcases hb with rfl | rfl<;>simp_arith[e1,e2,e3,e4,e5,q,hz,ZcB,seen,g1,g2,g3,g4,e8,e9,hA,hB,hl,hl',hn]
        · rcases hb with rfl | rfl<;>simp_arith[e1,e2,e3,e4,e5,e6,e7,f6,q,hz,ZcB,seen,g1,g2,g3,g4,e8,e9,hA,hB,hl,hl',hn]
end
theorem ZhR{s:T}{sh:List Str}(hs:∃fs,s=.ins "Standing" fs/\fs.lookup ("stopped":Str)=some (T.lst (sh.map .str))):∀(ds:List Str) (x:Sl),okX x->Zbk (Zag 0) (sT (eB oIn (eVar 0) (e1 (oFld "Standing" "stopped") (eVar 1)))) (eVar 0) (ds.map .str) [x,.v (.t s)]=some (((ds.filter fun d=>decide (d∈sh)).map T.str).map D.t)
 | [],_,_=>rfl
 | d :: ds,x,hx=>by
  have ih:=ZhR hs ds (.v (.t (.str d))) (.inr ⟨_,rfl⟩)
  obtain⟨fs,rfl,hf⟩:=hs
  by_cases hd:d∈sh
  · rcases hx with rfl | ⟨q,rfl⟩<;>simp[Zbk,Zag,sT,Zl9,e1,eVar,Out.bnd,Zby,Zky,hf,Zmb,ZfB,hd,-List.map_map]<;>rw[ih]
  · rcases hx with rfl | ⟨q,rfl⟩<;>simp[Zbk,Zag,sT,Zl9,e1,eVar,Out.bnd,Zby,Zky,hf,Zmb,ZfB,hd,-List.map_map]<;>exact ih
section
variable{ss:List T}{ws ds sh:List Str}{rs:List (List Int)}
abbrev Zjs(ds sh:List Str):List Str:=ds.filter fun d=>decide (d∈sh)
theorem Zqp(hd:ds.length<=1000):ZaZ [off (ss++[stT ws ds rs sh])]=.ret (.lst (((Zjs ds sh).map T.str).map D.t)) [off (ss++[stT ws ds rs sh])]:=by
 unfold ZaZ ZbF Zcw ZbR
 have e1:=Zij (ss:=ss) (x:=stT ws ds rs sh)
 have e:=ZhR (s:=stT ws ds rs sh) (sh:=sh) ⟨_,rfl,rfl⟩ ds .e (.inl rfl)
 have n2:ds.length<sizeLine:=Zbv (by omega)
 simp_arith[e1,Zbh,ZaC,capE,e,n2]
end
abbrev Zrf(ds sh:List Str):List T:=ds.map fun d=>.bl (decide (d∈sh))
theorem ZgB(n:Nat):rngT 0 n=(List.range n).map fun (i:Nat)=>T.int (i:Int):=by
 unfold rngT
 exact List.map_congr_left fun i _=>by simp
def Sg(zs:List Str):Prop:=∀z∈zs,∃c,inL c=true/\c<128/\z=⟨#[c]⟩
theorem Zk1{p:Nat->Bool}:∀(ps:List Str) (acc:Array Nat),(∀z∈ps,∃c,p c=true/\z=⟨#[c]⟩)->acc.all p=true->(ps.foldl (fun acc p=>acc++(Str.ofString "").cps++p.cps) acc).all p=true/\(ps.foldl (fun acc p=>acc++(Str.ofString "").cps++p.cps) acc).size=acc.size+ps.length
 | [],acc,_,h=>⟨h,rfl⟩
 | q :: ps,acc,hp,h=>by
  obtain⟨c,hc,rfl⟩:=hp q (.head _)
  have e:(Str.ofString "").cps=#[]:=rfl
  have:=Zk1 (p:=p) ps (acc++(Str.ofString "").cps++#[c]) (fun z hz=>hp z (.tail _ hz)) (by rw[e];simp at h ⊢;exact⟨h,hc⟩)
  refine⟨this.1,?_⟩
  rw[List.foldl_cons,this.2,e]
  simp
  omega
theorem ZiU{p:Nat->Bool}(zs:List Str)(h:∀z∈zs,∃c,p c=true/\z=⟨#[c]⟩)(h0:zs≠[]):(Txt.join "" zs).cps.all p=true/\(Txt.join "" zs).length=zs.length:=by
 cases zs with
 | nil=>exact absurd rfl h0
 | cons z zs=>
  obtain⟨c,hc,rfl⟩:=h _ (.head _)
  obtain⟨a,b⟩:=Zk1 (p:=p) zs #[c] (fun z hz=>h z (.tail _ hz)) (by simp[hc])
  refine⟨a,?_⟩
  refine Eq.trans (show(Txt.join "" (({ cps:=#[c] }:Str) :: zs)).length=_ from b) ?_
  simp
  omega
theorem ZiV{z:Str}(h:Zhv z=true)(hl:z.length<=7):W z:=⟨h,hl,by
 unfold ZfW
 rw[Bool.and_eq_true]
 refine⟨by simp;omega,?_⟩
 rw[List.all_eq_true]
 intro c hc
 have:c<128:=by
  have h':=h
  unfold Zhv at h'
  rw[<- Array.all_toList,List.all_eq_true] at h'
  simpa using h' c hc
 simp
 omega⟩
theorem Zk2{z:Str}(h1:1<=z.length)(h6:z.length<=6)(ha:z.cps.all inL=true):ZeA z=true:=by
 unfold ZeA
 rw[<- Array.all_toList] at ha
 simp only[Bool.and_eq_true,decide_eq_true_eq]
 exact⟨h1,h6,ha⟩
theorem Zk3(zs:List Str)(h:Sg zs)(h1:1<=zs.length)(h6:zs.length<=6):W (Txt.join "" zs)/\ZeA (Txt.join "" zs)=true:=by
 have h0:zs≠[]:=fun e=>by rw[e] at h1;simp at h1
 obtain⟨a,l⟩:=ZiU (p:=inL) zs (fun z hz=>let ⟨c,q,_,e⟩:=h z hz;⟨c,q,e⟩) h0
 obtain⟨a2,_⟩:=ZiU (p:=fun c=>decide (c<128)) zs (fun z hz=>let ⟨c,_,q,e⟩:=h z hz;⟨c,by simp[q],e⟩) h0
 exact⟨ZiV a2 (by omega),Zk2 (by omega) (by omega) a⟩
theorem e26:(Str.ofString "abcdefghijklmnopqrstuvwxyz").length=26:=by decide +kernel
theorem Zk4:∀c∈(Str.ofString "abcdefghijklmnopqrstuvwxyz").cps.toList,inL c=true/\c<128:=by decide +kernel
theorem Zml{c:Nat}(hc:inL c=true)(hs:c<128){n:Int}(h1:1<=n)(h6:n<=6):W (Txt.mul ⟨#[c]⟩ n)/\ZeA (Txt.mul ⟨#[c]⟩ n)=true:=by
 have:n=1\/n=2\/n=3\/n=4\/n=5\/n=6:=by omega
 have key:∀zs:Array Nat,zs.all inL=true->zs.all (· < 128)=true->1<=zs.size->zs.size<=6->W ⟨zs⟩/\ZeA ⟨zs⟩=true:=fun zs a b l1 l6=>⟨ZiV b (show zs.size<=7 by omega),Zk2 l1 l6 a⟩
 rcases this with rfl | rfl | rfl | rfl | rfl | rfl
 · exact key #[c] (by simp[hc]) (by simp[hs]) (by simp) (by simp)
 · exact key #[c,c] (by simp[hc]) (by simp[hs]) (by simp) (by simp)
 · exact key #[c,c,c] (by simp[hc]) (by simp[hs]) (by simp) (by simp)
 · exact key #[c,c,c,c] (by simp[hc]) (by simp[hs]) (by simp) (by simp)
 · exact key #[c,c,c,c,c] (by simp[hc]) (by simp[hs]) (by simp) (by simp)
 · exact key #[c,c,c,c,c,c] (by simp[hc]) (by simp[hs]) (by simp) (by simp)
theorem ZoI(sg:List Str):Zid (sg.map .str)=some sg:=by
 induction sg with
 | nil=>rfl
 | cons z zs ih=>simp[Zid,ih]
abbrev nE(i k:Int)(s p:Sl)(sg:List Str)(r:Int)(x:Sl):Env':=[.v (.t (.int i)),.v (.t (.int k)),.v (.t (.str LT)),s,p,.v (.lst ((sg.map .str).map .t)),.v (.t (.int r)),x]
abbrev nB:SS:=(sSeq (sApp 5 (e2 oIxS (eVar 2) (e2 oMod (eVar 6) (eC (.int 26)))))
 (sAsg (e2 oDiv (eVar 6) (eC (.int 26))) (Zag 6)))
def ltr(i:Int):Nat:=(Str.ofString "abcdefghijklmnopqrstuvwxyz").cps.toList.getD i.toNat 0
theorem ZoJ:∀a b:Fin 26,(Str.ofString "abcdefghijklmnopqrstuvwxyz").cps.toList.getD a 0=(Str.ofString "abcdefghijklmnopqrstuvwxyz").cps.toList.getD b 0->a=b:=by decide +kernel
theorem Zk5{a b:Int}(a0:0<=a)(a1:a<26)(b0:0<=b)(b1:b<26)(h:ltr a=ltr b):a=b:=by
 have:=ZoJ ⟨a.toNat,by omega⟩ ⟨b.toNat,by omega⟩ h
 have:=congrArg Fin.val this
 simp only at this
 omega
theorem ZoK{i:Int}(h0:0<=i)(h1:i<26):inL (ltr i)=true/\ltr i<128/\oIxS (.str LT) (.int i)=some (.t (.str ⟨#[ltr i]⟩)):=by
 have gen:∀(L:Str) (k:Nat),L.length<=1000000->k<L.cps.size->oIxS (.str L) (.int (k:Nat))=some (.t (.str ⟨#[L.cps.toList.getD k 0]⟩)):=fun L k hn hk=>by
  have e:oIxS (.str L) (.int (k:Nat))=(atI L.cps.toList ((k:Nat):Int)).map fun c=>.t (.str ⟨#[c]⟩):=by
   show(if _ then _ else _)=_
   rw[if_pos hn]
  rw[DL.atI_nat] at e
  rw[e]
  simp[hk]
 have hs:i.toNat<(Str.ofString "abcdefghijklmnopqrstuvwxyz").cps.size:=by
  have h:(Str.ofString "abcdefghijklmnopqrstuvwxyz").cps.size=26:=e26
  omega
 have g:=gen (Str.ofString "abcdefghijklmnopqrstuvwxyz") i.toNat (by rw[e26];decide) hs
 rw[show((i.toNat:Nat):Int)=i by omega] at g
 have m:ltr i∈(Str.ofString "abcdefghijklmnopqrstuvwxyz").cps.toList:=by
  unfold ltr
  rw[List.getD_eq_getElem?_getD,List.getElem?_eq_getElem (by simpa using hs)]
  exact List.getElem_mem _
 exact⟨(Zk4 _ m).1,(Zk4 _ m).2,g⟩
theorem Zk6:∀(ps:List Str) (acc:Array Nat),Sg ps->(ps.foldl (fun acc p=>acc++(Str.ofString "").cps++p.cps) acc).toList=acc.toList++ps.map fun z=>z.cps.toList.getD 0 0
 | [],acc,_=>by simp
 | q :: ps,acc,hp=>by
  obtain⟨c,_,_,rfl⟩:=hp q (.head _)
  have e:(Str.ofString "").cps=#[]:=rfl
  rw[List.foldl_cons,Zk6 ps _ fun z hz=>hp z (.tail _ hz),e]
  simp
theorem Zk7(zs:List Str)(h:Sg zs)(h0:zs≠[]):(Txt.join "" zs).cps.toList=zs.map fun z=>z.cps.toList.getD 0 0:=by
 cases zs with
 | nil=>exact absurd rfl h0
 | cons z zs=>
  obtain⟨c,_,_,rfl⟩:=h _ (.head _)
  have:=Zk6 zs #[c] fun z hz=>h z (.tail _ hz)
  exact this
theorem Zk8{c:Nat}{n:Int}(h1:1<=n)(h6:n<=6):(Txt.mul ⟨#[c]⟩ n).cps.toList=List.replicate n.toNat c:=by
 have:n=1\/n=2\/n=3\/n=4\/n=5\/n=6:=by omega
 rcases this with rfl | rfl | rfl | rfl | rfl | rfl<;>rfl
theorem ZgC{i:Int}{s p:Sl}:∀(ts:List T) (r:Int) (sg:List Str) (x:Sl),okX x->Sg sg->sg.length+ts.length<=1000 -> ∃r' sg' x',(∀k,forS (Zag 7) nB ts (nE i k s p sg r x)=.next (nE i k s p sg' r' x'))/\Sg sg'/\sg'.length=sg.length+ts.length
 | [],r,sg,x,_,h,_=>⟨r,sg,x,fun _=>rfl,h,rfl⟩
 | t :: ts,r,sg,x,hx,h,hn=>by
  obtain⟨hc,hc2,ec⟩:=ZoK (i:=r % 26) (Int.emod_nonneg _ (by decide)) (Int.emod_lt_of_pos _ (by decide))
  have o1:oMod (.int r) (.int 26)=some (.t (.int (r % 26))):=ZbS (by decide)
  have o2:oDiv (.int r) (.int 26)=some (.t (.int (r / 26))):=Zem (by decide) (by decide)
  generalize ltr (r % 26)=c at hc hc2 ec
  simp only[List.length_cons] at hn
  obtain⟨r',sg',x',f1,h1,h2⟩:=ZgC (i:=i) (s:=s) (p:=p) ts (r / 26) (sg++[⟨#[c]⟩]) (.v (.t t)) (.inr ⟨_,rfl⟩) (fun z hz=>by
   rcases List.mem_append.mp hz with q | q
   · exact h z q
   · exact⟨c,hc,hc2,List.mem_singleton.mp q⟩) (by simp;omega)
  refine⟨r',sg',x',fun k=>?_,h1,by rw[h2];simp;omega⟩
  have k1:Zag 7 (.t t) (nE i k s p sg r x)=some (nE i k s p sg r (.v (.t t))):=by rcases hx with rfl | ⟨d,rfl⟩<;>rfl
  have b1:nB (nE i k s p sg r (.v (.t t)))=.next (nE i k s p (sg++[⟨#[c]⟩]) (r / 26) (.v (.t t))):=by
   have n1:sg.length<1000000:=by omega
   have a1:((sg.map T.str).map D.t)++[D.t (.str ⟨#[c]⟩)]=((sg++[(⟨#[c]⟩:Str)]).map T.str).map D.t:=by simp
   unfold nB nE
   simp_arith[o1,o2,ec,n1,a1]
  rw[forS,k1]
  dsimp only
  rw[b1]
  exact f1 k
structure Nm(i:Int)(nm:Int->Str):Prop where
 w:∀k,W (nm k)
 g:∀k,ZeA (nm k)=true
 e:∀k,ZaI [.t (.int i),.t (.int k)]=.ret (.t (.str (nm k))) [.t (.int i),.t (.int k)]
 inj:∀a b,0<=a->a<26->0<=b->b<26->nm a=nm b->a=b
theorem names(i:Int):∃nm,Nm i nm:=by
 have a1:oMod (.int i) (.int 3)=some (.t (.int (i % 3))):=ZbS (by decide)
 have a2:oDiv (.int i) (.int 3)=some (.t (.int (i / 3))):=Zem (by decide) (by decide)
 by_cases h3:i % 3=0
 · have m0:∀k:Int,0<=k % 6:=fun k=>Int.emod_nonneg k (by decide)
   have m1:∀k:Int,k % 6<6:=fun k=>Int.emod_lt_of_pos k (by decide)
   have q0:∀x:Int,0<=x % 26:=fun k=>Int.emod_nonneg k (by decide)
   have q1:∀x:Int,x % 26<26:=fun k=>Int.emod_lt_of_pos k (by decide)
   have pk:=fun k:Int=>ZoK (q0 (i / 3+k / 6)) (q1 (i / 3+k / 6))
   have mg:=fun k:Int=>Zml (pk k).1 (pk k).2.1 (n:=1+k % 6) (by have:=m0 k;omega) (by have:=m1 k;omega)
   refine⟨fun k=>Txt.mul ⟨#[ltr ((i / 3+k / 6) % 26)]⟩ (1+k % 6),fun k=>(mg k).1,fun k=>(mg k).2,fun k=>?_,fun a b a0 a26 b0 b26 h=>?_⟩
   · have a3:oDiv (.int k) (.int 6)=some (.t (.int (k / 6))):=Zem (by decide) (by decide)
     have a4:oMod (.int (i / 3+k / 6)) (.int 26)=some (.t (.int ((i / 3+k / 6) % 26))):=ZbS (by decide)
     have a5:oMod (.int k) (.int 6)=some (.t (.int (k % 6))):=ZbS (by decide)
     have ec:=(pk k).2.2
     have:=m0 k
     have:=m1 k
     have a6:ZkB (.str ⟨#[ltr ((i / 3+k / 6) % 26)]⟩) (.int (1+k % 6))=some (.t (.str (Txt.mul ⟨#[ltr ((i / 3+k / 6) % 26)]⟩ (1+k % 6)))):=Zor (by omega) (by omega) (show 1<=1000 by decide)
     unfold ZaI Zdr
     simp_arith[a1,a2,a3,a4,a5,a6,ec,h3]
   · have ha:=m0 a
     have ha':=m1 a
     have hb:=m0 b
     have hb':=m1 b
     have hc:(Txt.mul ⟨#[ltr ((i / 3+a / 6) % 26)]⟩ (1+a % 6)).cps.toList=(Txt.mul ⟨#[ltr ((i / 3+b / 6) % 26)]⟩ (1+b % 6)).cps.toList:=congrArg (fun z:Str=>z.cps.toList) h
     rw[Zk8 (by omega) (by omega),Zk8 (by omega) (by omega)] at hc
     have hl:=congrArg List.length hc
     simp only[List.length_replicate] at hl
     rw[show(1+a % 6).toNat=(a % 6).toNat+1 by omega,show(1+b % 6).toNat=(b % 6).toNat+1 by omega,List.replicate_succ,List.replicate_succ] at hc
     have hd:=(List.cons.inj hc).1
     have he:=Zk5 (q0 _) (q1 _) (q0 _) (q1 _) (show ltr _=ltr _ from hd)
     omega
 · have m0:=Int.emod_nonneg (i / 3) (show(6:Int)≠0 by decide)
   have m1:=Int.emod_lt_of_pos (i / 3) (show(0:Int)<6 by decide)
   obtain⟨s,hs1,hs6,es⟩:∃s:Nat,1<=s/\s<=6/\1+i / 3 % 6=(s:Int):=⟨(1+i / 3 % 6).toNat,by omega,by omega,by omega⟩
   have a3:oMod (.int (i / 3)) (.int 6)=some (.t (.int (i / 3 % 6))):=ZbS (by decide)
   have a4:oDiv (.int i) (.int 18)=some (.t (.int (i / 18))):=Zem (by decide) (by decide)
   have hs0:(0:Int)<(s:Int):=by omega
   have a5:oMod (.int (i / 18)) (.int s)=some (.t (.int (i / 18 % s))):=ZbS hs0
   have p0:=Int.emod_nonneg (i / 18) (show(s:Int)≠0 by omega)
   have p1:=Int.emod_lt_of_pos (i / 18) hs0
   have a6:oDiv (.int i) (.int 108)=some (.t (.int (i / 108))):=Zem (by decide) (by decide)
   have a7:oDiv (.int i) (.int 7)=some (.t (.int (i / 7))):=Zem (by decide) (by decide)
   have rl:(rngT 0 s).length=s:=by unfold rngT;simp
   obtain⟨r',sg,x',f1,g1,g2⟩:=ZgC (i:=i) (s:=.v (.t (.int s))) (p:=.v (.t (.int (i / 18 % s)))) (rngT 0 s) (i / 108) [] .e (.inl rfl) (fun z hz=>by cases hz) (by rw[rl];simp;omega)
   rw[rl] at g2
   simp only[List.length_nil,Nat.zero_add] at g2
   have n1:s<1000000:=by omega
   have q0:∀x:Int,0<=x % 26:=fun k=>Int.emod_nonneg k (by decide)
   have q1:∀x:Int,x % 26<26:=fun k=>Int.emod_lt_of_pos k (by decide)
   have pk:=fun k:Int=>ZoK (q0 (i / 7+k)) (q1 (i / 7+k))
   have ix:ixN sg.length (i / 18 % s)=some (i / 18 % s).toNat:=by
    unfold ixN
    rw[if_pos p0,if_pos (by omega)]
   have hsp:(i / 18 % s).toNat<sg.length:=by omega
   have sg2:∀k,Sg (sg.set (i / 18 % s).toNat ⟨#[ltr ((i / 7+k) % 26)]⟩):=fun k z hz=>by
    rcases List.mem_or_eq_of_mem_set hz with q | q
    · exact g1 z q
    · exact⟨_,(pk k).1,(pk k).2.1,q⟩
   have l2:∀k,(sg.set (i / 18 % s).toNat ⟨#[ltr ((i / 7+k) % 26)]⟩).length=s:=fun k=>by rw[List.length_set];exact g2
   have jg:=fun k=>Zk3 _ (sg2 k) (by rw[l2];omega) (by rw[l2];omega)
   have ne:∀k,sg.set (i / 18 % s).toNat ⟨#[ltr ((i / 7+k) % 26)]⟩≠[]:=fun k z=>by have:=congrArg List.length z;rw[l2] at this;simp at this;omega
   refine⟨fun k=>Txt.join "" (sg.set (i / 18 % s).toNat ⟨#[ltr ((i / 7+k) % 26)]⟩),fun k=>(jg k).1,fun k=>(jg k).2,fun k=>?_,fun a b a0 a26 b0 b26 h=>?_⟩
   · have a8:oMod (.int (i / 7+k)) (.int 26)=some (.t (.int ((i / 7+k) % 26))):=ZbS (by decide)
     have ec:=(pk k).2.2
     have sgk:=sg2 k
     have l2k:=l2 k
     have eset0:((sg.map T.str).map D.t).set (i / 18 % s).toNat (D.t (.str ⟨#[ltr ((i / 7+k) % 26)]⟩))=((sg.set (i / 18 % s).toNat ⟨#[ltr ((i / 7+k) % 26)]⟩).map T.str).map D.t:=by rw[List.map_set,List.map_set]
     generalize hS:sg.set (i / 18 % s).toNat ⟨#[ltr ((i / 7+k) % 26)]⟩=sS at sgk l2k eset0
     have hsum:(sS.map (·.length)).sum+sS.length*(Str.ofString "").length<=16777216:=by
      have:∀zs:List Str,Sg zs->(zs.map (·.length)).sum=zs.length:=fun zs=>by
       induction zs with
       | nil=>intro _;rfl
       | cons z zs ih=>
        intro h
        obtain⟨c,_,_,rfl⟩:=h _ (.head _)
        rw[List.map_cons,List.sum_cons,ih fun z hz=>h z (.tail _ hz),List.length_cons]
        show 1+_=_
        omega
      rw[this sS sgk,show(Str.ofString "").length=0 by decide +kernel]
      omega
     have oj:Zjh "" (.lst (sS.map .str))=some (.t (.str (Txt.join "" sS))):=by
      unfold Zjh
      dsimp only
      rw[ZoI]
      dsimp only
      rw[if_pos hsum]
     have f1k:=f1 k
     unfold ZaI runF Zdr
     rw[show Zbx 8 [.t (.int i),.t (.int k)]=[.v (.t (.int i)),.v (.t (.int k)),.e,.e,.e,.e,.e,.e] from rfl]
     rw[ZaQ (σ1:=[.v (.t (.int i)),.v (.t (.int k)),.v (.t (.str LT)),.e,.e,.e,.e,.e]) (by simp_arith [])]
     rw[ZaQ (σ1:=[.v (.t (.int i)),.v (.t (.int k)),.v (.t (.str LT)),.e,.e,.e,.e,.e]) (by simp_arith[a1,h3])]
     rw[ZaQ (σ1:=[.v (.t (.int i)),.v (.t (.int k)),.v (.t (.str LT)),.v (.t (.int s)),.e,.e,.e,.e]) (by simp_arith[a2,a3,es])]
     rw[ZaQ (σ1:=[.v (.t (.int i)),.v (.t (.int k)),.v (.t (.str LT)),.v (.t (.int s)),.v (.t (.int (i / 18 % s))),.e,.e,.e]) (by simp_arith[a4,a5])]
     rw[ZaQ (σ1:=[.v (.t (.int i)),.v (.t (.int k)),.v (.t (.str LT)),.v (.t (.int s)),.v (.t (.int (i / 18 % s))),.v (.lst []),.e,.e]) (by simp_arith [])]
     rw[ZaQ (σ1:=nE i k (.v (.t (.int s))) (.v (.t (.int (i / 18 % s)))) [] (i / 108) .e) (by simp_arith[a6])]
     rw[ZaQ (σ1:=nE i k (.v (.t (.int s))) (.v (.t (.int (i / 18 % s)))) sg r' x') (by
      have b1:(ZbC (eVar 3):SI) (nE i k (.v (.t (.int s))) (.v (.t (.int (i / 18 % s)))) [] (i / 108) .e)=.ok (rngT 0 s) (nE i k (.v (.t (.int s))) (.v (.t (.int (i / 18 % s)))) [] (i / 108) .e):=by simp_arith[n1]
      show Out.th _ _=_
      rw[b1]
      exact f1k)]
     rw[ZaQ (σ1:=nE i k (.v (.t (.int s))) (.v (.t (.int (i / 18 % s)))) sS r' x') (by unfold nE;simp_arith[a7,a8,ec,ix,eset0])]
     unfold nE
     simp_arith[oj]
   · have hc:(Txt.join "" (sg.set (i / 18 % s).toNat ⟨#[ltr ((i / 7+a) % 26)]⟩)).cps.toList=(Txt.join "" (sg.set (i / 18 % s).toNat ⟨#[ltr ((i / 7+b) % 26)]⟩)).cps.toList:=congrArg (fun z:Str=>z.cps.toList) h
     rw[Zk7 _ (sg2 a) (ne a),Zk7 _ (sg2 b) (ne b)] at hc
     have hx:=congrArg (fun l:List Nat=>l[(i / 18 % s).toNat]?) hc
     simp only[List.getElem?_map,List.getElem?_set_self hsp,Option.map_some] at hx
     have hd:ltr ((i / 7+a) % 26)=ltr ((i / 7+b) % 26):=by
      have:=Option.some.inj hx
      simpa using this
     have he:=Zk5 (q0 _) (q1 _) (q0 _) (q1 _) hd
     omega
section
variable{ws ds sh:List Str}{rs:List (List Int)}{ss:List T}
def dueF(d:Str)(ds sh:List Str)(n:Nat):Option Str:=if ¬d∈ds then some "NoDeed" else if d∈sh then some "Forbidden" else if 200<=n then some "NoRoom" else none
theorem ZoL{d:Str}(hs:sh.length<=1000):Zb2 [.t (stT ws ds rs sh),.t (.str d)]=.ret (stD ws ds rs (sh++[d])) [.t (stT ws ds rs sh),.t (.str d)]:=by
 unfold Zb2 Zb1
 have e2:oCat (.lst (sh.map .str)) (.lst [.str d])=some (.lst (((sh++[d]).map T.str).map .t)):=by
  rw[ZhF (by simp;omega)]
  simp
 simp_arith[e2,Zg1]
abbrev Zrg(sh:List Str)(d:Str):List Str:=sh.filter fun z=>!decide (z=d)
theorem Zmm{d:Str}(hd:W d)(hsh:sh.length<=1000)(hs:ss.length<=1000):ZbJ [off (ss++[stT ws ds rs sh]),.t (.str d)] =
 match dueF d ds sh ss.length with
 | some c=>.exc c [off (ss++[stT ws ds rs sh]),.t (.str d)]
 | none=>.ret (.t (.int (ss.length+1))) [off (ss++[stT ws ds rs sh]++[stT ws ds rs (sh++[d])]),.t (.str d)]:=by
 unfold ZbJ Zck
 have e1:=Zij (ss:=ss) (x:=stT ws ds rs sh)
 have e4:=ZfG (ss:=ss++[stT ws ds rs sh])
 have e5:=Zk0 (n:=ss.length)
 have e6:=ZoL (ws:=ws) (ds:=ds) (rs:=rs) (d:=d) hsh
 have e7:=ZkU (ss:=ss++[stT ws ds rs sh]) (x:=stT ws ds rs (sh++[d])) (by simp;omega)
 have f6:=ZhQ (ws:=ws) (ds:=ds) (rs:=rs) (sh:=sh++[d])
 have c1:=ZkX (ws:=ws) (ds:=ds) (rs:=rs) (sh:=sh) (zs:=[d]) (by simpa using hd)
 have c3:=ZkY (ws:=ws) (ds:=ds) (rs:=rs) (sh:=sh) (zs:=[d]) (by simpa using hd)
 simp only[List.mem_singleton,forall_eq,List.map_cons,List.map_nil] at c1 c3
 rw[List.length_append,List.length_singleton] at e4 e7
 unfold dueF
 by_cases h1:d∈ds
 rotate_left
 · simp_arith[e1,c1,h1]
 by_cases h3:d∈sh
 · simp_arith[e1,c1,c3,h1,h3]
 by_cases hn:200<=ss.length
 · simp_arith[e1,c1,c3,e4,e5,h1,h3,hn]
 · simp_arith[e1,c1,c3,e4,e5,e6,e7,f6,h1,h3,hn]
end
theorem Zge{i j:Int}(h:j.natAbs<2 ^ 64):oMul (.int i) (.int j)=some (.t (.int (i*j))):=by
 show(if cMul i j=true then _ else _)=_
 rw[if_pos (by simp only[cMul,decide_eq_true h,Bool.or_true,Bool.true_or])]
theorem Zq9(i k:Int):∃v,Zd6 [.t (.int i),.t (.int k)]=.ret (.t (.int v)) [.t (.int i),.t (.int k)]:=by
 obtain⟨o,ho⟩:∃o,o=(i*48271+k*7368787+1) % 2147483647:=⟨_,rfl⟩
 have o0:0<=o:=by rw[ho];exact Int.emod_nonneg _ (by decide)
 have o1:o<2147483647:=by rw[ho];exact Int.emod_lt_of_pos _ (by decide)
 have a1:oMul (.int i) (.int 48271)=some (.t (.int (i*48271))):=Zge (by decide)
 have a2:oMul (.int k) (.int 7368787)=some (.t (.int (k*7368787))):=Zge (by decide)
 have a3:oMod (.int (i*48271+k*7368787+1)) (.int 2147483647)=some (.t (.int o)):=by rw[ho];exact ZbS (by decide)
 have a4:oMul (.int o) (.int o)=some (.t (.int (o*o))):=Zge (by omega)
 have a5:oMod (.int (o*o)) (.int 2147483647)=some (.t (.int (o*o % 2147483647))):=ZbS (by decide)
 have a6:oMul (.int (o*o % 2147483647)) (.int 69621)=some (.t (.int (o*o % 2147483647*69621))):=Zge (by decide)
 have a7:oMod (.int (o*o % 2147483647*69621)) (.int 2147483647)=some (.t (.int (o*o % 2147483647*69621 % 2147483647))):=ZbS (by decide)
 refine⟨o*o % 2147483647*69621 % 2147483647,?_⟩
 unfold Zd6 ZeK
 simp_arith[a1,a2,a3,a4,a5,a6,a7]
theorem l_at(ns:List Int)(k:Nat):∃v,ZaT [.t (.scr ns),.t (.int k)]=.ret (.t (.int v)) [.t (.scr ns),.t (.int k)]:=by
 have e0:oLen (.scr ns)=some (.t (.int ns.length)):=by
  simp[oLen,items]
 by_cases h:k<ns.length
 · have h':(k:Int)<(ns.length:Int):=by omega
   have e1:oIx (.scr ns) (.int k)=some (.t (.int ns[k])):=by
    show(atI (ns.map T.int) (k:Int)).map D.t=_
    rw[DL.atI_nat]
    simp[h]
   refine⟨ns[k],?_⟩
   unfold ZaT ZeJ
   simp_arith[e0,e1,h,h']
 · have h':¬(k:Int)<(ns.length:Int):=by omega
   refine⟨0,?_⟩
   unfold ZaT ZeJ
   simp_arith[e0,h,h']
def InZ(z:Int)(xs:List Int):Prop:=∀x∈xs,0<=x/\x<z
abbrev rE(c w z:Int)(m:Bool)(xs:List Int)(x:Sl):Env':=[.v (.t (.int c)),.v (.t (.int w)),.v (.t (.int z)),.v (.t (.bl m)),.v (.lst ((xs.map T.int).map D.t)),x]
abbrev rB:SS:=(sIf (sT (eVar 3)) (sApp 4 (e2 oMod (e2 oDiv (Zaw 2 Zd6 [none,none] (Zad (eVar 0) (Zad (eVar 5) aNil))) (eC (.int 7))) (eVar 2))) (sSeq (sApp 4 (e2 oMod (eVar 0) (eVar 2)))
 (sAsg (e2 oDiv (eVar 0) (eVar 2)) (Zag 0))))
theorem ZhS{w z:Int}{m:Bool}(z0:0<z)(z1:z<1073741824):∀(ts:List Int) (c:Int) (xs:List Int) (x:Sl),okX x->InZ z xs->xs.length+ts.length<=1000 -> ∃c' xs' x',forS (Zag 5) rB (ts.map .int) (rE c w z m xs x)=.next (rE c' w z m xs' x')/\InZ z xs'/\xs'.length=xs.length+ts.length
 | [],c,xs,x,_,h,_=>⟨c,xs,x,rfl,h,rfl⟩
 | t :: ts,c,xs,x,hx,h,hn=>by
  simp only[List.length_cons] at hn
  have n1:xs.length<1000000:=by omega
  have a1:∀y:Int,((xs.map T.int).map D.t)++[D.t (.int y)]=((xs++[y]).map T.int).map D.t:=fun y=>by simp
  have k1:Zag 5 (.t (.int t)) (rE c w z m xs x)=some (rE c w z m xs (.v (.t (.int t)))):=by rcases hx with rfl | ⟨d,rfl⟩<;>rfl
  have more:∀y:Int,0<=y->y<z->InZ z (xs++[y]):=fun y y0 y1 u hz=>by
   rcases List.mem_append.mp hz with q | q
   · exact h u q
   · simp at q;subst q;exact⟨y0,y1⟩
  suffices hh:∃c1 y,0<=y/\y<z/\rB (rE c w z m xs (.v (.t (.int t))))=.next (rE c1 w z m (xs++[y]) (.v (.t (.int t)))) from by
   obtain⟨c1,y,y0,y1,b1⟩:=hh
   obtain⟨c',xs',x',f1,h1,h2⟩:=ZhS (w:=w) (m:=m) z0 z1 ts c1 (xs++[y]) (.v (.t (.int t))) (.inr ⟨_,rfl⟩) (more y y0 y1) (by simp;omega)
   refine⟨c',xs',x',?_,h1,by rw[h2];simp;omega⟩
   rw[List.map_cons,forS,k1]
   dsimp only
   rw[b1]
   exact f1
  have hz:z≠0:=by omega
  cases m with
  | true=>
   obtain⟨v,em⟩:=Zq9 c t
   have o1:oDiv (.int v) (.int 7)=some (.t (.int (v / 7))):=Zem (by decide) (by decide)
   have o2:oMod (.int (v / 7)) (.int z)=some (.t (.int (v / 7 % z))):=ZbS z0
   refine⟨c,v / 7 % z,Int.emod_nonneg _ hz,Int.emod_lt_of_pos _ z0,?_⟩
   unfold rB rE
   simp_arith[em,o1,o2,n1,a1]
  | false=>
   have o1:oMod (.int c) (.int z)=some (.t (.int (c % z))):=ZbS z0
   have o2:oDiv (.int c) (.int z)=some (.t (.int (c / z))):=Zem z0 z1
   refine⟨c / z,c % z,Int.emod_nonneg _ hz,Int.emod_lt_of_pos _ z0,?_⟩
   unfold rB rE
   simp_arith[o1,o2,n1,a1]
theorem rngI(w:Nat):rngT 0 w=((List.range w).map fun (i:Nat)=>(i:Int)).map T.int:=by rw[ZgB,List.map_map];rfl
theorem Zg5(c:Int)(w:Nat)(z:Int)(m:Bool)(z0:0<z)(z1:z<1073741824)(hw:w<=100):∃xs:List Int,xs.length=w/\InZ z xs/\Zb9 [.t (.int c),.t (.int w),.t (.int z),.t (.bl m)]=.ret (.t (.lst (xs.map .int))) [.t (.int c),.t (.int w),.t (.int z),.t (.bl m)]:=by
 obtain⟨c',xs,x',f1,h1,h2⟩:=ZhS (w:=(w:Int)) (m:=m) z0 z1 ((List.range w).map fun (i:Nat)=>(i:Int)) c [] .e (.inl rfl) (fun _ h=>by cases h) (by simp;omega)
 simp only[List.length_map,List.length_range,List.length_nil,Nat.zero_add] at h2
 refine⟨xs,h2,h1,?_⟩
 have n1:w<1000000:=by omega
 unfold Zb9 runF ZdC
 rw[show Zbx 6 [.t (.int c),.t (.int w),.t (.int z),.t (.bl m)]=[.v (.t (.int c)),.v (.t (.int w)),.v (.t (.int z)),.v (.t (.bl m)),.e,.e] from rfl]
 rw[ZaQ (σ1:=rE c w z m [] .e) (by simp_arith [])]
 rw[ZaQ (σ1:=rE c' w z m xs x') (by
  have b1:(ZbC (eVar 1):SI) (rE c w z m [] .e)=.ok (rngT 0 w) (rE c w z m [] .e):=by simp_arith[n1]
  show Out.th _ _=_
  rw[b1,rngI]
  exact f1)]
 unfold rE
 simp_arith []
theorem Zgf{L:List Int}(hL:L.length<=1000):∀(xs:List Int) (x:Sl),okX x->InZ L.length xs->Zbk (Zag 0) Zbl (e2 oIx (Zd1 L) (eVar 0)) (xs.map .int) [x]=some (((xs.map fun v=>L.getD v.toNat 0).map T.int).map D.t)
 | [],_,_,_=>rfl
 | v :: vs,x,hx,h=>by
  have ih:=Zgf hL vs (.v (.t (.int v))) (.inr ⟨_,rfl⟩) fun y hy=>h y (.tail _ hy)
  obtain⟨v0,v1⟩:=h v (.head _)
  obtain⟨k,rfl⟩:=Int.eq_ofNat_of_zero_le v0
  have hk:k<L.length:=by omega
  have e1:oIx (.lst (L.map .int)) (.int k)=some (.t (.int (L.getD k 0))):=by rw[Zdl,DL.atI_nat];simp[hk]
  have e0:Zd1 L [.v (.t (.int k))]=.ok (.lst ((L.map T.int).map .t)) [.v (.t (.int k))]:=by unfold Zd1;rw[if_pos hL,List.map_map];rfl
  have f0:frz (.lst ((L.map T.int).map .t))=.lst (L.map .int):=Zbz
  have k1:Zag 0 (.t (.int k)) [x]=some [.v (.t (.int k))]:=by rcases hx with rfl | ⟨d,rfl⟩<;>rfl
  rw[List.map_cons,Zbk,k1]
  simp only[Option.bind_some,Zbl,e2,e0,Out.bnd,eVar,List.getElem?_cons_zero,f0,Zby,e1,List.set_cons_zero,ih]
  rfl
theorem ZiW:∀(xs:List Int) (x:Sl),okX x->Zbk (Zag 0) Zbl (e2 oSub (e2 oMod (e2 oAdd (eVar 0) (eC (.int 9))) (eC (.int 19))) (eC (.int 9))) (xs.map .int) [x]=some (((xs.map fun v=>(v+9) % 19 - 9).map T.int).map D.t)
 | [],_,_=>rfl
 | v :: vs,x,hx=>by
  have ih:=ZiW vs (.v (.t (.int v))) (.inr ⟨_,rfl⟩)
  have o1:oMod (.int (v+9)) (.int 19)=some (.t (.int ((v+9) % 19))):=ZbS (by decide)
  rcases hx with rfl | ⟨d,rfl⟩<;>simp[Zbk,Zag,Zbl,e2,eVar,eC,Out.bnd,Zby,Zku,Zkt,o1,-List.map_map]<;>(rw[ih])
def In3(r:List Int):Prop:=∀v∈r,-3<=v/\v<=3
def In9(r:List Int):Prop:=∀v∈r,-9<=v/\v<=9
theorem Zm4{r:List Int}(h:In3 r):In9 r:=fun v hv=>by have:=h v hv;omega
theorem Zra(c:Int)(w:Nat)(y:Int)(hw:w<=100):∃xs:List Int,xs.length=w/\In9 xs/\(y=1->In3 xs)/\Zc6 [.t (.int c),.t (.int w),.t (.int y)]=.ret (.lst ((xs.map .int).map .t)) [.t (.int c),.t (.int w),.t (.int y)]:=by
 have pick:∀(L:List Int) (xs:List Int),(∀v∈L,-3<=v/\v<=3)->In3 (xs.map fun v=>L.getD v.toNat 0):=fun L xs h v hv=>by
  obtain⟨u,_,rfl⟩:=List.mem_map.mp hv
  rw[List.getD_eq_getElem?_getD]
  by_cases q:u.toNat<L.length
  · rw[List.getElem?_eq_getElem q];exact h _ (List.getElem_mem q)
  · rw[List.getElem?_eq_none (by omega)];decide
 by_cases h1:y=1
 · obtain⟨xs,hl,hz,e⟩:=Zg5 c w 11 true (by decide) (by decide) hw
   have e2:=Zgf (L:=[0,1,-1,0,2,-2,1,-1,3,-3,0]) (by decide) xs .e (.inl rfl) hz
   have p:=pick [0,1,-1,0,2,-2,1,-1,3,-3,0] xs (by decide)
   have n2:xs.length<sizeLine:=Zbv (by omega)
   refine⟨_,by simpa using hl,Zm4 p,fun _=>p,?_⟩
   unfold Zc6 Zdq
   simp_arith[h1,e,Zbh,ZaC,capE,e2,n2]
 · by_cases h2:y=2
   · obtain⟨xs,hl,hz,e⟩:=Zg5 c w 4 true (by decide) (by decide) hw
     have e2:=Zgf (L:=[0,1,-1,0]) (by decide) xs .e (.inl rfl) hz
     have p:=pick [0,1,-1,0] xs (by decide)
     have n2:xs.length<sizeLine:=Zbv (by omega)
     refine⟨_,by simpa using hl,Zm4 p,fun _=>p,?_⟩
     unfold Zc6 Zdq
     simp_arith[h2,e,Zbh,ZaC,capE,e2,n2]
   · obtain⟨xs,hl,hz,e⟩:=Zg5 c w 19 (decide (y=3)) (by decide) (by decide) hw
     have e2:=ZiW xs .e (.inl rfl)
     have n2:xs.length<sizeLine:=Zbv (by omega)
     refine⟨xs.map fun v=>(v+9) % 19 - 9,by simpa using hl,fun v hv=>?_,fun q=>absurd q h1,?_⟩
     · obtain⟨u,_,rfl⟩:=List.mem_map.mp hv
       omega
     · unfold Zc6 Zdq
       simp_arith[h1,h2,e,Zbh,ZaC,capE,e2,n2]
def putI(kvs:List (Str×Int))(k:Str)(v:Int):List (Str×Int):=if (kvs.any fun kv=>decide (kv.1=k))=true then kvs.map (fun kv=>if kv.1=k then(kv.1,v) else kv) else kvs++[(k,v)]
theorem Zk9{kvs:List (Str×Int)}{k:Str}{v:Int}:putT (dctT kvs) k (.int v)=dctT (putI kvs k v):=by
 unfold putT putI dctT
 rw[List.any_map]
 show(if (kvs.any fun kv=>decide (kv.1=k))=true then _ else _)=_
 split
 · rw[List.map_map,List.map_map]
   refine List.map_congr_left fun p _=>?_
   by_cases h:p.1=k<;>simp[h]
 · simp
theorem Zmn{kvs:List (Str×Int)}{k:Str}{v:Int}(h:k∉kvs.map Prod.fst):putI kvs k v=kvs++[(k,v)]:=by
 unfold putI
 rw[if_neg]
 intro q
 obtain⟨p,hp,e⟩:=List.any_eq_true.mp q
 exact h (List.mem_map.mpr ⟨p,hp,by simpa using e⟩)
abbrev nms(nm:Int->Str)(j:Nat):List Str:=(List.range j).map fun (i:Nat)=>nm (i:Int)
theorem ZfI{nm:Int->Str}{j:Nat}:nms nm (j+1)=nms nm j++[nm (j:Int)]:=by
 simp[nms,List.range_succ]
section
variable{f s:Int}{nf ns:Int->Str}
theorem Zla(N:Nm f nf){j:Nat}(hj:j<=26):(nms nf j).Nodup:=by
 unfold nms List.Nodup
 rw[List.pairwise_map]
 refine List.Pairwise.imp_of_mem ?_ (List.nodup_range (n:=j))
 intro a b ha hb hab e
 have ha':=List.mem_range.mp ha
 have hb':=List.mem_range.mp hb
 have:=N.inj a b (by omega) (by omega) (by omega) (by omega) e
 omega
theorem Zim(N:Nm f nf){j k:Nat}(hk:k<26)(hjk:j<=k):nf (k:Int)∉nms nf j:=fun h=>by
 obtain⟨i,hi,e⟩:=List.mem_map.mp h
 have hi':=List.mem_range.mp hi
 have:=N.inj i k (by omega) (by omega) (by omega) (by omega) e
 omega
theorem Zm5{j k:Nat}(hk:k<j):nf (k:Int)∈nms nf j:=List.mem_map.mpr ⟨k,List.mem_range.mpr hk,rfl⟩
theorem ZoM(N:Nm f nf){j:Nat}:∀z∈nms nf j,W z:=fun z hz=>by
 obtain⟨i,_,rfl⟩:=List.mem_map.mp hz
 exact N.w _
abbrev oE(w:Int)(dl:T)(f s:Int)(o:List T)(x5 x6 x7:Sl):Env':=[.v (.t (.int w)),.v (.t dl),.v (.t (.int f)),.v (.t (.int s)),.v (off o),x5,x6,x7]
abbrev ZoN:SS:=Zcb (Zbs 4 "Office" "put_ware" 2 ZaV [none] (Zad (eFrz (Zaw 2 ZaI [none,none] (Zad (eVar 2) (Zad (eVar 5) aNil)))) aNil))
theorem ZhT(N:Nm f nf){w:Int}{dl:T}:∀(m j:Nat) (ss:List T) (x:Sl),okX x->j+m<=6->ss.length=j -> ∃ss' x',okX x'/\ss'.length=j+m /\
 forS (Zag 5) ZoN ((List.range' j m).map fun (i:Nat)=>T.int (i:Int)) (oE w dl f s (ss++[stT (nms nf j) [] [] []]) x .e .e)=.next (oE w dl f s (ss'++[stT (nms nf (j+m)) [] [] []]) x' .e .e)
 | 0,j,ss,x,hx,_,hl=>⟨ss,x,hx,hl,rfl⟩
 | m+1,j,ss,x,hx,hj,hl=>by
  have O:Ok (nms nf j) [] [] []:=⟨rfl,(fun _ h=>by cases h),Zla N (by omega),.nil,by simp;omega,by simp,fun _ h=>by cases h⟩
  have e:=Zm3 (ss:=ss) (N.w (j:Int)) O (by omega)
  have hd:dueW (nf (j:Int)) (nms nf j) ss.length=none:=by
   unfold dueW
   rw[if_neg (by rw[N.g];decide),if_neg (Zim N (by omega) (Nat.le_refl _)),if_neg (by simp;omega),if_neg (by omega)]
  rw[hd,<- ZfI] at e
  have en:=N.e (j:Int)
  obtain⟨ss',x',hx',hl',ih⟩:=ZhT N (w:=w) (dl:=dl) m (j+1) (ss++[stT (nms nf j) [] [] []]) (.v (.t (.int j))) (.inr ⟨_,rfl⟩) (by omega) (by simp[hl])
  refine⟨ss',x',hx',by omega,?_⟩
  have k1:Zag 5 (.t (.int j)) (oE w dl f s (ss++[stT (nms nf j) [] [] []]) x .e .e)=some (oE w dl f s (ss++[stT (nms nf j) [] [] []]) (.v (.t (.int j))) .e .e):=by rcases hx with rfl | ⟨d,rfl⟩<;>rfl
  have b1:ZoN (oE w dl f s (ss++[stT (nms nf j) [] [] []]) (.v (.t (.int j))) .e .e)=.next (oE w dl f s (ss++[stT (nms nf j) [] [] []]++[stT (nms nf (j+1)) [] [] []]) (.v (.t (.int j))) .e .e):=by
   unfold ZoN oE
   simp only[List.map_nil] at e
   simp_arith[en,e]
  rw[List.range'_succ,List.map_cons,forS,k1]
  dsimp only
  rw[b1]
  rw[show j+(m+1)=j+1+m by omega]
  exact ih
structure KV(nf:Int->Str)(row:List Int)(j:Nat)(kvs:List (Str×Int)):Prop where
 ks:∀z∈kvs.map Prod.fst,z∈nms nf j
 val:∀i<j,(kvs.lookup (nf (i:Nat))).getD 0=row.getD i 0
 vs:∀v∈kvs.map Prod.snd,v∈row
 len:kvs.length<=j
theorem ZdM{z:Str}:∀{kvs:List (Str×Int)},z∉kvs.map Prod.fst->kvs.lookup z=none
 | [],_=>rfl
 | (k,v) :: r,h=>by
  simp only[List.map_cons,List.mem_cons,not_or] at h
  rw[List.lookup_cons,show(z == k)=false by simp[h.1]]
  exact ZdM h.2
theorem Zfd{z k:Str}{v:Int}:∀{kvs:List (Str×Int)},(kvs++[(k,v)]).lookup z=match kvs.lookup z with | some u=>some u | none=>if z=k then some v else none
 | []=>by
  rw[List.nil_append,List.lookup_cons]
  by_cases h:z=k
  · subst h;simp
  · rw[show(z == k)=false by simp[h]]
    simp[h]
 | (k',v') :: r=>by
  rw[List.cons_append,List.lookup_cons,List.lookup_cons]
  by_cases h:z=k'
  · subst h;simp
  · rw[show(z == k')=false by simp[h]]
    exact Zfd
abbrev kvB:SS:=(sIf (sT (eB oNe (e2 oIx (e2 oIx (eVar 1) (eVar 5)) (eVar 7)) (eC (.int 0)))) (DL.sDPut 6 (e2 oIx (e2 oIx (eVar 1) (eVar 5)) (eVar 7)) (Zaw 2 ZaI [none,none] (Zad (eVar 2) (Zad (eVar 7) aNil)))) ZaS)
theorem Zlb(N:Nm f nf){w:Int}{rs:List (List Int)}{row:List Int}{k:Nat}{o:List T}(hk:rs[k]? = some row):∀(m j:Nat) (kvs:List (Str×Int)) (x:Sl),okX x->j+m<=row.length->row.length<=6->KV nf row j kvs -> ∃kvs' x',okX x'/\KV nf row (j+m) kvs' /\
 forS (Zag 7) kvB ((List.range' j m).map fun (i:Nat)=>T.int (i:Int)) (oE w (.lst (rs.map rowT)) f s o (.v (.t (.int k))) (.v (.dct (dctT kvs))) x)=.next (oE w (.lst (rs.map rowT)) f s o (.v (.t (.int k))) (.v (.dct (dctT kvs'))) x')
 | 0,j,kvs,x,hx,_,_,h=>⟨kvs,x,hx,h,rfl⟩
 | m+1,j,kvs,x,hx,hj,hl,h=>by
  have hjl:j<row.length:=by omega
  have e1:oIx (.lst (rs.map rowT)) (.int k)=some (.t (rowT row)):=by
   rw[Zdl,DL.atI_nat,List.getElem?_map,hk]
   rfl
  have e2:oIx (.lst (row.map .int)) (.int j)=some (.t (.int row[j])):=by rw[Zdl,DL.atI_nat];simp[hjl]
  have en:=N.e (j:Int)
  have hnk:nf (j:Int)∉kvs.map Prod.fst:=fun q=>Zim N (by omega) (Nat.le_refl j) (h.ks _ q)
  have k1:∀kvs,Zag 7 (.t (.int j)) (oE w (.lst (rs.map rowT)) f s o (.v (.t (.int k))) (.v (.dct (dctT kvs))) x)=some (oE w (.lst (rs.map rowT)) f s o (.v (.t (.int k))) (.v (.dct (dctT kvs))) (.v (.t (.int j)))):=fun kvs=>by rcases hx with rfl | ⟨d,rfl⟩<;>rfl
  have up:∀z,z∈nms nf j->z∈nms nf (j+1):=fun z hz=>by rw[ZfI];exact List.mem_append_left _ hz
  suffices hh:∃kvs1,KV nf row (j+1) kvs1/\kvB (oE w (.lst (rs.map rowT)) f s o (.v (.t (.int k))) (.v (.dct (dctT kvs))) (.v (.t (.int j))))=.next (oE w (.lst (rs.map rowT)) f s o (.v (.t (.int k))) (.v (.dct (dctT kvs1))) (.v (.t (.int j)))) from by
   obtain⟨kvs1,h1,b1⟩:=hh
   obtain⟨kvs',x',hx',h2,ih⟩:=Zlb N hk m (j+1) kvs1 (.v (.t (.int j))) (.inr ⟨_,rfl⟩) (by omega) hl h1
   refine⟨kvs',x',hx',by rw[show j+(m+1)=j+1+m by omega];exact h2,?_⟩
   rw[List.range'_succ,List.map_cons,forS,k1]
   dsimp only
   rw[b1]
   exact ih
  by_cases h0:row[j]=0
  · refine⟨kvs,⟨fun z hz=>up z (h.ks z hz),fun i hi=>?_,h.vs,by have:=h.len;omega⟩,?_⟩
    · by_cases hij:i=j
      · subst hij
        rw[ZdM hnk]
        simp[hjl,h0]
      · exact h.val i (by omega)
    · unfold kvB oE
      simp_arith[e1,e2,h0]
  · have pn:=Zmn (v:=row[j]) hnk
    have pt:=Zk9 (kvs:=kvs) (k:=nf (j:Int)) (v:=row[j])
    rw[pn] at pt
    have n1:kvs.length<1000000:=by have:=h.len;omega
    refine⟨kvs++[(nf (j:Int),row[j])],⟨fun z hz=>?_,fun i hi=>?_,fun v hv=>?_,by have:=h.len;simp;omega⟩,?_⟩
    · rw[List.map_append] at hz
      rcases List.mem_append.mp hz with q | q
      · exact up z (h.ks z q)
      · simp at q
        rw[q,ZfI]
        simp
    · rw[Zfd]
      by_cases hij:i=j
      · subst hij
        rw[ZdM hnk]
        simp[hjl]
      · have hne:¬nf (i:Int)=nf (j:Int):=fun q=>by
         have:=N.inj i j (by omega) (by omega) (by omega) (by omega) q
         omega
        have hv:=h.val i (by omega)
        cases q:kvs.lookup (nf (i:Int)) with
        | none=>rw[q] at hv;simp[hne];simpa using hv
        | some u=>rw[q] at hv;simpa using hv
    · rw[List.map_append] at hv
      rcases List.mem_append.mp hv with q | q
      · exact h.vs v q
      · simp at q
        rw[q]
        exact List.getElem_mem _
    · unfold kvB oE
      simp_arith[DL.sDPut,e1,e2,h0,en,n1,pt]
theorem Zqq{row:List Int}{kvs:List (Str×Int)}(h:KV nf row row.length kvs):ZdK kvs (nms nf row.length)=row:=by
 refine List.ext_getElem? fun i=>?_
 unfold ZdK
 by_cases hi:i<row.length
 · have:=h.val i hi
   simp only[List.getElem?_map,List.getElem?_range hi,Option.map_some,this]
   simp[hi]
 · rw[List.getElem?_eq_none (by simpa using hi),List.getElem?_eq_none (by simpa using hi)]
end
section
variable{f s:Int}{nf ns:Int->Str}
def ZoO(row:List Int):Prop:=∀v∈row,big v=false
abbrev ZoP:SS:=(sSeq (sAsg Zji (Zag 6))
 (sSeq (sFor (ZbC (eVar 0)) (Zag 7) kvB)
 (Zcb (Zbs 4 "Office" "put_deed" 3 Zbm [none,none] (Zad (eFrz (Zaw 2 ZaI [none,none] (Zad (eVar 3) (Zad (eVar 5) aNil)))) (Zad (eVar 6) aNil))))))
theorem Zlc(N:Nm f nf)(M:Nm s ns){w:Nat}{rs:List (List Int)}(hw:w<=6)(hr:∀r∈rs,r.length=w)(hn:rs.length<=10){j:Nat}(hj:j<=rs.length):Ok (nms nf w) (nms ns j) (rs.take j) []:=
 ⟨by simp;omega,(fun r h=>by simp[hr r (List.mem_of_mem_take h)]),Zla N (by omega),Zla M (by omega),by simp;omega,by simp;omega,fun _ h=>by cases h⟩
theorem ZhU(N:Nm f nf)(M:Nm s ns){w:Nat}{rs:List (List Int)}(hw:w<=6)(hr:∀r∈rs,r.length=w)(hsm:∀r∈rs,ZoO r)(hn:rs.length<=10):∀(m j:Nat) (ss:List T) (x5 x6 x7:Sl),okX x5->okX x6->okX x7->j+m<=rs.length->ss.length=w+j -> ∃ss' x5' x6' x7',ss'.length=w+j+m /\
 forS (Zag 5) ZoP ((List.range' j m).map fun (i:Nat)=>T.int (i:Int)) (oE w (.lst (rs.map rowT)) f s (ss++[stT (nms nf w) (nms ns j) (rs.take j) []]) x5 x6 x7)=.next (oE w (.lst (rs.map rowT)) f s (ss'++[stT (nms nf w) (nms ns (j+m)) (rs.take (j+m)) []]) x5' x6' x7')
 | 0,j,ss,x5,x6,x7,_,_,_,_,hl=>⟨ss,x5,x6,x7,hl,rfl⟩
 | m+1,j,ss,x5,x6,x7,h5,h6,h7,hj,hl=>by
  have hjl:j<rs.length:=by omega
  have hrow:rs[j].length=w:=hr _ (List.getElem_mem hjl)
  have O:=Zlc N M hw hr hn (j:=j) (by omega)
  obtain⟨kvs,y7,hy7,hK,ek⟩:=Zlb (s:=s) N (w:=(w:Int)) (rs:=rs) (row:=rs[j]) (k:=j) (o:=ss++[stT (nms nf w) (nms ns j) (rs.take j) []]) (by simp[hjl]) w 0 [] x7 h7 (by omega) (by omega) ⟨(fun _ h=>by cases h),(fun _ h=>by omega),(fun _ h=>by cases h),by simp⟩
  rw[Nat.zero_add] at hK
  rw[<- hrow] at hK
  have hrow2:=Zqq hK
  rw[hrow] at hrow2 hK
  have e:=Zqo (ss:=ss) (kvs:=kvs) (b:=.t (.dct (dctT kvs))) (.inr rfl) (M.w (j:Int)) (fun z hz=>ZoM N z (hK.ks z hz)) O (by omega)
  have hA:Zil (kvs.map Prod.fst) (nms nf w)=true:=by
   unfold Zil
   rw[List.all_eq_true]
   exact fun z hz=>by simpa using hK.ks z hz
  have hB:ZdL (kvs.map Prod.snd)=true:=by
   unfold ZdL
   rw[List.all_eq_true]
   exact fun v hv=>by rw[hsm _ (List.getElem_mem hjl) v (hK.vs v hv)];rfl
  have hd:dueD (ns (j:Int)) kvs (nms nf w) (nms ns j) ss.length=none:=by
   unfold dueD
   rw[if_neg (by rw[M.g];decide),if_neg (Zim M (by omega) (Nat.le_refl _)),if_neg (by rw[hA];decide),if_neg (by rw[hB];decide),if_neg (by simp;omega),if_neg (by omega)]
  rw[hd,<- ZfI,hrow2] at e
  have htake:rs.take j++[rs[j]]=rs.take (j+1):=by rw[List.take_succ];simp[hjl]
  rw[htake] at e
  have en:=M.e (j:Int)
  obtain⟨ss',x5',x6',x7',hl',ih⟩:=ZhU N M hw hr hsm hn m (j+1) (ss++[stT (nms nf w) (nms ns j) (rs.take j) []]) (.v (.t (.int j))) (.v (.t (.dct (dctT kvs)))) y7 (.inr ⟨_,rfl⟩) (.inr ⟨_,rfl⟩) hy7 (by omega) (by simp[hl];omega)
  all_goals refine⟨ss',x5',x6',x7',by omega,?_⟩
  · skip
    have k1:Zag 5 (.t (.int j)) (oE w (.lst (rs.map rowT)) f s (ss++[stT (nms nf w) (nms ns j) (rs.take j) []]) x5 x6 x7)=some (oE w (.lst (rs.map rowT)) f s (ss++[stT (nms nf w) (nms ns j) (rs.take j) []]) (.v (.t (.int j))) x6 x7):=by rcases h5 with rfl | ⟨d,rfl⟩<;>rfl
    have nw:w<1000000:=by omega
    have b1:ZoP (oE w (.lst (rs.map rowT)) f s (ss++[stT (nms nf w) (nms ns j) (rs.take j) []]) (.v (.t (.int j))) x6 x7)=.next (oE w (.lst (rs.map rowT)) f s (ss++[stT (nms nf w) (nms ns j) (rs.take j) []]++[stT (nms nf w) (nms ns (j+1)) (rs.take (j+1)) []]) (.v (.t (.int j))) (.v (.t (.dct (dctT kvs)))) y7):=by
     unfold ZoP
     rw[ZaQ (σ1:=oE w (.lst (rs.map rowT)) f s (ss++[stT (nms nf w) (nms ns j) (rs.take j) []]) (.v (.t (.int j))) (.v (.dct (dctT []))) x7) (by unfold oE;rcases h6 with rfl | ⟨d,rfl⟩<;>simp_arith [])]
     rw[ZaQ (σ1:=oE w (.lst (rs.map rowT)) f s (ss++[stT (nms nf w) (nms ns j) (rs.take j) []]) (.v (.t (.int j))) (.v (.dct (dctT kvs))) y7) (by
      have b2:(ZbC (eVar 0):SI) (oE w (.lst (rs.map rowT)) f s (ss++[stT (nms nf w) (nms ns j) (rs.take j) []]) (.v (.t (.int j))) (.v (.dct (dctT []))) x7)=.ok (rngT 0 w) (oE w (.lst (rs.map rowT)) f s (ss++[stT (nms nf w) (nms ns j) (rs.take j) []]) (.v (.t (.int j))) (.v (.dct (dctT []))) x7):=by
       unfold oE
       simp_arith[nw]
      show Out.th _ _=_
      rw[b2,ZgB,List.range_eq_range']
      exact ek)]
     unfold oE
     simp_arith[en,e]
    rw[List.range'_succ,List.map_cons,forS,k1]
    dsimp only
    rw[b1]
    rw[show j+(m+1)=j+1+m by omega]
    exact ih
theorem Zmo(N:Nm f nf)(M:Nm s ns){w:Nat}{rs:List (List Int)}(hw:w<=6)(hr:∀r∈rs,r.length=w)(hsm:∀r∈rs,ZoO r)(hn:rs.length<=10):∃ss:List T,ss.length=w+rs.length/\Zdg [.t (.int w),.t (.lst (rs.map rowT)),.t (.int f),.t (.int s)]=.ret (off (ss++[stT (nms nf w) (nms ns rs.length) rs []])) [.t (.int w),.t (.lst (rs.map rowT)),.t (.int f),.t (.int s)]:=by
 obtain⟨ss1,x5,h5,l1,f1⟩:=ZhT (s:=s) N (w:=(w:Int)) (dl:=.lst (rs.map rowT)) w 0 [] .e (.inl rfl) (by omega) rfl
 rw[Nat.zero_add] at l1 f1
 obtain⟨ss2,y5,y6,y7,l2,f2⟩:=ZhU N M hw hr hsm hn rs.length 0 ss1 x5 .e .e h5 (.inl rfl) (.inl rfl) (by omega) (by omega)
 rw[Nat.zero_add,Nat.add_zero,List.take_length] at *
 refine⟨ss2,l2,?_⟩
 have nw:w<1000000:=by omega
 have nr:rs.length<1000000:=by omega
 unfold Zdg runF Zdf
 rw[show Zbx 8 [.t (.int w),.t (.lst (rs.map rowT)),.t (.int f),.t (.int s)]=[.v (.t (.int w)),.v (.t (.lst (rs.map rowT))),.v (.t (.int f)),.v (.t (.int s)),.e,.e,.e,.e] from rfl]
 rw[ZaQ (σ1:=oE w (.lst (rs.map rowT)) f s ([]++[stT (nms nf 0) [] [] []]) .e .e .e) (by simp_arith[Zqd])]
 rw[ZaQ (σ1:=oE w (.lst (rs.map rowT)) f s (ss1++[stT (nms nf w) [] [] []]) x5 .e .e) (by
  have b2:(ZbC (eVar 0):SI) (oE w (.lst (rs.map rowT)) f s ([]++[stT (nms nf 0) [] [] []]) .e .e .e)=.ok (rngT 0 w) (oE w (.lst (rs.map rowT)) f s ([]++[stT (nms nf 0) [] [] []]) .e .e .e):=by
   unfold oE
   simp_arith[nw]
  show Out.th _ _=_
  rw[b2,ZgB,List.range_eq_range']
  exact f1)]
 rw[ZaQ (σ1:=oE w (.lst (rs.map rowT)) f s (ss2++[stT (nms nf w) (nms ns rs.length) rs []]) y5 y6 y7) (by
  have b2:(ZbC (e1 oLen (eVar 1)):SI) (oE w (.lst (rs.map rowT)) f s (ss1++[stT (nms nf w) [] [] []]) x5 .e .e)=.ok (rngT 0 rs.length) (oE w (.lst (rs.map rowT)) f s (ss1++[stT (nms nf w) [] [] []]) x5 .e .e):=by
   unfold oE
   simp_arith[nr]
  show Out.th _ _=_
  rw[b2,ZgB,List.range_eq_range']
  exact f2)]
 unfold oE
 simp_arith[eMov]
end
theorem ZeR{c:ST}{f g:SS}{σ σ1:Env'}{k:Bool}(h:c σ=.ok k σ1):sIf c f g σ=if k=true then f σ1 else g σ1:=by
 unfold sIf
 rw[h]
 rfl
theorem ZoQ{f:ST}{σ σ1:Env'}{k:Bool}(h:f σ=.ok k σ1):sNot f σ=.ok (!k) σ1:=by
 unfold sNot
 rw[h]
 rfl
theorem Zd9{f:SE}{k:D->Env'->Option Env'}{σ σ1 σ2:Env'}{d:D}(h:f σ=.ok d σ1)(hk:k d σ1=some σ2):sAsg f k σ=.next σ2:=by
 unfold sAsg
 rw[h]
 show(match k d σ1 with | some σ2=>OutS.next σ2 | none=>OutS.bad)=_
 rw[hk]
theorem ZoR{f:SE}{σ σ1:Env'}{d:D}(h:f σ=.ok d σ1):eFrz f σ=.ok (.t (frz d)) σ1:=by
 unfold eFrz
 rw[h]
 rfl
theorem Zej{f:SE}{r:SA}{σ σ1 σ2:Env'}{d:D}{ds:List D}(h:f σ=.ok d σ1)(hr:r σ1=.ok ds σ2):Zad f r σ=.ok (d :: ds) σ2:=by
 unfold Zad
 rw[h]
 show Out.bnd (r σ1) _=_
 rw[hr]
 rfl
theorem ZoS{n:Nat}{F:List D->FO}{io:List (Option Nat)}{fa:SA}{σ σ1 σ2:Env'}{d:D}{ds ds':List D}(h:fa σ=.ok ds σ1)(hn:ds.length=n)(hF:F ds=.ret d ds')(hw:wb io ds' σ1=some σ2):Zaw n F io fa σ=.ok d σ2:=by
 unfold Zaw
 rw[h]
 show(if ds.length=n then _ else _)=_
 rw[if_pos hn,hF]
 show(match wb io ds' σ1 with | some σ2=>Out.ok d σ2 | none=>Out.bad)=_
 rw[hw]
theorem cs_t{k:D->Env'->Option Env'}{ft:ST}{fe:SE}{t:T}{ts:List T}{σ σ1 σ2 σ3:Env'}{d:D}{ds:List D}(h1:k (.t t) σ=some σ1)(h2:ft σ1=.ok true σ2)(h3:fe σ2=.ok d σ3)(h4:Zbk k ft fe ts σ3=some ds):Zbk k ft fe (t :: ts) σ=some (d :: ds):=by
 rw[Zbk,h1]
 dsimp only[Option.bind_some]
 rw[h2]
 dsimp only
 rw[h3]
 dsimp only
 rw[h4]
 rfl
theorem cs_f{k:D->Env'->Option Env'}{ft:ST}{fe:SE}{t:T}{ts:List T}{σ σ1 σ2:Env'}{ds:List D}(h1:k (.t t) σ=some σ1)(h2:ft σ1=.ok false σ2)(h4:Zbk k ft fe ts σ2=some ds):Zbk k ft fe (t :: ts) σ=some ds:=by
 rw[Zbk,h1]
 dsimp only[Option.bind_some]
 rw[h2]
 exact h4
theorem Zfe{fi:SI}{k:D->Env'->Option Env'}{b:SS}{σ σ1:Env'}{ts:List T}{o:OutS}(h:fi σ=.ok ts σ1)(hk:forS k b ts σ1=o):sFor fi k b σ=o:=by
 show Out.th _ _=_
 rw[h]
 exact hk
theorem Zld{L:List Int}{v:Int}(h0:0<L.length):∃y,y∈L/\L[(v % L.length).toNat]? = some y/\oIx (.lst (L.map .int)) (.int (v % L.length))=some (.t (.int y)):=by
 have q0:=Int.emod_nonneg v (show(L.length:Int)≠0 by omega)
 have q1:=Int.emod_lt_of_pos v (show(0:Int)<L.length by omega)
 obtain⟨k,hk⟩:=Int.eq_ofNat_of_zero_le q0
 have hkl:k<L.length:=by omega
 refine⟨L[k],List.getElem_mem _,?_,?_⟩
 · rw[hk];simp[hkl]
 · rw[hk,Zdl];refine Eq.trans (congrArg _ DL.atI_nat) ?_;simp[hkl]
theorem ZiX:∀(a b:List Int) (x y:Sl),okX x->okX y->Zbk (kTup Zbp 2 (Zay (Zag 0) (Zay (Zag 1) Zcc))) Zbl (e2 oSub (e1 oNeg (eVar 0)) (eVar 1)) (List.zipWith (fun x y=>.tup [x,y]) (a.map .int) (b.map .int)) [x,y]=some (((List.zipWith (fun x y=>-x - y) a b).map T.int).map D.t)
 | [],_,_,_,_,_=>rfl
 | _ :: _,[],_,_,_,_=>rfl
 | u :: a,v :: b,x,y,hx,hy=>by
  have ih:=ZiX a b (.v (.t (.int u))) (.v (.t (.int v))) (.inr ⟨_,rfl⟩) (.inr ⟨_,rfl⟩)
  have k1:kTup Zbp 2 (Zay (Zag 0) (Zay (Zag 1) Zcc)) (.t (.tup [.int u,.int v])) [x,y]=some [.v (.t (.int u)),.v (.t (.int v))]:=by
   rcases hx with rfl | ⟨d,rfl⟩<;>rcases hy with rfl | ⟨d',rfl⟩<;>simp[kTup,Zbp,Zay,Zcc,Zag]
  exact cs_t k1 rfl (by simp[e2,e1,eVar,Out.bnd,Zby,Zku,ZmX]) ih
structure Wk(w:Nat)(y:Int)(rs:List (List Int)):Prop where
 l:∀i (h:i<rs.length),rs[i].length=w
 n:∀i (h:i<rs.length),In9 rs[i]
 t:y=1 -> ∀i (h:i<rs.length),i % 3≠2->In3 rs[i]
theorem Wk.more{w:Nat}{y:Int}{rs:List (List Int)}{r:List Int}(W:Wk w y rs)(h1:r.length=w)(h2:In9 r)(h3:y=1->rs.length % 3≠2->In3 r):Wk w y (rs++[r]):=by
 have key:∀{p:Nat->List Int->Prop},(∀i (h:i<rs.length),p i rs[i])->p rs.length r -> ∀i (h:i<(rs++[r]).length),p i (rs++[r])[i]:=fun a b i h=>by
  rw[List.getElem_append]
  split
  · exact a i ‹_›
  · simp at h
    have:i=rs.length:=by omega
    subst this
    simpa using b
 exact⟨key (p:=fun _ r=>r.length=w) W.l h1,key (p:=fun _ r=>In9 r) W.n h2,fun q=>key (p:=fun i r=>i % 3≠2->In3 r) (W.t q) (h3 q)⟩
abbrev wE(sc:List Int)(y:Int)(t:Bool)(w m:Int)(rs:List (List Int))(x6 x7 x8:Sl):Env':=[.v (.t (.scr sc)),.v (.t (.int y)),.v (.t (.bl t)),.v (.t (.int w)),.v (.t (.int m)),.v (.lst ((rs.map rowT).map .t)),x6,x7,x8]
abbrev wB1:SS:=sAsg (Zaw 2 ZaT [none,none] (Zad (eVar 0) (Zad (eFrz (e2 oAdd (eC (.int 3)) (eVar 6))) aNil))) (Zag 7)
abbrev wB2:SS:=sAsg (Zaw 3 Zc6 [none,none,none] (Zad (eFrz (e2 oAdd (eVar 7) (e2 oIx (eLst (Zad (eC (.int 0)) (Zad (e2 oMul (eC (.int 977)) (eVar 6)) aNil))) (e1 oInt (eB oGt (eVar 1) (eC (.int 0))))))) (Zad (eVar 3) (Zad (eVar 1) aNil)))) (Zag 8)
abbrev wB3:SS:=sIf (sAnd (sT (eVar 2)) (sT (eB oEq (e2 oMod (eVar 6) (eC (.int 3))) (eC (.int 2))))) (sAsg (ZcB (Zbh (Zek (e2 oIx (eVar 5) (e2 oSub (eVar 6) (eC (.int 1)))) (e2 oIx (eVar 5) (e2 oSub (eVar 6) (eC (.int 2))))) [none,none] (kTup Zbp 2 (Zay (Zag 0) (Zay (Zag 1) Zcc))) Zbl (e2 oSub (e1 oNeg (eVar 0)) (eVar 1)))) (Zag 8)) ZaS
abbrev wB:SS:=sSeq wB1 (sSeq wB2 (sSeq wB3 (sApp 5 (eFrz (eVar 8)))))
section
variable{sc:List Int}{y:Int}{t:Bool}{w:Nat}{m:Int}
theorem Zqr{rs:List (List Int)}{x7 x8:Sl}(hw:w<=100)(ht:t=true->y=1)(W:Wk w y rs)(hn:rs.length<1000)(h7:okX x7)(h8:okX x8):∃r x7' x8',okX x7'/\okX x8'/\Wk w y (rs++[r])/\wB (wE sc y t w m rs (.v (.t (.int rs.length))) x7 x8)=.next (wE sc y t w m (rs++[r]) (.v (.t (.int rs.length))) x7' x8'):=by
 obtain⟨c,ec⟩:=l_at sc (3+rs.length)
 rw[show((3+rs.length:Nat):Int)=3+(rs.length:Int) by omega] at ec
 have s1:wB1 (wE sc y t w m rs (.v (.t (.int rs.length))) x7 x8)=.next (wE sc y t w m rs (.v (.t (.int rs.length))) (.v (.t (.int c))) x8):=by
  unfold wB1 wE
  rcases h7 with rfl | ⟨d,rfl⟩<;>simp_arith[ec]
 obtain⟨u,eu⟩:∃u:Int,(e2 oAdd (eVar 7) (e2 oIx (eLst (Zad (eC (.int 0)) (Zad (e2 oMul (eC (.int 977)) (eVar 6)) aNil))) (e1 oInt (eB oGt (eVar 1) (eC (.int 0)))))) (wE sc y t w m rs (.v (.t (.int rs.length))) (.v (.t (.int c))) x8)=.ok (.t (.int u)) (wE sc y t w m rs (.v (.t (.int rs.length))) (.v (.t (.int c))) x8):=by
  have a1:oMul (.int 977) (.int rs.length)=some (.t (.int (977*rs.length))):=Zge (by omega)
  have it:∀p:Bool,oInt (.bl p)=some (.t (.int (if p then 1 else 0))):=fun p=>rfl
  by_cases hy:0<y
  · have ix:oIx (.lst [.int 0,.int (977*rs.length)]) (.int 1)=some (.t (.int (977*rs.length))):=rfl
    exact⟨_,by unfold wE;simp_arith[a1,it,hy,ix];rfl⟩
  · have ix:oIx (.lst [.int 0,.int (977*rs.length)]) (.int 0)=some (.t (.int 0)):=rfl
    exact⟨c,by unfold wE;simp_arith[a1,it,hy,ix]⟩
 obtain⟨xs,hl,h9,h3,ex⟩:=Zra u w y hw
 have s2:wB2 (wE sc y t w m rs (.v (.t (.int rs.length))) (.v (.t (.int c))) x8)=.next (wE sc y t w m rs (.v (.t (.int rs.length))) (.v (.t (.int c))) (.v (.lst ((xs.map .int).map .t)))):=by
  have ar:Zad (eVar 3) (Zad (eVar 1) aNil) (wE sc y t w m rs (.v (.t (.int rs.length))) (.v (.t (.int c))) x8)=.ok [.t (.int w),.t (.int y)] (wE sc y t w m rs (.v (.t (.int rs.length))) (.v (.t (.int c))) x8):=by unfold wE;simp_arith []
  refine Zd9 (ZoS (Zej (ZoR eu) ar) rfl (by rw[Zby];exact ex) rfl) ?_
  rcases h8 with rfl | ⟨d,rfl⟩<;>rfl
 have n1:rs.length<1000000:=by omega
 have fin:∀r:List Int,wB3 (wE sc y t w m rs (.v (.t (.int rs.length))) (.v (.t (.int c))) (.v (.lst ((xs.map .int).map .t))))=.next (wE sc y t w m rs (.v (.t (.int rs.length))) (.v (.t (.int c))) (.v (.lst ((r.map .int).map .t))))->wB (wE sc y t w m rs (.v (.t (.int rs.length))) x7 x8)=.next (wE sc y t w m (rs++[r]) (.v (.t (.int rs.length))) (.v (.t (.int c))) (.v (.t (rowT r)))):=fun r s3=>by
  have a1:((rs.map rowT).map D.t)++[D.t (rowT r)]=((rs++[r]).map rowT).map D.t:=by simp
  unfold wB
  rw[ZaQ s1,ZaQ s2,ZaQ s3]
  unfold wE
  simp_arith[n1,a1]
 have om:oMod (.int rs.length) (.int 3)=some (.t (.int ((rs.length:Int) % 3))):=ZbS (by decide)
 by_cases hc:t=true/\rs.length % 3=2
 · obtain⟨rfl,h2⟩:=hc
   have h2':(rs.length:Int) % 3=2:=by omega
   have hy:=ht rfl
   have i1:rs.length - 1<rs.length:=by omega
   have i2:rs.length - 2<rs.length:=by omega
   have ea:oIx (.lst (rs.map rowT)) (.int (rs.length - 1))=some (.t (rowT rs[rs.length - 1])):=by
    rw[show(rs.length:Int) - 1=((rs.length - 1:Nat):Int) by omega,Zdl,DL.atI_nat];simp[i1]
   have eb:oIx (.lst (rs.map rowT)) (.int (rs.length - 2))=some (.t (rowT rs[rs.length - 2])):=by
    rw[show(rs.length:Int) - 2=((rs.length - 2:Nat):Int) by omega,Zdl,DL.atI_nat];simp[i2]
   have t1:=W.t hy _ i1 (by omega)
   have t2:=W.t hy _ i2 (by omega)
   have l1:=W.l _ i1
   have l2:=W.l _ i2
   generalize rs[rs.length - 1]=ra at *
   generalize rs[rs.length - 2]=rb at *
   have cn:=ZiX ra rb .e .e (.inl rfl) (.inl rfl)
   have fl:=ZcU (ns:=List.zipWith (fun x y=>-x - y) ra rb)
   have n2:(List.zipWith (fun x y=>T.tup [x,y]) (ra.map .int) (rb.map .int)).length<sizeLine:=Zbv (by simp;omega)
   refine⟨List.zipWith (fun x y=>-x - y) ra rb,_,_,.inr ⟨_,rfl⟩,.inr ⟨_,rfl⟩,W.more (by simp;omega) (fun v hv=>?_) (fun _ q=>absurd h2 q),fin _ ?_⟩
   · obtain⟨i,hi,rfl⟩:=List.mem_iff_getElem.mp hv
     have hi':=hi
     rw[List.length_zipWith] at hi'
     have p1:=t1 _ (List.getElem_mem (show i<ra.length by omega))
     have p2:=t2 _ (List.getElem_mem (show i<rb.length by omega))
     simp
     omega
   · have z1:ZcB (Zbh (Zek (e2 oIx (eVar 5) (e2 oSub (eVar 6) (eC (.int 1)))) (e2 oIx (eVar 5) (e2 oSub (eVar 6) (eC (.int 2))))) [none,none] (kTup Zbp 2 (Zay (Zag 0) (Zay (Zag 1) Zcc))) Zbl (e2 oSub (e1 oNeg (eVar 0)) (eVar 1))) (wE sc y true w m rs (.v (.t (.int rs.length))) (.v (.t (.int c))) (.v (.lst ((xs.map .int).map .t))))=.ok (.lst (((List.zipWith (fun x y=>-x - y) ra rb).map T.int).map D.t)) (wE sc y true w m rs (.v (.t (.int rs.length))) (.v (.t (.int c))) (.v (.lst ((xs.map .int).map .t)))):=by
      have z0:∀q,Zek (e2 oIx (eVar 5) (e2 oSub (eVar 6) (eC (.int 1)))) (e2 oIx (eVar 5) (e2 oSub (eVar 6) (eC (.int 2)))) [.v (.t (.scr sc)),.v (.t (.int y)),.v (.t (.bl true)),.v (.t (.int w)),.v (.t (.int m)),.v (.t (.lst (rs.map rowT))),.v (.t (.int rs.length)),.v (.t (.int c)),.v (.t q)]=.ok (List.zipWith (fun x y=>.tup [x,y]) (ra.map .int) (rb.map .int)) [.v (.t (.scr sc)),.v (.t (.int y)),.v (.t (.bl true)),.v (.t (.int w)),.v (.t (.int m)),.v (.t (.lst (rs.map rowT))),.v (.t (.int rs.length)),.v (.t (.int c)),.v (.t q)]:=fun q=>by
       simp_arith[Zek,zipD,ZdZ,ea,eb]
      unfold ZcB wE Zbh
      simp only[List.map_cons,List.map_nil,seen,Zby,Zbz,z0,Out.bnd,n2,if_true,ZaC,capE,Option.map_some,cn,fl]
     have c1:sAnd (sT (eVar 2)) (sT (eB oEq (e2 oMod (eVar 6) (eC (.int 3))) (eC (.int 2)))) (wE sc y true w m rs (.v (.t (.int rs.length))) (.v (.t (.int c))) (.v (.lst ((xs.map .int).map .t))))=.ok true (wE sc y true w m rs (.v (.t (.int rs.length))) (.v (.t (.int c))) (.v (.lst ((xs.map .int).map .t)))):=by
      unfold wE
      simp_arith[om,h2']
     unfold wB3
     rw[ZeR c1,if_pos rfl]
     exact Zd9 z1 rfl
 · refine⟨xs,_,_,.inr ⟨_,rfl⟩,.inr ⟨_,rfl⟩,W.more hl h9 (fun q _=>h3 q),fin _ ?_⟩
   unfold wB3 wE
   cases t with
   | false=>simp_arith []
   | true=>
    have:¬(rs.length:Int) % 3=2:=fun q=>hc ⟨rfl,by omega⟩
    simp_arith[om,this]
theorem Zm6(hw:w<=100)(ht:t=true->y=1):∀(n:Nat) (rs:List (List Int)) (x6 x7 x8:Sl),okX x6->okX x7->okX x8->Wk w y rs->rs.length+n<=100 -> ∃rs' x6' x7' x8',Wk w y rs'/\rs'.length=rs.length+n/\forS (Zag 6) wB ((List.range' rs.length n).map fun (i:Nat)=>T.int (i:Int)) (wE sc y t w m rs x6 x7 x8)=.next (wE sc y t w m rs' x6' x7' x8')
 | 0,rs,x6,x7,x8,_,_,_,W,_=>⟨rs,x6,x7,x8,W,rfl,rfl⟩
 | n+1,rs,x6,x7,x8,h6,h7,h8,W,hn=>by
  obtain⟨r,y7,y8,g7,g8,W1,b1⟩:=Zqr (sc:=sc) (m:=m) hw ht W (by omega) h7 h8
  obtain⟨rs',x6',x7',x8',W2,l2,ih⟩:=Zm6 hw ht n (rs++[r]) (.v (.t (.int rs.length))) y7 y8 (.inr ⟨_,rfl⟩) g7 g8 W1 (by simp;omega)
  refine⟨rs',x6',x7',x8',W2,by rw[l2];simp;omega,?_⟩
  have k1:Zag 6 (.t (.int rs.length)) (wE sc y t w m rs x6 x7 x8)=some (wE sc y t w m rs (.v (.t (.int rs.length))) x7 x8):=by rcases h6 with rfl | ⟨d,rfl⟩<;>rfl
  rw[List.range'_succ,List.map_cons,forS,k1]
  dsimp only
  rw[b1]
  rw[List.length_append] at ih
  exact ih
end
theorem ZoT(sc:List Int):∃(w:Nat) (rs:List (List Int)),w<=6/\rs.length<=10/\(∀r∈rs,r.length=w)/\(∀r∈rs,In9 r)/\ZdE [.t (.scr sc)]=.ret (.lst [.t (.int w),.lst ((rs.map rowT).map .t)]) [.t (.scr sc)]:=by
 obtain⟨v0,a0⟩:=l_at sc 0
 obtain⟨v1,a1⟩:=l_at sc 1
 obtain⟨v2,a2⟩:=l_at sc 2
 simp only[Int.natCast_zero,Int.cast_ofNat_Int] at a0 a1 a2
 obtain⟨y,_,gy,ey⟩:=Zld (L:=[0,1,0,2,0,3,0,1]) (v:=v0) (by decide)
 obtain⟨w',hw',_,ew⟩:=Zld (L:=[2,3,1,2,4,3,0,5,2,6,3,1]) (v:=v1) (by decide)
 obtain⟨m',hm',_,em⟩:=Zld (L:=[4,5,6,5,3,6,7,4,5,6,2,8,1,0,9,10]) (v:=v2) (by decide)
 obtain⟨w,hw,rfl⟩:∃w:Nat,w<=6/\w'=(w:Int):=⟨w'.toNat,(show ∀w'∈([2,3,1,2,4,3,0,5,2,6,3,1]:List Int),w'.toNat<=6/\w'=(w'.toNat:Int) by decide) w' hw'⟩
 obtain⟨m,hm,rfl⟩:∃m:Nat,m<=10/\m'=(m:Int):=⟨m'.toNat,(show ∀w'∈([4,5,6,5,3,6,7,4,5,6,2,8,1,0,9,10]:List Int),w'.toNat<=10/\w'=(w'.toNat:Int) by decide) m' hm'⟩
 have hy:decide (v0 % 8=7)=true->y=1:=fun q=>by
  have q':v0 % 8=7:=by simpa using q
  rw[show(([0,1,0,2,0,3,0,1]:List Int).length:Int)=8 from rfl,q'] at gy
  exact(Option.some.inj gy).symm
 replace ey:oIx (.lst [T.int 0,T.int 1,T.int 0,T.int 2,T.int 0,T.int 3,T.int 0,T.int 1]) (.int (v0 % 8))=_:=ey
 have o0:oMod (.int v0) (.int 8)=some (.t (.int (v0 % 8))):=ZbS (by decide)
 replace ew:oIx (.lst [T.int 2,T.int 3,T.int 1,T.int 2,T.int 4,T.int 3,T.int 0,T.int 5,T.int 2,T.int 6,T.int 3,T.int 1]) (.int (v1 % 12))=_:=ew
 have o1:oMod (.int v1) (.int 12)=some (.t (.int (v1 % 12))):=ZbS (by decide)
 replace em:oIx (.lst [T.int 4,T.int 5,T.int 6,T.int 5,T.int 3,T.int 6,T.int 7,T.int 4,T.int 5,T.int 6,T.int 2,T.int 8,T.int 1,T.int 0,T.int 9,T.int 10]) (.int (v2 % 16))=_:=em
 have o2:oMod (.int v2) (.int 16)=some (.t (.int (v2 % 16))):=ZbS (by decide)
 obtain⟨rs,x6,x7,x8,W,l,f⟩:=Zm6 (sc:=sc) (y:=y) (t:=decide (v0 % 8=7)) (w:=w) (m:=(m:Int)) (by omega) hy m [] .e .e .e (.inl rfl) (.inl rfl) (.inl rfl) ⟨fun i h=>by simp at h,fun i h=>by simp at h,fun _ i h=>by simp at h⟩ (by simp;omega)
 simp only[List.length_nil,Nat.zero_add] at l f
 refine⟨w,rs,hw,by omega,fun r hr=>?_,fun r hr=>?_,?_⟩
 · obtain⟨i,hi,rfl⟩:=List.mem_iff_getElem.mp hr
   exact W.l i hi
 · obtain⟨i,hi,rfl⟩:=List.mem_iff_getElem.mp hr
   exact W.n i hi
 · unfold ZdE runF ZdD
   rw[show Zbx 9 [.t (.scr sc)]=[.v (.t (.scr sc)),.e,.e,.e,.e,.e,.e,.e,.e] from rfl]
   rw[ZaQ (σ1:=[.v (.t (.scr sc)),.v (.t (.int y)),.e,.e,.e,.e,.e,.e,.e]) (by
    simp_arith[a0,o0,ey])]
   rw[ZaQ (σ1:=[.v (.t (.scr sc)),.v (.t (.int y)),.v (.t (.bl (decide (v0 % 8=7)))),.e,.e,.e,.e,.e,.e]) (by simp_arith[a0,o0])]
   rw[ZaQ (σ1:=[.v (.t (.scr sc)),.v (.t (.int y)),.v (.t (.bl (decide (v0 % 8=7)))),.v (.t (.int w)),.e,.e,.e,.e,.e]) (by
    simp_arith[a1,o1,ew])]
   rw[ZaQ (σ1:=[.v (.t (.scr sc)),.v (.t (.int y)),.v (.t (.bl (decide (v0 % 8=7)))),.v (.t (.int w)),.v (.t (.int m)),.e,.e,.e,.e]) (by
    simp_arith[a2,o2,em])]
   rw[ZaQ (σ1:=wE sc y (decide (v0 % 8=7)) w m [] .e .e .e) (by simp_arith [])]
   rw[ZaQ (σ1:=wE sc y (decide (v0 % 8=7)) w m rs x6 x7 x8) (by
    have n1:m<1000000:=by omega
    have b1:(ZbC (eVar 4):SI) (wE sc y (decide (v0 % 8=7)) w m [] .e .e .e)=.ok (rngT 0 m) (wE sc y (decide (v0 % 8=7)) w m [] .e .e .e):=by unfold wE;simp_arith[n1]
    show Out.th _ _=_
    rw[b1,ZgB,List.range_eq_range']
    exact f)]
   unfold wE
   simp_arith[eMov]
abbrev intN(is:List Nat):List T:=is.map fun (i:Nat)=>T.int (i:Int)
def mkd(ms:List Int)(k:Nat):Bool:=decide (ms.getD k 0=3)
abbrev Zfw(ms:List Int)(n:Nat):List Nat:=(List.range n).filter fun k=>!mkd ms k
abbrev ZcS(ms:List Int)(ns:Int->Str)(n:Nat):List Str:=((List.range n).filter fun k=>mkd ms k).map fun (i:Nat)=>ns (i:Int)
theorem Zle{ms:List Int}:∀(is:List Nat) (x:Sl),okX x->(∀i∈is,i<ms.length)->Zbk (Zag 0) (sT (eB oNe (e2 oIx (eVar 1) (eVar 0)) (eC (.int 3)))) (eVar 0) (intN is) [x,.v (.t (.lst (ms.map .int)))]=some ((intN (is.filter fun k=>!mkd ms k)).map D.t)
 | [],_,_,_=>rfl
 | i :: is,x,hx,h=>by
  have ih:=Zle (ms:=ms) is (.v (.t (.int i))) (.inr ⟨_,rfl⟩) fun j hj=>h j (.tail _ hj)
  have hi:=h i (.head _)
  have k1:Zag 0 (.t (.int i)) [x,.v (.t (.lst (ms.map .int)))]=some [.v (.t (.int i)),.v (.t (.lst (ms.map .int)))]:=by rcases hx with rfl | ⟨d,rfl⟩<;>rfl
  have e1:oIx (.lst (ms.map .int)) (.int i)=some (.t (.int (ms.getD i 0))):=by rw[Zdl,DL.atI_nat];simp[hi]
  have b1:sT (eB oNe (e2 oIx (eVar 1) (eVar 0)) (eC (.int 3))) [.v (.t (.int i)),.v (.t (.lst (ms.map .int)))]=.ok (!mkd ms i) [.v (.t (.int i)),.v (.t (.lst (ms.map .int)))]:=by
   unfold mkd
   generalize ms.getD i 0=g at e1
   simp_arith[e1]
  cases q:mkd ms i with
  | true=>
   rw[q] at b1
   rw[List.filter_cons_of_neg (by simp[q])]
   exact cs_f k1 b1 ih
  | false=>
   rw[q] at b1
   rw[List.filter_cons_of_pos (by simp[q])]
   exact cs_t k1 b1 (by simp_arith []) ih
theorem Zin{s:Int}{ns:Int->Str}(M:Nm s ns):∀(is:List Nat) (x:Sl),okX x->Zbk (Zag 0) Zbl (Zaw 2 ZaI [none,none] (Zad (eVar 1) (Zad (eVar 0) aNil))) (intN is) [x,.v (.t (.int s))]=some (((is.map fun (i:Nat)=>ns (i:Int)).map T.str).map D.t)
 | [],_,_=>rfl
 | i :: is,x,hx=>by
  have ih:=Zin M is (.v (.t (.int i))) (.inr ⟨_,rfl⟩)
  have k1:Zag 0 (.t (.int i)) [x,.v (.t (.int s))]=some [.v (.t (.int i)),.v (.t (.int s))]:=by rcases hx with rfl | ⟨d,rfl⟩<;>rfl
  have en:=M.e (i:Int)
  exact cs_t k1 rfl (by simp_arith[en]) ih
theorem Zm7{rs:List (List Int)}:∀(is:List Nat) (x:Sl),okX x->(∀i∈is,i<rs.length)->Zbk (Zag 0) Zbl (e2 oIx (eVar 1) (eVar 0)) (intN is) [x,.v (.t (.lst (rs.map rowT)))]=some (((is.map fun i=>rs.getD i []).map rowT).map D.t)
 | [],_,_,_=>rfl
 | i :: is,x,hx,h=>by
  have ih:=Zm7 (rs:=rs) is (.v (.t (.int i))) (.inr ⟨_,rfl⟩) fun j hj=>h j (.tail _ hj)
  have hi:=h i (.head _)
  have k1:Zag 0 (.t (.int i)) [x,.v (.t (.lst (rs.map rowT)))]=some [.v (.t (.int i)),.v (.t (.lst (rs.map rowT)))]:=by rcases hx with rfl | ⟨d,rfl⟩<;>rfl
  have e1:oIx (.lst (rs.map rowT)) (.int i)=some (.t (rowT (rs.getD i []))):=by rw[Zdl,DL.atI_nat];simp[hi]
  exact cs_t k1 rfl (by simp_arith[e1]) ih
def ZaE(sh ds:List Str):List Str:=ds.filter fun d=>!decide (d∈sh)
def Zau(sh ds:List Str)(rs:List (List Int)):List (List Int):=((ds.zip rs).filter fun p=>!decide (p.1∈sh)).map Prod.snd
section
variable{s:Int}{ns:Int->Str}{ms:List Int}{n:Nat}
theorem Zio(M:Nm s ns)(hn:n<=26){k:Nat}(hk:k<26):ns (k:Int)∈ZcS ms ns n ↔ k<n/\mkd ms k=true:=by
 constructor
 · intro h
   obtain⟨i,hi,e⟩:=List.mem_map.mp h
   obtain⟨h1,h2⟩:=List.mem_filter.mp hi
   have h1':=List.mem_range.mp h1
   have:=M.inj i k (by omega) (by omega) (by omega) (by omega) e
   have:i=k:=by omega
   subst this
   exact⟨h1',h2⟩
 · intro h
   exact List.mem_map.mpr ⟨k,List.mem_filter.mpr ⟨List.mem_range.mpr h.1,h.2⟩,rfl⟩
theorem Zqs(M:Nm s ns)(hn:n<=26):(Zfw ms n).map (fun (i:Nat)=>ns (i:Int))=ZaE (ZcS ms ns n) (nms ns n):=by
 unfold ZaE nms
 rw[List.filter_map]
 congr 1
 refine List.filter_congr fun k hk=>?_
 have hk':=List.mem_range.mp hk
 have:=Zio (ms:=ms) M hn (k:=k) (by omega)
 simp only[Function.comp]
 congr 1
 cases q:mkd ms k with
 | true=>exact(decide_eq_true (this.mpr ⟨hk',q⟩)).symm
 | false=>exact(decide_eq_false fun z=>by have:=(this.mp z).2;rw[q] at this;cases this).symm
theorem Zqt(M:Nm s ns){rs:List (List Int)}(hl:rs.length=n)(hn:n<=26):(Zfw ms n).map (fun i=>rs.getD i [])=Zau (ZcS ms ns n) (nms ns n) rs:=by
 have hz:(nms ns n).zip rs=(List.range n).map fun (k:Nat)=>(ns (k:Int),rs.getD k []):=by
  refine List.ext_getElem (by simp[hl]) fun i h1 h2=>?_
  have:i<rs.length:=by simp at h2;omega
  simp[this]
 unfold Zau
 rw[hz,List.filter_map,List.map_map]
 have:(Zfw ms n)=List.filter ((fun p:Str×List Int=>!decide (p.1∈ZcS ms ns n))∘fun (k:Nat)=>(ns (k:Int),rs.getD k [])) (List.range n):=by
  refine List.filter_congr fun k hk=>?_
  have hk':=List.mem_range.mp hk
  have:=Zio (ms:=ms) M hn (k:=k) (by omega)
  simp only[Function.comp]
  congr 1
  cases q:mkd ms k with
  | true=>exact(decide_eq_true (this.mpr ⟨hk',q⟩)).symm
  | false=>exact(decide_eq_false fun z=>by have:=(this.mp z).2;rw[q] at this;cases this).symm
 rw[this]
 rfl
end
section
variable{sc:List Int}{w:Nat}{rs:List (List Int)}{f s:Int}{nf ns:Int->Str}{ms:List Int}{x8:Sl}
abbrev stE(sc:List Int)(w:Nat)(rs:List (List Int))(f s:Int)(o:List T)(ms:List Int)(x8 x9:Sl):Env':=[.v (.t (.scr sc)),.v (.t (.int 10)),.v (.t (.int w)),.v (.t (.lst (rs.map rowT))),.v (.t (.int f)),.v (.t (.int s)),.v (off o),.v (.t (.lst (ms.map .int))),x8,x9,.e]
abbrev fbB:SS:=sIf (sT (eB oEq (e2 oIx (eVar 7) (eVar 9)) (eC (.int 3)))) (Zcb (Zbs 6 "Office" "forbid" 2 ZbJ [none] (Zad (eFrz (Zaw 2 ZaI [none,none] (Zad (eVar 5) (Zad (eVar 9) aNil)))) aNil))) ZaS
theorem Zlf(M:Nm s ns){ws:List Str}{rs':List (List Int)}(hm:ms.length<=10):∀(m j:Nat) (ss:List T) (x:Sl),okX x->j+m=ms.length->ss.length<=16+j -> ∃ss' x',ss'.length<=16+ms.length /\
 forS (Zag 9) fbB (intN (List.range' j m)) (stE sc w rs f s (ss++[stT ws (nms ns ms.length) rs' (ZcS ms ns j)]) ms x8 x)=.next (stE sc w rs f s (ss'++[stT ws (nms ns ms.length) rs' (ZcS ms ns ms.length)]) ms x8 x')
 | 0,j,ss,x,hx,hj,hl=>by
  have:j=ms.length:=by omega
  subst this
  exact⟨ss,x,hl,rfl⟩
 | m+1,j,ss,x,hx,hj,hl=>by
  have hjl:j<ms.length:=by omega
  have k1:Zag 9 (.t (.int j)) (stE sc w rs f s (ss++[stT ws (nms ns ms.length) rs' (ZcS ms ns j)]) ms x8 x)=some (stE sc w rs f s (ss++[stT ws (nms ns ms.length) rs' (ZcS ms ns j)]) ms x8 (.v (.t (.int j)))):=by rcases hx with rfl | ⟨d,rfl⟩<;>rfl
  have e1:oIx (.lst (ms.map .int)) (.int j)=some (.t (.int (ms.getD j 0))):=by rw[Zdl,DL.atI_nat];simp[hjl]
  have en:=M.e (j:Int)
  suffices hh:∃ss1,ss1.length<=16+(j+1)/\fbB (stE sc w rs f s (ss++[stT ws (nms ns ms.length) rs' (ZcS ms ns j)]) ms x8 (.v (.t (.int j))))=.next (stE sc w rs f s (ss1++[stT ws (nms ns ms.length) rs' (ZcS ms ns (j+1))]) ms x8 (.v (.t (.int j)))) from by
   obtain⟨ss1,l1,b1⟩:=hh
   obtain⟨ss',x',l2,ih⟩:=Zlf M hm m (j+1) ss1 (.v (.t (.int j))) (.inr ⟨_,rfl⟩) (by omega) l1
   refine⟨ss',x',l2,?_⟩
   rw[List.range'_succ,intN,List.map_cons,forS,k1]
   dsimp only
   rw[b1]
   exact ih
  by_cases h3:ms.getD j 0=3
  · have hq:mkd ms j=true:=decide_eq_true h3
    have hS:ZcS ms ns (j+1)=ZcS ms ns j++[ns (j:Int)]:=by simp[ZcS,List.range_succ,hq]
    have e:=Zmm (ss:=ss) (ws:=ws) (ds:=nms ns ms.length) (rs:=rs') (sh:=ZcS ms ns j) (M.w (j:Int)) (by
     have:(ZcS ms ns j).length<=j:=by
      rw[ZcS,List.length_map]
      exact Nat.le_trans (List.length_filter_le _ _) (by simp)
     omega) (by omega)
    have hd:dueF (ns (j:Int)) (nms ns ms.length) (ZcS ms ns j) ss.length=none:=by
     unfold dueF
     rw[if_neg (fun z=>z (Zm5 hjl)),if_neg (fun z=>by have:=((Zio M (by omega) (by omega)).mp z).1;omega),if_neg (by omega)]
    rw[hd] at e
    refine⟨ss++[stT ws (nms ns ms.length) rs' (ZcS ms ns j)],by simp;omega,?_⟩
    rw[hS]
    clear hq hS
    generalize ms.getD j 0=g at e1 h3
    unfold fbB stE
    simp_arith[e1,h3,en,e]
  · have hq:mkd ms j=false:=decide_eq_false h3
    have hS:ZcS ms ns (j+1)=ZcS ms ns j:=by simp[ZcS,List.range_succ,hq]
    refine⟨ss,by omega,?_⟩
    rw[hS]
    clear hq hS
    generalize ms.getD j 0=g at e1 h3
    unfold fbB stE
    simp_arith[e1,h3]
end
theorem Zc7{fi:SI}{caps:List (Option Nat)}{k:D->Env'->Option Env'}{ft:ST}{fe:SE}{σ σ1 σ2 σi:Env'}{ts:List T}{ds:List D}(h:fi σ=.ok ts σ1)(hn:ts.length<sizeLine)(hf:ZaC caps σ1=some σ2)(hc:capE σ2 caps=some σi)(hd:Zbk k ft fe ts σi=some ds):Zbh fi caps k ft fe σ=.ok (.lst ds) σ2:=by
 unfold Zbh
 rw[h]
 show(if ts.length<sizeLine then _ else _)=_
 rw[if_pos hn]
 simp only[hf,hc,hd]
theorem Zgg{f:SE}{σ σ1:Env'}{n:Nat}(h:f σ=.ok (.t (.int n)) σ1)(hn:n<1000000):ZbC f σ=.ok (intN (List.range n)) σ1:=by
 unfold ZbC
 rw[h]
 show(match frz (.t (.int n)) with | .int j=>if j.natAbs<1000000 then Out.ok (rngT 0 j.toNat) σ1 else .bad | _=>.bad)=_
 rw[Zby]
 dsimp only
 rw[if_pos (by omega),Int.toNat_natCast,ZgB]
theorem ZiY{f:SE}{σ σ1:Env'}{d:D}(h:f σ=.ok d σ1):sRet f σ=.ret d σ1:=by
 unfold sRet
 rw[h]
 rfl
theorem ZoU{fa:SA}{σ σ1:Env'}{ds:List D}(h:fa σ=.ok ds σ1)(hn:ds.length<=1000):eLst fa σ=.ok (.lst ds) σ1:=by
 unfold eLst
 rw[h]
 exact if_pos hn
theorem Zgh{n:Nat}{b:SS}{ds ds':List D}{d:D}{σ:Env'}(h:b (Zbx n ds)=.ret d σ)(ho:outA ds σ=some ds'):runF n b ds=.ret d ds':=by
 unfold runF
 rw[h]
 show FO.of ((outA ds σ).map (FO.ret d))=_
 rw[ho]
 rfl
theorem Zlg{r:List Int}(h:In9 r):ZoO r:=fun v hv=>by
 obtain⟨a,b⟩:=h v hv
 unfold big
 refine decide_eq_false ?_
 split<;>omega
theorem ZoV{ts:List T}{k:Nat}(h:ts.length<=k):cutT ts none (some (k:Int))=ts:=by
 unfold cutT
 rw[HT.sIx_none,HT.sIx_nat,List.drop_zero,Nat.sub_zero,Nat.min_eq_right h,List.take_length]
theorem Zmp{ts:List T}:Zmg (.lst (ts.map .t))=some ts:=by
 unfold Zmg
 dsimp only
 rw[if_pos (by simp[tOf]),ZkA]
structure SetR(w:Nat)(ws ds:List Str)(rs:List (List Int))(sh:List Str):Prop where
 ok:Ok ws ds rs sh
 wl:ws.length=w
 ww:∀z∈ws,W z
 wd:∀z∈ds,W z
 n9:∀r∈rs,In9 r
theorem Zrb(sc:List Int):∃(w:Nat) (ws ds sh:List Str) (rs:List (List Int)) (ss:List T),SetR w ws ds rs sh/\ss.length<=100/\Zd7 [.t (.scr sc),.t (.int 10)]=.ret (.lst [.t (.int w),off (ss++[stT ws ds rs sh]),.t (.lst (ws.map .str)),.lst (((ZaE sh ds).map T.str).map D.t),.lst (((Zau sh ds rs).map rowT).map D.t)]) [.t (.scr sc),.t (.int 10)]:=by
 obtain⟨w,rs,hw,hn,hr,h9,ew⟩:=ZoT sc
 obtain⟨f,af⟩:=l_at sc 13
 obtain⟨s,as⟩:=l_at sc 14
 obtain⟨g,ag⟩:=l_at sc 15
 simp only[Int.cast_ofNat_Int] at af as ag
 obtain⟨nf,N⟩:=names f
 obtain⟨ns,M⟩:=names s
 obtain⟨ss0,l0,eo⟩:=Zmo N M hw hr (fun r h=>Zlg (h9 r h)) hn
 obtain⟨ms,lm,hm,em⟩:=Zg5 g rs.length 4 (decide (f % 2=1)) (by decide) (by decide) (by omega)
 have O:=Zlc (j:=rs.length) N M hw hr hn (Nat.le_refl _)
 rw[List.take_length] at O
 rw[<- lm] at O
 have o2:oMod (.int f) (.int 2)=some (.t (.int (f % 2))):=ZbS (by decide)
 have z1:=Zle (ms:=ms) (List.range ms.length) .e (.inl rfl) (fun i hi=>List.mem_range.mp hi)
 obtain⟨ss,x9,ls,fb⟩:=Zlf (ms:=ms) (sc:=sc) (w:=w) (rs:=rs) (f:=f) (x8:=.v (.lst ((intN (Zfw ms ms.length)).map .t))) M (ws:=nms nf w) (rs':=rs) (by omega) ms.length 0 ss0 .e (.inl rfl) (by omega) (by omega)
 have z2:=Zin N (List.range w) .e (.inl rfl)
 replace z2:Zbk (Zag 0) Zbl (Zaw 2 ZaI [none,none] (Zad (eVar 1) (Zad (eVar 0) aNil))) (intN (List.range w)) [.e,.v (.t (.int f))]=some (((nms nf w).map T.str).map D.t):=z2
 have z3:=Zin M (Zfw ms ms.length) .e (.inl rfl)
 have z4:=Zm7 (rs:=rs) (Zfw ms ms.length) .e (.inl rfl) (fun i hi=>by have:=List.mem_range.mp (List.mem_filter.mp hi).1;omega)
 rw[Zqs M (by omega)] at z3
 rw[Zqt M (rs:=rs) (by omega) (by omega)] at z4
 have nl:rs.length<1000000:=by omega
 have nw:w<1000000:=by omega
 have lf:(Zfw ms ms.length).length<=10:=Nat.le_trans (List.length_filter_le _ _) (by simp;omega)
 have nv:(intN (Zfw ms ms.length)).length<sizeLine:=Zbv (by rw[List.length_map];omega)
 refine⟨w,nms nf w,nms ns ms.length,ZcS ms ns ms.length,rs,ss,⟨⟨O.lr,O.lw,O.nw,O.nd,O.w6,O.d10,fun z hz=>?_⟩,by simp,ZoM N,ZoM M,h9⟩,by omega,?_⟩
 · obtain⟨i,hi,rfl⟩:=List.mem_map.mp hz
   exact Zm5 (List.mem_range.mp (List.mem_filter.mp hi).1)
 · unfold Zd7 ZeL
   refine Zgh (σ:=[.v (.t (.scr sc)),.v (.t (.int 10)),.v (.t (.int w)),.v (.t (.lst (rs.map rowT))),.v (.t (.int f)),.v (.t (.int s)),.e,.v (.t (.lst (ms.map .int))),.v (.t (.lst (intN (Zfw ms ms.length)))),x9,.v (.t (.lst ((nms nf w).map T.str)))]) ?_ (by simp_arith [])
   rw[show Zbx 11 [.t (.scr sc),.t (.int 10)]=[.v (.t (.scr sc)),.v (.t (.int 10)),.e,.e,.e,.e,.e,.e,.e,.e,.e] from rfl]
   rw[ZaQ (σ1:=[.v (.t (.scr sc)),.v (.t (.int 10)),.v (.t (.int w)),.v (.lst ((rs.map rowT).map .t)),.e,.e,.e,.e,.e,.e,.e]) (by simp_arith[ew])]
   rw[ZaQ (σ1:=[.v (.t (.scr sc)),.v (.t (.int 10)),.v (.t (.int w)),.v (.lst ((rs.map rowT).map .t)),.e,.e,.e,.e,.e,.e,.e]) (by
    have c1:cutT (rs.map rowT) none (some 10)=rs.map rowT:=ZoV (k:=10) (by simpa using hn)
    have c2:=Zmp (ts:=rs.map rowT)
    simp_arith[Zmh,bVar,pB,Sl.get,c1,c2])]
   rw[ZaQ (σ1:=[.v (.t (.scr sc)),.v (.t (.int 10)),.v (.t (.int w)),.v (.lst ((rs.map rowT).map .t)),.v (.t (.int f)),.e,.e,.e,.e,.e,.e]) (by simp_arith[af])]
   rw[ZaQ (σ1:=[.v (.t (.scr sc)),.v (.t (.int 10)),.v (.t (.int w)),.v (.lst ((rs.map rowT).map .t)),.v (.t (.int f)),.v (.t (.int s)),.e,.e,.e,.e,.e]) (by simp_arith[as])]
   rw[ZaQ (σ1:=[.v (.t (.scr sc)),.v (.t (.int 10)),.v (.t (.int w)),.v (.t (.lst (rs.map rowT))),.v (.t (.int f)),.v (.t (.int s)),.v (off (ss0++[stT (nms nf w) (nms ns rs.length) rs []])),.e,.e,.e,.e]) (by simp_arith[eo])]
   rw[<- lm] at em nl ⊢
   rw[ZaQ (σ1:=[.v (.t (.scr sc)),.v (.t (.int 10)),.v (.t (.int w)),.v (.t (.lst (rs.map rowT))),.v (.t (.int f)),.v (.t (.int s)),.v (off (ss0++[stT (nms nf w) (nms ns ms.length) rs []])),.v (.t (.lst (ms.map .int))),.e,.e,.e]) (by
    rw[lm] at em
    simp_arith[ag,af,o2,em])]
   have rg:∀x8 x9,ZbC (e1 oLen (eVar 3)) (stE sc w rs f s (ss0++[stT (nms nf w) (nms ns ms.length) rs []]) ms x8 x9)=.ok (intN (List.range ms.length)) (stE sc w rs f s (ss0++[stT (nms nf w) (nms ns ms.length) rs []]) ms x8 x9):=fun x8 x9=>Zgg (by unfold stE;simp_arith[lm]) nl
   have fz1:∀o x8 x9,ZaC [none,some 7] (stE sc w rs f s o ms x8 x9)=some (stE sc w rs f s o ms x8 x9):=fun o x8 x9=>by unfold stE;simp[ZaC,Zby]
   have fz2:∀o x8 x9,ZaC [none,some 4] (stE sc w rs f s o ms x8 x9)=some (stE sc w rs f s o ms x8 x9):=fun o x8 x9=>by unfold stE;simp[ZaC,Zby]
   have rg2:∀o x8 x9,ZbC (eVar 2) (stE sc w rs f s o ms x8 x9)=.ok (intN (List.range w)) (stE sc w rs f s o ms x8 x9):=fun o x8 x9=>Zgg (by unfold stE;simp_arith []) nw
   rw[ZaQ (σ1:=stE sc w rs f s (ss0++[stT (nms nf w) (nms ns ms.length) rs []]) ms (.v (.lst ((intN (Zfw ms ms.length)).map .t))) .e) (Zd9 (Zc7 (rg .e .e) (Zbv (by simp;omega)) (fz1 _ _ _) rfl z1) rfl)]
   rw[ZaQ (σ1:=stE sc w rs f s (ss++[stT (nms nf w) (nms ns ms.length) rs (ZcS ms ns ms.length)]) ms (.v (.lst ((intN (Zfw ms ms.length)).map .t))) x9) (Zfe (rg _ _) (by rw[List.range_eq_range'];exact fb))]
   rw[ZaQ (Zd9 (Zc7 (rg2 _ _ _) (Zbv (by simp;omega)) (fz2 _ _ _) rfl z2) rfl)]
   generalize ZcS ms ns ms.length=sh at *
   generalize nms nf w=ws at *
   generalize nms ns ms.length=ds at *
   generalize Zfw ms ms.length=lv at *
   have s0:∀x10,sRet (eLst (Zad (eVar 2) (Zad (eMov 6) (Zad (eVar 10) (Zad (Zbh (iLst (eVar 8)) [none,some 5] (Zag 0) Zbl (Zaw 2 ZaI [none,none] (Zad (eVar 1) (Zad (eVar 0) aNil)))) (Zad (Zbh (iLst (eVar 8)) [none,some 3] (Zag 0) Zbl (e2 oIx (eVar 1) (eVar 0))) aNil)))))) [.v (.t (.scr sc)),.v (.t (.int 10)),.v (.t (.int w)),.v (.t (.lst (rs.map rowT))),.v (.t (.int f)),.v (.t (.int s)),.v (off (ss++[stT ws ds rs sh])),.v (.t (.lst (ms.map .int))),.v (.lst ((intN lv).map .t)),x10,.v (.lst ((ws.map T.str).map D.t))]=.ret (.lst [.t (.int w),off (ss++[stT ws ds rs sh]),.t (.lst (ws.map .str)),.lst (((ZaE sh ds).map T.str).map D.t),.lst (((Zau sh ds rs).map rowT).map D.t)]) [.v (.t (.scr sc)),.v (.t (.int 10)),.v (.t (.int w)),.v (.t (.lst (rs.map rowT))),.v (.t (.int f)),.v (.t (.int s)),.e,.v (.t (.lst (ms.map .int))),.v (.t (.lst (intN lv))),x10,.v (.t (.lst (ws.map T.str)))]:=fun x10=>by
    have i1:∀d,frz d=.lst (intN lv)->iLst (eVar 8) [.v (.t (.scr sc)),.v (.t (.int 10)),.v (.t (.int w)),.v (.t (.lst (rs.map rowT))),.v (.t (.int f)),.v (.t (.int s)),.e,.v (.t (.lst (ms.map .int))),.v d,x10,.v (.t (.lst (ws.map T.str)))]=.ok (intN lv) [.v (.t (.scr sc)),.v (.t (.int 10)),.v (.t (.int w)),.v (.t (.lst (rs.map rowT))),.v (.t (.int f)),.v (.t (.int s)),.e,.v (.t (.lst (ms.map .int))),.v (.t (.lst (intN lv))),x10,.v (.t (.lst (ws.map T.str)))]:=fun d hd=>by simp_arith[hd]
    have a1:=Zc7 (fe:=Zaw 2 ZaI [none,none] (Zad (eVar 1) (Zad (eVar 0) aNil))) (i1 _ Zbz) nv (caps:=[none,some 5]) (by simp[ZaC,Zby];rfl) rfl z3
    have a2:=Zc7 (i1 _ Zby) nv (caps:=[none,some 3]) (by simp[ZaC,Zby];rfl) rfl z4
    have a3:=Zej a1 (Zej a2 (show aNil _=_ from rfl))
    refine ZiY (ZoU (Zej (σ1:=[.v (.t (.scr sc)),.v (.t (.int 10)),.v (.t (.int w)),.v (.t (.lst (rs.map rowT))),.v (.t (.int f)),.v (.t (.int s)),.v (off (ss++[stT ws ds rs sh])),.v (.t (.lst (ms.map .int))),.v (.lst ((intN lv).map .t)),x10,.v (.lst ((ws.map T.str).map D.t))]) (by simp_arith []) (Zej (show eMov 6 _=_ from rfl) (Zej ?_ a3))) (by simp))
    simp_arith []
   exact s0 x9
theorem Zm8{s:T}{sh:List Str}(hs:∃fs,s=.ins "Standing" fs/\fs.lookup ("stopped":Str)=some (T.lst (sh.map .str))):∀(ds:List Str) (x:Sl),okX x->Zbk (Zag 0) (sT (eB Zda (eVar 0) (e1 (oFld "Standing" "stopped") (eVar 1)))) (eVar 0) (ds.map .str) [x,.v (.t s)]=some (((ZaE sh ds).map T.str).map D.t)
 | [],_,_=>rfl
 | d :: ds,x,hx=>by
  have ih:=Zm8 hs ds (.v (.t (.str d))) (.inr ⟨_,rfl⟩)
  obtain⟨fs,rfl,hf⟩:=hs
  have k1:Zag 0 (.t (.str d)) [x,.v (.t (.ins "Standing" fs))]=some [.v (.t (.str d)),.v (.t (.ins "Standing" fs))]:=by rcases hx with rfl | ⟨q,rfl⟩<;>rfl
  have b1:sT (eB Zda (eVar 0) (e1 (oFld "Standing" "stopped") (eVar 1))) [.v (.t (.str d)),.v (.t (.ins "Standing" fs))]=.ok (!decide (d∈sh)) [.v (.t (.str d)),.v (.t (.ins "Standing" fs))]:=by simp_arith[hf]
  by_cases hd:d∈sh
  · rw[decide_eq_true hd] at b1
    have hL:ZaE sh (d :: ds)=ZaE sh ds:=by simp[ZaE,hd]
    rw[hL]
    exact cs_f k1 b1 ih
  · rw[decide_eq_false hd] at b1
    have hL:ZaE sh (d :: ds)=d :: ZaE sh ds:=by simp[ZaE,hd]
    rw[hL]
    exact cs_t k1 b1 (by simp_arith []) ih
theorem Zlh{s:T}{sh:List Str}(hs:∃fs,s=.ins "Standing" fs/\fs.lookup ("stopped":Str)=some (T.lst (sh.map .str))):∀(ds:List Str) (rs:List (List Int)) (x y:Sl),okX x->okX y->Zbk (kTup Zbp 2 (Zay (Zag 0) (Zay (Zag 1) Zcc))) (sT (eB Zda (eVar 0) (e1 (oFld "Standing" "stopped") (eVar 2)))) (eVar 1) (List.zipWith (fun x y=>.tup [x,y]) (ds.map .str) (rs.map rowT)) [x,y,.v (.t s)]=some (((Zau sh ds rs).map rowT).map D.t)
 | [],_,_,_,_,_=>rfl
 | _ :: _,[],_,_,_,_=>rfl
 | d :: ds,r :: rs,x,y,hx,hy=>by
  have ih:=Zlh hs ds rs (.v (.t (.str d))) (.v (.t (rowT r))) (.inr ⟨_,rfl⟩) (.inr ⟨_,rfl⟩)
  obtain⟨fs,rfl,hf⟩:=hs
  have k1:kTup Zbp 2 (Zay (Zag 0) (Zay (Zag 1) Zcc)) (.t (.tup [.str d,rowT r])) [x,y,.v (.t (.ins "Standing" fs))]=some [.v (.t (.str d)),.v (.t (rowT r)),.v (.t (.ins "Standing" fs))]:=by
   rcases hx with rfl | ⟨d,rfl⟩<;>rcases hy with rfl | ⟨d',rfl⟩<;>simp[kTup,Zbp,Zay,Zcc,Zag]
  have b1:sT (eB Zda (eVar 0) (e1 (oFld "Standing" "stopped") (eVar 2))) [.v (.t (.str d)),.v (.t (rowT r)),.v (.t (.ins "Standing" fs))]=.ok (!decide (d∈sh)) [.v (.t (.str d)),.v (.t (rowT r)),.v (.t (.ins "Standing" fs))]:=by simp_arith[hf]
  by_cases hd:d∈sh
  · rw[decide_eq_true hd] at b1
    have hL:Zau sh (d :: ds) (r :: rs)=Zau sh ds rs:=by simp[Zau,hd]
    rw[hL]
    exact cs_f k1 b1 ih
  · rw[decide_eq_false hd] at b1
    have hL:Zau sh (d :: ds) (r :: rs)=r :: Zau sh ds rs:=by simp[Zau,hd]
    rw[hL]
    exact cs_t k1 b1 (by simp_arith []) ih
section
variable{ss:List T}{ws ds sh:List Str}{rs:List (List Int)}
theorem Zli(hd:ds.length<=1000):Zbu [.t (stT ws ds rs sh)]=.ret (stD ws (ZaE sh ds) (Zau sh ds rs) []) [.t (stT ws ds rs sh)]:=by
 have c1:=Zm8 (s:=stT ws ds rs sh) (sh:=sh) ⟨_,rfl,rfl⟩ ds .e (.inl rfl)
 have c2:=Zlh (s:=stT ws ds rs sh) (sh:=sh) ⟨_,rfl,rfl⟩ ds rs .e .e (.inl rfl) (.inl rfl)
 have n1:(ds.map T.str).length<sizeLine:=Zbv (by simp;omega)
 have n2:(List.zipWith (fun x y=>T.tup [x,y]) (ds.map .str) (rs.map rowT)).length<sizeLine:=Zbv (by simp;omega)
 have i1:iLst (e1 (oFld "Standing" "deed_names") (eVar 0)) [.v (.t (stT ws ds rs sh)),.e,.e]=.ok (ds.map .str) [.v (.t (stT ws ds rs sh)),.e,.e]:=by simp_arith []
 have i2:∀y,Zek (e1 (oFld "Standing" "deed_names") (eVar 0)) (e1 (oFld "Standing" "rows") (eVar 0)) [.v (.t (stT ws ds rs sh)),y,.e]=.ok (List.zipWith (fun x y=>.tup [x,y]) (ds.map .str) (rs.map rowT)) [.v (.t (stT ws ds rs sh)),y,.e]:=fun y=>by simp_arith[Zek,zipD,ZdZ]
 have fz:∀y,ZaC [none,none,some 0] [.v (.t (stT ws ds rs sh)),y,.e]=some [.v (.t (stT ws ds rs sh)),y,.e]:=fun y=>by simp[ZaC,Zby]
 have f1:=Zbz (ts:=(ZaE sh ds).map T.str)
 have f2:=Zbz (ts:=(Zau sh ds rs).map rowT)
 unfold Zbu runF Zbt
 rw[show Zbx 3 [.t (stT ws ds rs sh)]=[.v (.t (stT ws ds rs sh)),.e,.e] from rfl]
 rw[ZaQ (σ1:=[.v (.t (stT ws ds rs sh)),.v (.lst (((ZaE sh ds).map T.str).map D.t)),.e]) (Zd9 (Zc7 i1 n1 (by simp[ZaC,Zby];rfl) rfl c1) rfl)]
 rw[ZaQ (σ1:=[.v (.t (stT ws ds rs sh)),.v (.lst (((ZaE sh ds).map T.str).map D.t)),.v (.lst (((Zau sh ds rs).map rowT).map D.t))]) (Zd9 (Zc7 (i2 _) n2 (fz _) rfl c2) rfl)]
 generalize ZaE sh ds=a at *
 generalize Zau sh ds rs=b at *
 simp_arith[Zg1,f1,f2]
theorem ZiZ(hd:ds.length<=1000):ZbB [off (ss++[stT ws ds rs sh])]=.ret (stD ws (ZaE sh ds) (Zau sh ds rs) []) [off (ss++[stT ws ds rs sh])]:=by
 unfold ZbB Zb3
 have e1:=Zij (ss:=ss) (x:=stT ws ds rs sh)
 have e2:=Zli (ws:=ws) (rs:=rs) (sh:=sh) hd
 simp_arith[e1,e2]
end
def dotL(cs:List Int)(rw:List (List Int))(j:Nat):List Int:=List.zipWith (fun c r=>c*r.getD j 0) cs rw
def dot(cs:List Int)(rw:List (List Int))(j:Nat):Int:=(dotL cs rw j).sum
theorem ZoW(ns:List Int):ZhI (ns.map .int)=some ns:=by
 induction ns with
 | nil=>rfl
 | cons n ns ih=>simp[ZhI,ih]
theorem Zlj{r:List Int}{j:Nat}(h:In9 r):(r.getD j 0).natAbs<2 ^ 64:=by
 rw[List.getD_eq_getElem?_getD]
 by_cases q:j<r.length
 · rw[List.getElem?_eq_getElem q]
   have:=h _ (List.getElem_mem q)
   simp only[Option.getD_some]
   omega
 · rw[List.getElem?_eq_none (by omega)]
   decide
theorem Zm9{j:Nat}:∀(cs:List Int) (rw:List (List Int)) (x y:Sl),okX x->okX y->(∀r∈rw,j<r.length/\In9 r)->Zbk (kTup Zbp 2 (Zay (Zag 0) (Zay (Zag 1) Zcc))) Zbl (e2 oMul (eVar 0) (e2 oIx (eVar 1) (eVar 2))) (List.zipWith (fun x y=>.tup [x,y]) (cs.map .int) (rw.map rowT)) [x,y,.v (.t (.int j))]=some (((dotL cs rw j).map T.int).map D.t)
 | [],_,_,_,_,_,_=>rfl
 | _ :: _,[],_,_,_,_,_=>rfl
 | c :: cs,r :: rw,x,y,hx,hy,h=>by
  have ih:=Zm9 (j:=j) cs rw (.v (.t (.int c))) (.v (.t (rowT r))) (.inr ⟨_,rfl⟩) (.inr ⟨_,rfl⟩) fun r hr=>h r (.tail _ hr)
  obtain⟨hj,h9⟩:=h r (.head _)
  have k1:kTup Zbp 2 (Zay (Zag 0) (Zay (Zag 1) Zcc)) (.t (.tup [.int c,rowT r])) [x,y,.v (.t (.int j))]=some [.v (.t (.int c)),.v (.t (rowT r)),.v (.t (.int j))]:=by
   rcases hx with rfl | ⟨d,rfl⟩<;>rcases hy with rfl | ⟨d',rfl⟩<;>simp[kTup,Zbp,Zay,Zcc,Zag]
  have a1:oIx (.lst (r.map .int)) (.int j)=some (.t (.int (r.getD j 0))):=by rw[Zdl,DL.atI_nat];simp[hj]
  have a2:oMul (.int c) (.int (r.getD j 0))=some (.t (.int (c*r.getD j 0))):=Zge (Zlj h9)
  refine cs_t (d:=.t (.int (c*r.getD j 0))) k1 rfl ?_ ih
  generalize r.getD j 0=g at a1 a2
  simp_arith[a1,a2]
theorem ZoX{cs:List Int}{rw:List (List Int)}{j:Nat}(h:∀r∈rw,j<r.length/\In9 r)(hn:cs.length<=1000):ZdG [.t (.lst (rw.map rowT)),.t (.lst (cs.map .int)),.t (.int j)]=.ret (.t (.int (dot cs rw j))) [.t (.lst (rw.map rowT)),.t (.lst (cs.map .int)),.t (.int j)]:=by
 have c1:=Zm9 (j:=j) cs rw .e .e (.inl rfl) (.inl rfl) h
 have n1:(List.zipWith (fun x y=>T.tup [x,y]) (cs.map .int) (rw.map rowT)).length<sizeLine:=Zbv (by simp;omega)
 have i2:Zek (eVar 1) (eVar 0) [.v (.t (.lst (rw.map rowT))),.v (.t (.lst (cs.map .int))),.v (.t (.int j))]=.ok (List.zipWith (fun x y=>.tup [x,y]) (cs.map .int) (rw.map rowT)) [.v (.t (.lst (rw.map rowT))),.v (.t (.lst (cs.map .int))),.v (.t (.int j))]:=by simp_arith[Zek,zipD,ZdZ]
 have c2:=Zc7 i2 n1 (caps:=[none,none,some 2]) (by simp[ZaC,Zby];rfl) rfl c1
 have f1:=Zbz (ts:=(dotL cs rw j).map T.int)
 have s1:oSum (.lst ((dotL cs rw j).map .int))=some (.t (.int (dot cs rw j))):=by
  unfold oSum
  dsimp only
  rw[ZoW]
  rfl
 unfold ZdG ZfC
 refine Zgh (σ:=[.v (.t (.lst (rw.map rowT))),.v (.t (.lst (cs.map .int))),.v (.t (.int j))]) (ZiY ?_) rfl
 show e1 oSum _ [.v (.t (.lst (rw.map rowT))),.v (.t (.lst (cs.map .int))),.v (.t (.int j))]=_
 unfold e1
 rw[c2]
 simp only[Out.bnd,f1,s1]
section
variable{ss:List T}{ws nm ds sh:List Str}{rw:List (List Int)}{kvs:List (Str×Int)}
theorem Zlk(hn:nm.length<=1000):ZeN [.t (stT ws nm rw []),.t (.dct (dctT kvs))]=.ret (.lst (((ZdK kvs nm).map T.int).map D.t)) [.t (stT ws nm rw []),.t (.dct (dctT kvs))]:=by
 unfold ZeN ZfD
 have e:=Zg2 (kvs:=kvs) nm .e (.inl rfl)
 have n2:nm.length<sizeLine:=Zbv (by omega)
 have e4:=ZcU (ns:=ZdK kvs nm)
 simp_arith[ZcB,seen,Zbh,ZaC,capE,e,n2,e4]
theorem Zll{z:Str}(hz:z∈ws)(hr:∀r∈rw,r.length=ws.length/\In9 r)(hn:nm.length<=1000):Zeh [.t (stT ws nm rw []),.t (.dct (dctT kvs)),.t (.str z)]=.ret (.t (.int (dot (ZdK kvs nm) rw (ixOf ws z)))) [.t (stT ws nm rw []),.t (.dct (dctT kvs)),.t (.str z)]:=by
 unfold Zeh Zeg
 have e1:=Zlk (ws:=ws) (rw:=rw) (kvs:=kvs) hn
 have hl:=(ZoG hz).2
 have e2:=ZoX (cs:=ZdK kvs nm) (rw:=rw) (j:=ixOf ws z) (fun r h=>⟨by rw[(hr r h).1];exact hl,(hr r h).2⟩) (by unfold ZdK;simpa using hn)
 have e3:=Zqj hz
 have f1:=Zbz (ts:=(ZdK kvs nm).map T.int)
 simp_arith[e1,e2,e3,f1]
end
structure HK(nm ds sh:List Str)(cs:List Int)(kvs:List (Str×Int)):Prop where
 mem:∀p∈kvs,p.1∈ds/\0<=p.2/\p.2<=999999999999/\(p.1∈sh->p.2=0)
 val:∀i (h:i<nm.length),(kvs.lookup nm[i]).getD 0=cs.getD i 0
 len:kvs.length<=1000
theorem Zff{z:Str}{v:Int}:∀{kvs:List (Str×Int)},kvs.lookup z=some v->(z,v)∈kvs
 | [],h=>by cases h
 | (k,u) :: r,h=>by
  rw[List.lookup_cons] at h
  by_cases q:z=k
  · subst q
    rw[show(z == z)=true by simp] at h
    cases h
    exact .head _
  · rw[show(z == k)=false by simp[q]] at h
    exact .tail _ (Zff h)
theorem Zcr{z:Str}:∀{kvs:List (Str×Int)},z∈kvs.map Prod.fst -> ∃v,kvs.lookup z=some v
 | [],h=>by cases h
 | (k,u) :: r,h=>by
  rw[List.lookup_cons]
  by_cases q:z=k
  · subst q
    exact⟨u,by simp⟩
  · rw[show(z == k)=false by simp[q]]
    simp only[List.map_cons,List.mem_cons] at h
    exact Zcr (h.resolve_left q)
theorem Zgi{z:Str}:∀{kvs:List (Str×Int)},(dctT kvs).lookup z=(kvs.lookup z).map T.int
 | []=>rfl
 | (k,v) :: r=>by
  show List.lookup z ((k,T.int v) :: dctT r)=_
  rw[List.lookup_cons,List.lookup_cons]
  by_cases q:z=k
  · subst q
    simp
  · rw[show(z == k)=false by simp[q]]
    exact Zgi
theorem Zna{kvs:List (Str×Int)}(hl:kvs.length<=1000):∃zs:List Str,(∀z∈zs,∃v,v≠0/\(z,v)∈kvs)/\Zd8 [.t (.dct (dctT kvs))]=.ret (.lst ((zs.map T.str).map D.t)) [.t (.dct (dctT kvs))]:=by
 have h1:(dctT kvs).all (fun p=>isI ((dctT kvs).lookup p.1))=true:=by
  rw[List.all_eq_true]
  intro p hp
  obtain⟨q,hq,rfl⟩:=List.mem_map.mp hp
  obtain⟨v,hv⟩:=Zcr (List.mem_map.mpr ⟨q,hq,rfl⟩)
  rw[Zgi]
  show isI (Option.map T.int (List.lookup q.1 kvs))=true
  rw[hv]
  rfl
 have h2:(dctT kvs).length<1000000:=by rw[List.length_map];omega
 refine⟨((dctT kvs).filter fun p=>nzT ((dctT kvs).lookup p.1)).map Prod.fst,fun z hz=>?_,?_⟩
 · obtain⟨p,hp,rfl⟩:=List.mem_map.mp hz
   obtain⟨hp1,hp2⟩:=List.mem_filter.mp hp
   obtain⟨q,hq,rfl⟩:=List.mem_map.mp hp1
   obtain⟨v,hv⟩:=Zcr (List.mem_map.mpr ⟨q,hq,rfl⟩)
   refine⟨v,?_,Zff hv⟩
   rw[Zgi] at hp2
   have hp3:nzT (Option.map T.int (List.lookup q.1 kvs))=true:=hp2
   rw[hv] at hp3
   simpa[nzT] using hp3
 · have e:Zgx (.dct (dctT kvs))=some (.lst (((((dctT kvs).filter fun p=>nzT ((dctT kvs).lookup p.1)).map Prod.fst).map T.str).map D.t)):=by
    unfold Zgx
    dsimp only
    rw[if_pos ⟨h2,h1⟩]
    simp only[List.map_map]
    rfl
   generalize ((dctT kvs).filter fun p=>nzT ((dctT kvs).lookup p.1)).map Prod.fst=zs at e
   have e4:=Zei (ns:=zs)
   unfold Zd8 ZeM
   simp_arith[ZcB,seen,e,e4]
abbrev cntB:SS:=sIf (sOr (sT (eB oLt (eVar 1) (eC (.int 0)))) (sT (eB oGt (eVar 1) (eC (.int 999999999999))))) (Zcq "BadNumber" (uSeq uC (uSeq (Zf1 (eC (.int 999999999999))) uC))) ZaS
theorem Zlm{a:Sl}:∀(vs:List Int) (x:Sl),okX x->(∀v∈vs,0<=v/\v<=999999999999) -> ∃x',forS (Zag 1) cntB (vs.map .int) [a,x]=.next [a,x']
 | [],x,_,_=>⟨x,rfl⟩
 | v :: vs,x,hx,h=>by
  obtain⟨x',ih⟩:=Zlm (a:=a) vs (.v (.t (.int v))) (.inr ⟨_,rfl⟩) fun u hu=>h u (.tail _ hu)
  refine⟨x',?_⟩
  obtain⟨h0,h1⟩:=h v (.head _)
  have k1:Zag 1 (.t (.int v)) [a,x]=some [a,.v (.t (.int v))]:=by rcases hx with rfl | ⟨d,rfl⟩<;>rfl
  have b1:cntB [a,.v (.t (.int v))]=.next [a,.v (.t (.int v))]:=by
   have q0:¬v<0:=by omega
   have q1:¬999999999999<v:=by omega
   unfold cntB
   simp_arith[q0,q1]
  rw[List.map_cons,forS,k1]
  dsimp only
  rw[b1]
  exact ih
theorem Znb{vs:List Int}(h:∀v∈vs,0<=v/\v<=999999999999):ZbX [.t (.lst (vs.map .int))]=.ret (.t .non) [.t (.lst (vs.map .int))]:=by
 unfold ZbX Zcx
 obtain⟨x',e⟩:=Zlm (a:=.v (.t (.lst (vs.map .int)))) vs .e (.inl rfl) h
 simp_arith[e]
section
variable{ss:List T}{ws ds sh:List Str}{rs:List (List Int)}{kvs:List (Str×Int)}{cs:List Int}
theorem ZeS{P:List Int->Prop}(h:∀r∈rs,P r):∀r∈Zau sh ds rs,P r:=fun r hr=>by
 obtain⟨p,hp,rfl⟩:=List.mem_map.mp hr
 exact h _ (List.of_mem_zip (List.mem_filter.mp hp).1).2
theorem Zgj:(ZaE sh ds).length<=ds.length:=List.length_filter_le _ _
theorem Znc(H:HK (ZaE sh ds) ds sh cs kvs)(hc:cs.length=(ZaE sh ds).length):ZdK kvs (ZaE sh ds)=cs:=by
 show(ZaE sh ds).map (fun w=>(kvs.lookup w).getD 0)=cs
 refine List.ext_getElem (by simp[hc]) fun i h1 h2=>?_
 have:=H.val i (by omega)
 rw[List.getElem_map,this]
 simp[h2]
theorem Zmq(S:SetR ws.length ws ds rs sh)(H:HK (ZaE sh ds) ds sh cs kvs)(hc:cs.length=(ZaE sh ds).length){z:Str}(hz:z∈ws):Zbb [off (ss++[stT ws ds rs sh]),.t (.dct (dctT kvs)),.t (.str z)]=.ret (.t (.int (dot cs (Zau sh ds rs) (ixOf ws z)))) [off (ss++[stT ws ds rs sh]),.t (.dct (dctT kvs)),.t (.str z)]:=by
 have h10:=S.ok.d10
 have e1:=Zij (ss:=ss) (x:=stT ws ds rs sh)
 have ks:∀k∈kvs.map Prod.fst,k∈ds:=fun k hk=>by
  obtain⟨p,hp,rfl⟩:=List.mem_map.mp hk
  exact(H.mem p hp).1
 have vs:∀v∈kvs.map Prod.snd,0<=v/\v<=999999999999:=fun k hk=>by
  obtain⟨p,hp,rfl⟩:=List.mem_map.mp hk
  exact⟨(H.mem p hp).2.1,(H.mem p hp).2.2.1⟩
 obtain⟨zs,hzs,e2⟩:=Zna (kvs:=kvs) H.len
 have c1:=ZkX (ws:=ws) (ds:=ds) (rs:=rs) (sh:=sh) (zs:=kvs.map Prod.fst) (fun k hk=>S.wd k (ks k hk))
 rw[if_pos ks] at c1
 have c2:=Zm1 (ws:=ws) (ds:=ds) (rs:=rs) (sh:=sh) (zs:=[z]) (by simpa using S.ww z hz)
 rw[if_pos (by simpa using hz)] at c2
 have c3:=ZkY (ws:=ws) (ds:=ds) (rs:=rs) (sh:=sh) (zs:=zs) (fun k hk=>by obtain⟨v,_,hv⟩:=hzs k hk;exact S.wd k (ks k (List.mem_map.mpr ⟨_,hv,rfl⟩)))
 rw[if_pos (fun k hk q=>by obtain⟨v,h0,hv⟩:=hzs k hk;exact h0 ((H.mem _ hv).2.2.2 q))] at c3
 have c4:=Znb vs
 have l1:=ZiZ (ss:=ss) (ws:=ws) (rs:=rs) (sh:=sh) (ds:=ds) (by omega)
 have t1:=Zll (nm:=ZaE sh ds) (rw:=Zau sh ds rs) (kvs:=kvs) hz (ZeS (P:=fun r=>r.length=ws.length/\In9 r) fun r hr=>⟨S.ok.lw r hr,S.n9 r hr⟩) (by have:=Zgj (sh:=sh) (ds:=ds);omega)
 rw[Znc H hc] at t1
 have g1:=ZfH (kvs:=kvs)
 have g2:=Zg4 (kvs:=kvs)
 have g3:=Zei (ns:=kvs.map Prod.fst)
 have g4:=ZcU (ns:=kvs.map Prod.snd)
 have f1:=ZhQ (ws:=ws) (ds:=ZaE sh ds) (rs:=Zau sh ds rs) (sh:=[])
 have g5:=Zbz (ts:=(kvs.map Prod.fst).map T.str)
 have g6:=Zbz (ts:=(kvs.map Prod.snd).map T.int)
 simp only[List.map_cons,List.map_nil] at c2
 generalize ZaE sh ds=nm at *
 generalize Zau sh ds rs=rw at *
 generalize dot cs rw (ixOf ws z)=a at *
 unfold Zbb Zb4
 simp_arith[e1,e2,c1,c2,c3,c4,l1,t1,ZcB,seen,g1,g2,g3,g4,g5,g6,f1]
end
theorem Znd:∀(vs:List Int) (x:Sl),okX x->Zbk (Zag 0) Zbl (eB oGt (eVar 0) (eC (.int 0))) (vs.map .int) [x]=some (((vs.map fun v=>decide (0<v)).map T.bl).map D.t)
 | [],_,_=>rfl
 | v :: vs,x,hx=>by
  have ih:=Znd vs (.v (.t (.int v))) (.inr ⟨_,rfl⟩)
  have k1:Zag 0 (.t (.int v)) [x]=some [.v (.t (.int v))]:=by rcases hx with rfl | ⟨q,rfl⟩<;>rfl
  exact cs_t k1 rfl (by simp_arith []) ih
theorem Zmr(bs:List Bool):Zdc (bs.map .bl)=some bs:=by
 induction bs with
 | nil=>rfl
 | cons n ns ih=>simp[Zdc,ih]
theorem Zqu{vs:List Int}(hn:vs.length<=1000)(h:∃v∈vs,0<v):Zdi [.t (.lst (vs.map .int))]=.ret (.t .non) [.t (.lst (vs.map .int))]:=by
 have c1:=Znd vs .e (.inl rfl)
 have i1:iLst (eVar 0) [.v (.t (.lst (vs.map .int)))]=.ok (vs.map .int) [.v (.t (.lst (vs.map .int)))]:=by simp_arith []
 have c2:=Zc7 i1 (Zbv (by simp;omega)) (caps:=[none]) rfl rfl c1
 have f1:=Zbz (ts:=(vs.map fun v=>decide (0<v)).map T.bl)
 have s1:oAny (.lst ((vs.map fun v=>decide (0<v)).map .bl))=some (.t (.bl true)):=by
  unfold oAny
  dsimp only
  rw[Zmr]
  have:((vs.map fun v=>decide (0<v)).any id)=true:=by
   obtain⟨v,hv,h0⟩:=h
   rw[List.any_eq_true]
   exact⟨true,List.mem_map.mpr ⟨v,hv,by simp[h0]⟩,rfl⟩
  rw[Option.map_some,this]
 have t1:sNot (sT (e1 oAny (Zbh (iLst (eVar 0)) [none] (Zag 0) Zbl (eB oGt (eVar 0) (eC (.int 0)))))) [.v (.t (.lst (vs.map .int)))]=.ok false [.v (.t (.lst (vs.map .int)))]:=by
  refine ZoQ (k:=true) ?_
  unfold sT e1
  rw[c2]
  simp only[Out.bnd,f1,s1,ZfB]
 unfold Zdi runF Zdh
 rw[show Zbx 1 [.t (.lst (vs.map .int))]=[.v (.t (.lst (vs.map .int)))] from rfl,ZeR t1]
 simp_arith []
abbrev dotW(cs:List Int)(rw:List (List Int))(w:Nat):List Int:=(List.range w).map (dot cs rw)
theorem Zln{cs:List Int}{rw:List (List Int)}(hn:cs.length<=1000):∀(is:List Nat) (x:Sl),okX x->(∀i∈is,∀r∈rw,i<r.length/\In9 r)->Zbk (Zag 0) Zbl (Zaw 3 ZdG [none,none,none] (Zad (eVar 1) (Zad (eVar 2) (Zad (eVar 0) aNil)))) (intN is) [x,.v (.t (.lst (rw.map rowT))),.v (.t (.lst (cs.map .int)))]=some (((is.map (dot cs rw)).map T.int).map D.t)
 | [],_,_,_=>rfl
 | i :: is,x,hx,h=>by
  have ih:=Zln hn is (.v (.t (.int i))) (.inr ⟨_,rfl⟩) fun j hj=>h j (.tail _ hj)
  have k1:Zag 0 (.t (.int i)) [x,.v (.t (.lst (rw.map rowT))),.v (.t (.lst (cs.map .int)))]=some [.v (.t (.int i)),.v (.t (.lst (rw.map rowT))),.v (.t (.lst (cs.map .int)))]:=by rcases hx with rfl | ⟨q,rfl⟩<;>rfl
  have e:=ZoX (h i (.head _)) hn
  exact cs_t k1 rfl (by simp_arith[e]) ih
theorem Zqv{cs:List Int}{rw:List (List Int)}{w:Nat}(hn:cs.length<=1000)(hw:w<=1000)(h:∀r∈rw,r.length=w/\In9 r):ZhL [.t (.int w),.t (.lst (rw.map rowT)),.t (.lst (cs.map .int))]=.ret (.lst (((dotW cs rw w).map T.int).map D.t)) [.t (.int w),.t (.lst (rw.map rowT)),.t (.lst (cs.map .int))]:=by
 have c1:=Zln (rw:=rw) hn (List.range w) .e (.inl rfl) (fun i hi r hr=>⟨by rw[(h r hr).1];exact List.mem_range.mp hi,(h r hr).2⟩)
 have i1:ZbC (eVar 0) [.v (.t (.int w)),.v (.t (.lst (rw.map rowT))),.v (.t (.lst (cs.map .int)))]=.ok (intN (List.range w)) [.v (.t (.int w)),.v (.t (.lst (rw.map rowT))),.v (.t (.lst (cs.map .int)))]:=Zgg (by simp_arith []) (by omega)
 have c2:=Zc7 i1 (Zbv (by simp;omega)) (caps:=[none,some 1,some 2]) (σ2:=[.v (.t (.int w)),.v (.t (.lst (rw.map rowT))),.v (.t (.lst (cs.map .int)))]) (by simp[ZaC,Zby]) rfl c1
 unfold ZhL ZiO
 exact Zgh (ZiY c2) rfl
def offK:Nat->List Int->List Nat
 | _,[]=>[]
 | k,v :: vs=>if v=0 then offK (k+1) vs else k :: offK (k+1) vs
theorem Zg6:∀{k:Nat}{vs:List Int}{i:Nat},i∈offK k vs->k<=i/\i<k+vs.length/\vs.getD (i - k) 0≠0
 | k,[],i,h=>by cases h
 | k,v :: vs,i,h=>by
  unfold offK at h
  split at h
  · obtain⟨a,b,c⟩:=Zg6 h
    refine⟨by omega,by simp;omega,?_⟩
    rw[show i - k=(i - (k+1))+1 by omega]
    exact c
  · rcases List.mem_cons.mp h with rfl | q
    · refine⟨Nat.le_refl _,by simp,?_⟩
      rw[Nat.sub_self]
      assumption
    · obtain⟨a,b,c⟩:=Zg6 q
      refine⟨by omega,by simp;omega,?_⟩
      rw[show i - k=(i - (k+1))+1 by omega]
      exact c
theorem Zne:∀(vs:List Int) (k:Nat) (x y:Sl),okX x->okX y->Zbk (kTup Zbp 2 (Zay (Zag 0) (Zay (Zag 1) Zcc))) (sT (eB oNe (eVar 1) (eC (.int 0)))) (eVar 0) (numT k (vs.map .int)) [x,y]=some ((intN (offK k vs)).map D.t)
 | [],_,_,_,_,_=>rfl
 | v :: vs,k,x,y,hx,hy=>by
  have ih:=Zne vs (k+1) (.v (.t (.int k))) (.v (.t (.int v))) (.inr ⟨_,rfl⟩) (.inr ⟨_,rfl⟩)
  have k1:kTup Zbp 2 (Zay (Zag 0) (Zay (Zag 1) Zcc)) (.t (.tup [.int k,.int v])) [x,y]=some [.v (.t (.int k)),.v (.t (.int v))]:=by
   rcases hx with rfl | ⟨d,rfl⟩<;>rcases hy with rfl | ⟨d',rfl⟩<;>simp[kTup,Zbp,Zay,Zcc,Zag]
  have b1:sT (eB oNe (eVar 1) (eC (.int 0))) [.v (.t (.int k)),.v (.t (.int v))]=.ok (!decide (v=0)) [.v (.t (.int k)),.v (.t (.int v))]:=by simp_arith []
  unfold offK
  by_cases h0:v=0
  · rw[decide_eq_true h0] at b1
    rw[if_pos h0]
    exact cs_f k1 b1 ih
  · rw[decide_eq_false h0] at b1
    rw[if_neg h0]
    exact cs_t k1 b1 (by simp_arith []) ih
theorem Zms{cs:List Int}{rw:List (List Int)}{w:Nat}(hn:cs.length<=1000)(hw:w<=1000)(h:∀r∈rw,r.length=w/\In9 r):ZfF [.t (.int w),.t (.lst (rw.map rowT)),.t (.lst (cs.map .int))]=.ret (.lst ((intN (offK 0 (dotW cs rw w))).map D.t)) [.t (.int w),.t (.lst (rw.map rowT)),.t (.lst (cs.map .int))]:=by
 have e:=Zqv hn hw h
 have f1:=Zbz (ts:=(dotW cs rw w).map T.int)
 have hl:(dotW cs rw w).length=w:=by simp
 have c1:=Zne (dotW cs rw w) 0 .e .e (.inl rfl) (.inl rfl)
 have i1:ZhJ (Zaw 3 ZhL [none,none,none] (Zad (eVar 0) (Zad (eVar 1) (Zad (eVar 2) aNil)))) [.v (.t (.int w)),.v (.t (.lst (rw.map rowT))),.v (.t (.lst (cs.map .int)))]=.ok (numT 0 ((dotW cs rw w).map .int)) [.v (.t (.int w)),.v (.t (.lst (rw.map rowT))),.v (.t (.lst (cs.map .int)))]:=by
  generalize dotW cs rw w=ds at *
  simp_arith[ZhJ,e,f1,ZdZ]
 have nl:∀(ts:List T) (k:Nat),(numT k ts).length=ts.length:=fun ts=>by
  induction ts with
  | nil=>intro k;rfl
  | cons t ts ih=>intro k;simp[numT,ih]
 have c2:=Zc7 i1 (Zbv (by rw[nl];simp;omega)) (caps:=[none,none]) rfl rfl c1
 unfold ZfF ZfE
 exact Zgh (ZiY c2) rfl
section
variable{ss:List T}{ws nm ds sh:List Str}{rs rw:List (List Int)}{kvs:List (Str×Int)}{cs:List Int}
theorem Zlo{i:Nat}{l:List Nat}(hr:∀r∈rw,r.length=ws.length/\In9 r)(hw:ws.length<=1000)(hn:nm.length<=1000)(hc:ZdK kvs nm=cs)(ho:offK 0 (dotW cs rw ws.length)=i :: l)(hi:i<ws.length):Zcz [.t (stT ws nm rw []),.t (.dct (dctT kvs))]=.ret (.t (.tup [.str "uneven",.str ws[i],.int (dot cs rw i)])) [.t (stT ws nm rw []),.t (.dct (dctT kvs))]:=by
 have hl:cs.length<=1000:=by rw[<- hc];unfold ZdK;simpa using hn
 have e1:=Zlk (ws:=ws) (rw:=rw) (kvs:=kvs) hn
 rw[hc] at e1
 have e2:=Zms hl hw hr
 rw[ho] at e2
 have e3:=ZoX (cs:=cs) (rw:=rw) (j:=i) (fun r h=>⟨by rw[(hr r h).1];exact hi,(hr r h).2⟩) hl
 have f1:=Zbz (ts:=cs.map T.int)
 have f2:=Zbz (ts:=intN (i :: l))
 have a1:oIx (.lst (ws.map .str)) (.int i)=some (.t (.str ws[i])):=by rw[Zdl,DL.atI_nat];simp[hi]
 have a2:oIx (.lst (intN (i :: l))) (.int 0)=some (.t (.int i)):=by rw[Zdl,show(0:Int)=((0:Nat):Int) from rfl,DL.atI_nat];simp
 have a3:(0:Int)<(intN (i :: l)).length:=by simp
 have a4:0<(intN (i :: l)).length:=by simp
 have a5:intN (i :: l)≠[]:=by simp
 generalize ws[i]=z at *
 generalize dot cs rw i=v at *
 generalize intN (i :: l)=il at *
 unfold Zcz Zcy
 simp_arith[e1,e2,e3,f1,f2,a1,a2,a3,a4,a5]
theorem Zmt(S:SetR ws.length ws ds rs sh)(H:HK (ZaE sh ds) ds sh cs kvs)(hc:cs.length=(ZaE sh ds).length){i:Nat}{l:List Nat}(ho:offK 0 (dotW cs (Zau sh ds rs) ws.length)=i :: l)(hi:i<ws.length)(hs:∃v∈kvs.map Prod.snd,0<v):Zbn [off (ss++[stT ws ds rs sh]),.t (.dct (dctT kvs))]=.ret (.t (.tup [.str "uneven",.str ws[i],.int (dot cs (Zau sh ds rs) i)])) [off (ss++[stT ws ds rs sh]),.t (.dct (dctT kvs))]:=by
 have h10:=S.ok.d10
 have h6:=S.ok.w6
 have e1:=Zij (ss:=ss) (x:=stT ws ds rs sh)
 have ks:∀k∈kvs.map Prod.fst,k∈ds:=fun k hk=>by
  obtain⟨p,hp,rfl⟩:=List.mem_map.mp hk
  exact(H.mem p hp).1
 have vs:∀v∈kvs.map Prod.snd,0<=v/\v<=999999999999:=fun k hk=>by
  obtain⟨p,hp,rfl⟩:=List.mem_map.mp hk
  exact⟨(H.mem p hp).2.1,(H.mem p hp).2.2.1⟩
 obtain⟨zs,hzs,e2⟩:=Zna (kvs:=kvs) H.len
 have c1:=ZkX (ws:=ws) (ds:=ds) (rs:=rs) (sh:=sh) (zs:=kvs.map Prod.fst) (fun k hk=>S.wd k (ks k hk))
 rw[if_pos ks] at c1
 have c3:=ZkY (ws:=ws) (ds:=ds) (rs:=rs) (sh:=sh) (zs:=zs) (fun k hk=>by obtain⟨v,_,hv⟩:=hzs k hk;exact S.wd k (ks k (List.mem_map.mpr ⟨_,hv,rfl⟩)))
 rw[if_pos (fun k hk q=>by obtain⟨v,h0,hv⟩:=hzs k hk;exact h0 ((H.mem _ hv).2.2.2 q))] at c3
 have c4:=Znb vs
 have c5:=Zqu (vs:=kvs.map Prod.snd) (by have:=H.len;simp;omega) hs
 have l1:=ZiZ (ss:=ss) (ws:=ws) (rs:=rs) (sh:=sh) (ds:=ds) (by omega)
 have t1:=Zlo (nm:=ZaE sh ds) (rw:=Zau sh ds rs) (kvs:=kvs) (ZeS (P:=fun r=>r.length=ws.length/\In9 r) fun r hr=>⟨S.ok.lw r hr,S.n9 r hr⟩) (by omega) (by have:=Zgj (sh:=sh) (ds:=ds);omega) (Znc H hc) ho hi
 have g1:=ZfH (kvs:=kvs)
 have g2:=Zg4 (kvs:=kvs)
 have g3:=Zei (ns:=kvs.map Prod.fst)
 have g4:=ZcU (ns:=kvs.map Prod.snd)
 have f1:=ZhQ (ws:=ws) (ds:=ZaE sh ds) (rs:=Zau sh ds rs) (sh:=[])
 have g5:=Zbz (ts:=(kvs.map Prod.fst).map T.str)
 have g6:=Zbz (ts:=(kvs.map Prod.snd).map T.int)
 generalize ws[i]=z at *
 generalize dot cs (Zau sh ds rs) i=v at *
 generalize ZaE sh ds=nm at *
 generalize Zau sh ds rs=rw at *
 unfold Zbn Zcl
 simp_arith[e1,e2,c1,c3,c4,c5,l1,t1,ZcB,seen,g1,g2,g3,g4,g5,g6,f1]
end
theorem Zlp{ts:List T}{k:Nat}(h:k<ts.length):ixD (.lst (ts.map .t)) (k:Int)=some ts[k]:=by
 unfold ixD
 dsimp only
 rw[DL.atI_nat]
 simp[h]
theorem Zqw{op:T->T->Option D}{fa fb:SE}{σ σ1 σ2:Env'}{a b d:D}(ha:fa σ=.ok a σ1)(hb:fb σ1=.ok b σ2)(ho:op (frz a) (frz b)=some d):e2 op fa fb σ=.ok d σ2:=by
 unfold e2
 rw[ha]
 show Out.bnd (fb σ1) _=_
 rw[hb]
 simp only[Out.bnd,ho]
theorem Zmu{M:List Int}{k:Nat}(h:k<M.length):(M.take (k+1)).sum=(M.take k).sum+M[k]:=by
 rw[List.take_succ,List.sum_append]
 simp[h]
section
variable{w:Int}{cs:List Int}{rw:List (List Int)}
abbrev suE(w:Int)(cs:List Int)(rw:List (List Int))(vs:List Int)(x4 x5 x6:Sl):Env':=[.v (.t (.int w)),.v (.t (.lst (rw.map rowT))),.x (.lst ((cs.map T.int).map D.t)),.v (.lst ((vs.map T.int).map D.t)),x4,x5,x6]
abbrev suB:SS:=sAsg (e2 oAdd (eVar 5) (e2 oMul (eP (pIx (bVar 2) (pB (bVar 6)))) (e2 oIx (e2 oIx (eVar 1) (eVar 6)) (eVar 4)))) (Zag 5)
theorem Zqx(hl:cs.length=rw.length){j:Nat}(h:∀r∈rw,j<r.length/\In9 r){vs:List Int}:∀(m k:Nat) (x6:Sl),okX x6->k+m=cs.length -> ∃x6',okX x6'/\forS (Zag 6) suB (intN (List.range' k m)) (suE w cs rw vs (.v (.t (.int j))) (.v (.t (.int ((dotL cs rw j).take k).sum))) x6)=.next (suE w cs rw vs (.v (.t (.int j))) (.v (.t (.int (dot cs rw j)))) x6')
 | 0,k,x6,hx,hk=>by
  refine⟨x6,hx,?_⟩
  have:((dotL cs rw j).take k).sum=dot cs rw j:=by
   unfold dot
   rw[List.take_of_length_le (by unfold dotL;simp;omega)]
  rw[this]
  rfl
 | m+1,k,x6,hx,hk=>by
  obtain⟨x6',hx',ih⟩:=Zqx hl h (vs:=vs) m (k+1) (.v (.t (.int k))) (.inr ⟨_,rfl⟩) (by omega)
  refine⟨x6',hx',?_⟩
  have kc:k<cs.length:=by omega
  have kr:k<rw.length:=by omega
  have kd:k<(dotL cs rw j).length:=by unfold dotL;simp;omega
  have hd:(dotL cs rw j)[k]=cs[k]*rw[k].getD j 0:=by unfold dotL;simp
  obtain⟨hj,h9⟩:=h _ (List.getElem_mem kr)
  rw[Zmu kd,hd] at ih
  generalize ((dotL cs rw j).take k).sum=a at ih ⊢
  have k1:Zag 6 (.t (.int k)) (suE w cs rw vs (.v (.t (.int j))) (.v (.t (.int a))) x6)=some (suE w cs rw vs (.v (.t (.int j))) (.v (.t (.int a))) (.v (.t (.int k)))):=by rcases hx with rfl | ⟨d,rfl⟩<;>rfl
  have i1:ixD (.lst ((cs.map T.int).map .t)) (k:Int)=some (.int cs[k]):=by rw[Zlp (by simpa using kc)];simp
  have a1:oIx (.lst (rw.map rowT)) (.int k)=some (.t (rowT rw[k])):=by rw[Zdl,DL.atI_nat];simp[kr]
  have a2:oIx (.lst (rw[k].map .int)) (.int j)=some (.t (.int (rw[k].getD j 0))):=by rw[Zdl,DL.atI_nat];simp[hj]
  have a3:oMul (.int cs[k]) (.int (rw[k].getD j 0))=some (.t (.int (cs[k]*rw[k].getD j 0))):=Zge (Zlj h9)
  have b1:suB (suE w cs rw vs (.v (.t (.int j))) (.v (.t (.int a))) (.v (.t (.int k))))=.next (suE w cs rw vs (.v (.t (.int j))) (.v (.t (.int (a+cs[k]*rw[k].getD j 0)))) (.v (.t (.int k)))):=by
   clear ih hd k1
   generalize rw[k].getD j 0=g at *
   generalize rw[k]=r at *
   generalize cs[k]=c at *
   have ep:eP (pIx (bVar 2) (pB (bVar 6))) (suE w cs rw vs (.v (.t (.int j))) (.v (.t (.int a))) (.v (.t (.int k))))=.ok (.t (.int c)) (suE w cs rw vs (.v (.t (.int j))) (.v (.t (.int a))) (.v (.t (.int k)))):=by
    have p1:pIx (bVar 2) (pB (bVar 6)) (suE w cs rw vs (.v (.t (.int j))) (.v (.t (.int a))) (.v (.t (.int k))))=some (.int c):=i1
    unfold eP
    rw[p1]
   have er:e2 oIx (e2 oIx (eVar 1) (eVar 6)) (eVar 4) (suE w cs rw vs (.v (.t (.int j))) (.v (.t (.int a))) (.v (.t (.int k))))=.ok (.t (.int g)) (suE w cs rw vs (.v (.t (.int j))) (.v (.t (.int a))) (.v (.t (.int k)))):=by
    unfold suE
    simp_arith[a1,a2]
   exact Zd9 (Zqw (show eVar 5 (suE w cs rw vs (.v (.t (.int j))) (.v (.t (.int a))) (.v (.t (.int k))))=.ok (.t (.int a)) (suE w cs rw vs (.v (.t (.int j))) (.v (.t (.int a))) (.v (.t (.int k)))) by unfold suE;simp_arith []) (Zqw ep er (by rw[Zby,Zby];exact a3)) (by rw[Zby,Zby];exact Zkt)) rfl
  rw[List.range'_succ,intN,List.map_cons,forS,k1]
  dsimp only
  rw[b1]
  exact ih
abbrev suO:SS:=sSeq (sAsg (eC (.int 0)) (Zag 5)) (sSeq (sFor (ZbC (e1 oLen (eVar 1))) (Zag 6) suB) (sApp 3 (eVar 5)))
theorem Znf(hl:cs.length=rw.length)(hn:cs.length<=1000){W:Nat}(h:∀r∈rw,r.length=W/\In9 r)(hW:W<=1000):∀(m j:Nat) (x4 x5 x6:Sl),okX x4->okX x5->okX x6->j+m=W -> ∃x4' x5' x6',forS (Zag 4) suO (intN (List.range' j m)) (suE w cs rw (dotW cs rw j) x4 x5 x6)=.next (suE w cs rw (dotW cs rw W) x4' x5' x6')
 | 0,j,x4,x5,x6,_,_,_,hj=>by
  have:j=W:=by omega
  subst this
  exact⟨_,_,_,rfl⟩
 | m+1,j,x4,x5,x6,h4,h5,h6,hj=>by
  obtain⟨y6,hy6,f1⟩:=Zqx (w:=w) hl (j:=j) (fun r hr=>⟨by rw[(h r hr).1];omega,(h r hr).2⟩) (vs:=dotW cs rw j) cs.length 0 x6 h6 (by omega)
  obtain⟨x4',x5',x6',ih⟩:=Znf hl hn h hW m (j+1) (.v (.t (.int j))) (.v (.t (.int (dot cs rw j)))) y6 (.inr ⟨_,rfl⟩) (.inr ⟨_,rfl⟩) hy6 (by omega)
  refine⟨x4',x5',x6',?_⟩
  have k1:Zag 4 (.t (.int j)) (suE w cs rw (dotW cs rw j) x4 x5 x6)=some (suE w cs rw (dotW cs rw j) (.v (.t (.int j))) x5 x6):=by rcases h4 with rfl | ⟨d,rfl⟩<;>rfl
  have s1:sAsg (eC (.int 0)) (Zag 5) (suE w cs rw (dotW cs rw j) (.v (.t (.int j))) x5 x6)=.next (suE w cs rw (dotW cs rw j) (.v (.t (.int j))) (.v (.t (.int 0))) x6):=by rcases h5 with rfl | ⟨d,rfl⟩<;>rfl
  have r1:ZbC (e1 oLen (eVar 1)) (suE w cs rw (dotW cs rw j) (.v (.t (.int j))) (.v (.t (.int 0))) x6)=.ok (intN (List.range cs.length)) (suE w cs rw (dotW cs rw j) (.v (.t (.int j))) (.v (.t (.int 0))) x6):=Zgg (by rw[hl];unfold suE;simp_arith []) (by omega)
  have s2:sFor (ZbC (e1 oLen (eVar 1))) (Zag 6) suB (suE w cs rw (dotW cs rw j) (.v (.t (.int j))) (.v (.t (.int 0))) x6)=.next (suE w cs rw (dotW cs rw j) (.v (.t (.int j))) (.v (.t (.int (dot cs rw j)))) y6):=Zfe r1 (by rw[List.range_eq_range'];exact f1)
  have hS:dotW cs rw (j+1)=dotW cs rw j++[dot cs rw j]:=by simp[dotW,List.range_succ]
  have n1:(dotW cs rw j).length<1000000:=by simp;omega
  have s3:sApp 3 (eVar 5) (suE w cs rw (dotW cs rw j) (.v (.t (.int j))) (.v (.t (.int (dot cs rw j)))) y6)=.next (suE w cs rw (dotW cs rw (j+1)) (.v (.t (.int j))) (.v (.t (.int (dot cs rw j)))) y6):=by
   rw[hS]
   generalize dotW cs rw j=vs at *
   generalize dot cs rw j=v at *
   have a1:((vs.map T.int).map D.t)++[D.t (.int v)]=((vs++[v]).map T.int).map D.t:=by simp
   unfold suE
   simp_arith[n1,a1]
  rw[List.range'_succ,intN,List.map_cons,forS,k1]
  dsimp only
  rw[show suO (suE w cs rw (dotW cs rw j) (.v (.t (.int j))) x5 x6)=.next (suE w cs rw (dotW cs rw (j+1)) (.v (.t (.int j))) (.v (.t (.int (dot cs rw j)))) y6) by unfold suO;rw[ZaQ s1,ZaQ s2,s3]]
  exact ih
end
theorem Zqy{w:Nat}{cs:List Int}{rw:List (List Int)}(hl:cs.length=rw.length)(hn:cs.length<=1000)(h:∀r∈rw,r.length=w/\In9 r)(hw:w<=1000):Zds [.t (.int w),.t (.lst (rw.map rowT)),.lst ((cs.map T.int).map D.t)]=.ret (.t (.lst ((dotW cs rw w).map .int))) [.t (.int w),.t (.lst (rw.map rowT)),.lst ((cs.map T.int).map D.t)]:=by
 obtain⟨x4,x5,x6,f⟩:=Znf (w:=(w:Int)) hl hn h hw w 0 .e .e .e (.inl rfl) (.inl rfl) (.inl rfl) (by omega)
 unfold Zds runF Zef
 rw[show Zbx 7 [.t (.int w),.t (.lst (rw.map rowT)),.lst ((cs.map T.int).map D.t)]=[.v (.t (.int w)),.v (.t (.lst (rw.map rowT))),.x (.lst ((cs.map T.int).map D.t)),.e,.e,.e,.e] from rfl]
 rw[ZaQ (σ1:=suE w cs rw (dotW cs rw 0) .e .e .e) (by simp_arith [])]
 rw[ZaQ (σ1:=suE w cs rw (dotW cs rw w) x4 x5 x6) (Zfe (Zgg (n:=w) (σ1:=suE w cs rw (dotW cs rw 0) .e .e .e) (by unfold suE;simp_arith []) (by omega)) (by rw[List.range_eq_range'];exact f))]
 have f1:=Zbz (ts:=(dotW cs rw w).map T.int)
 generalize dotW cs rw w=vs at *
 unfold suE
 simp_arith[f1]
theorem Zlq{i:Nat}{fa fk:SE}{σ σ1 σ2 σ3:Env'}{d kd:D}{kvs:List (Str×T)}{k:Str}(ha:fa σ=.ok d σ1)(h1:(σ1[i]?).bind Sl.get=some (.dct kvs))(hk:fk σ1=.ok kd σ2)(h2:(σ2[i]?).bind Sl.get=some (.dct kvs))(hs:frz kd=.str k)(hn:kvs.length<1000000)(hu:upSl i (.dct (putT kvs k (frz d))) σ2=some σ3):DL.sDPut i fa fk σ=.next σ3:=by
 unfold DL.sDPut
 rw[ha]
 simp only[Out.th,h1,hk,h2,hs,hn,if_true,hu]
theorem ZgD{z k:Str}{v:Int}:∀{kvs:List (Str×Int)},(kvs.map fun kv=>if kv.1=k then(kv.1,v) else kv).lookup z=if z=k then(kvs.lookup z).map fun _=>v else kvs.lookup z
 | []=>by simp
 | (a,u) :: r=>by
  have ih:=ZgD (z:=z) (k:=k) (v:=v) (kvs:=r)
  rw[List.map_cons]
  by_cases hak:a=k
  · rw[if_pos hak,List.lookup_cons,List.lookup_cons]
    by_cases hz:z=a
    · rw[show(z == a)=true by simp[hz]]
      simp[hz,hak]
    · rw[show(z == a)=false by simp[hz]]
      exact ih
  · rw[if_neg hak,List.lookup_cons,List.lookup_cons]
    by_cases hz:z=a
    · rw[show(z == a)=true by simp[hz]]
      simp[hz,hak]
    · rw[show(z == a)=false by simp[hz]]
      exact ih
theorem ZgE{z k:Str}{v:Int}{kvs:List (Str×Int)}:(putI kvs k v).lookup z=if z=k then some v else kvs.lookup z:=by
 unfold putI
 split
 · rename_i h
   rw[ZgD]
   by_cases hz:z=k
   · subst hz
     obtain⟨p,hp,e⟩:=List.any_eq_true.mp h
     obtain⟨u,hu⟩:=Zcr (z:=z) (List.mem_map.mpr ⟨p,hp,by simpa using e⟩)
     rw[hu]
     simp
   · rw[if_neg hz,if_neg hz]
 · rename_i h
   rw[Zfd]
   by_cases hz:z=k
   · subst hz
     have:kvs.lookup z=none:=ZdM fun q=>h (List.any_eq_true.mpr (by
      obtain⟨p,hp,e⟩:=List.mem_map.mp q
      exact⟨p,hp,by simp[e]⟩))
     rw[this]
   · rw[if_neg hz,if_neg hz]
     cases kvs.lookup z<;>rfl
theorem Zlr{p:Str×Int}{k:Str}{v:Int}{kvs:List (Str×Int)}(h:p∈putI kvs k v):p∈kvs\/p=(k,v):=by
 unfold putI at h
 split at h
 · obtain⟨q,hq,rfl⟩:=List.mem_map.mp h
   split
   · rename_i e
     exact .inr (by rw[e])
   · exact .inl hq
 · rcases List.mem_append.mp h with q | q
   · exact .inl q
   · exact .inr (by simpa using q)
theorem Zg7{k:Str}{v:Int}{kvs:List (Str×Int)}:(putI kvs k v).length<=kvs.length+1:=by
 unfold putI
 split<;>simp
section
variable{nm ds sh:List Str}{cs:List Int}{kvs:List (Str×Int)}
theorem HK.step(H:HK nm ds sh cs kvs)(nd:nm.Nodup)(hk:cs.length<nm.length)(hd:∀x∈nm,x∈ds/\x∉sh){c:Int}(c0:0<=c)(c1:c<=999999999999)(hl:kvs.length+1<=1000):HK nm ds sh (cs++[c]) (putI kvs nm[cs.length] c):=by
 refine⟨fun p hp=>?_,fun i hi=>?_,Nat.le_trans Zg7 hl⟩
 · rcases Zlr hp with q | rfl
   · exact H.mem p q
   · obtain⟨a,b⟩:=hd _ (List.getElem_mem hk)
     exact⟨a,c0,c1,fun z=>absurd z b⟩
 · rw[ZgE]
   by_cases e:i=cs.length
   · subst e
     simp
   · rw[if_neg (fun z=>e (by rw[<- ZoH nd hi,z,ZoH nd hk])),H.val i hi]
     by_cases h:i<cs.length
     · simp[List.getElem?_append_left h]
     · simp[List.getElem?_eq_none (show cs.length<=i by omega),List.getElem?_append_right (show cs.length<=i by omega),List.getElem?_eq_none (show [c].length<=i - cs.length by simp;omega)]
theorem HK.skip(H:HK nm ds sh cs kvs):HK nm ds sh (cs++[0]) kvs:=by
 refine⟨H.mem,fun i hi=>?_,H.len⟩
 rw[H.val i hi]
 by_cases h:i<cs.length
 · simp[List.getElem?_append_left h]
 · rw[List.getD_eq_getElem?_getD,List.getD_eq_getElem?_getD,List.getElem?_eq_none (by omega),List.getElem?_append_right (by omega)]
   by_cases e:i - cs.length=0
   · rw[e];rfl
   · rw[List.getElem?_eq_none (by simp;omega)]
theorem HK.zero(H:HK nm ds sh cs kvs)(hd:∀x∈nm,x∈ds/\x∉sh){z:Str}(h1:z∈ds)(h2:z∈sh)(hl:kvs.length+1<=1000):HK nm ds sh cs (putI kvs z 0):=by
 refine⟨fun p hp=>?_,fun i hi=>?_,Nat.le_trans Zg7 hl⟩
 · rcases Zlr hp with q | rfl
   · exact H.mem p q
   · exact⟨h1,Int.le_refl 0,(show(0:Int)<=999999999999 by decide),fun _=>rfl⟩
 · rw[ZgE,if_neg (fun q=>by have:=(hd _ (List.getElem_mem hi)).2;rw[q] at this;exact this h2),H.val i hi]
end
section
variable{sc:List Int}{w z:Int}{o:List T}{d3 d5:D}{nm ds sh:List Str}
abbrev cE(sc:List Int)(w:Int)(o:List T)(d3:D)(nm:List Str)(d5:D)(z:Int)(cs:List Int)(kvs:List (Str×Int))(x9 x10 x11:Sl):Env':=[.v (.t (.scr sc)),.v (.t (.int w)),.v (off o),.v d3,.v (.t (.lst (nm.map .str))),.v d5,.v (.t (.int z)),.v (.lst ((cs.map T.int).map D.t)),.v (.dct (dctT kvs)),x9,x10,x11,.e,.e,.e,.e]
abbrev cB1:SS:=sAsg (Zaw 2 ZaT [none,none] (Zad (eVar 0) (Zad (eFrz (e2 oAdd (eC (.int 18)) (eVar 9))) aNil))) (Zag 10)
abbrev cB2:SS:=sApp 7 (eFrz (e2 oIx (eLst (Zad (e2 oMod (e2 oDiv (eVar 10) (eC (.int 5))) (eVar 6)) (Zad (eC (.int 0)) aNil))) (e1 oInt (eB oEq (e2 oMod (eVar 10) (eC (.int 5))) (eC (.int 4))))))
abbrev cB3:SS:=sIf (sT (eB oLt (e2 oMod (eVar 10) (eC (.int 5))) (eC (.int 4)))) (DL.sDPut 8 (eP (pIx (bVar 7) (pB (bVar 9)))) (e2 oIx (eVar 4) (eVar 9))) ZaS
abbrev cB:SS:=sSeq cB1 (sSeq cB2 cB3)
theorem Zqz{cs:List Int}{kvs:List (Str×Int)}{x10 x11:Sl}(h10:okX x10)(H:HK nm ds sh cs kvs)(nd:nm.Nodup)(hk:cs.length<nm.length)(hd:∀x∈nm,x∈ds/\x∉sh)(z0:0<z)(z1:z<=1000000000000)(hl:kvs.length<=cs.length)(hc:cs.length<=100):∃c kvs' x10',okX x10'/\HK nm ds sh (cs++[c]) kvs'/\kvs'.length<=cs.length+1/\cB (cE sc w o d3 nm d5 z cs kvs (.v (.t (.int cs.length))) x10 x11)=.next (cE sc w o d3 nm d5 z (cs++[c]) kvs' (.v (.t (.int cs.length))) x10' x11):=by
 obtain⟨v,av⟩:=l_at sc (18+cs.length)
 rw[show((18+cs.length:Nat):Int)=18+(cs.length:Int) by omega] at av
 have s1:cB1 (cE sc w o d3 nm d5 z cs kvs (.v (.t (.int cs.length))) x10 x11)=.next (cE sc w o d3 nm d5 z cs kvs (.v (.t (.int cs.length))) (.v (.t (.int v))) x11):=by
  unfold cB1 cE
  rcases h10 with rfl | ⟨d,rfl⟩<;>simp_arith[av]
 have o1:oDiv (.int v) (.int 5)=some (.t (.int (v / 5))):=Zem (by decide) (by decide)
 have o2:oMod (.int (v / 5)) (.int z)=some (.t (.int (v / 5 % z))):=ZbS z0
 have o3:oMod (.int v) (.int 5)=some (.t (.int (v % 5))):=ZbS (by decide)
 have it:∀p:Bool,oInt (.bl p)=some (.t (.int (if p then 1 else 0))):=fun p=>rfl
 have n1:cs.length<1000000:=by omega
 have ap:∀c:Int,((cs.map T.int).map D.t)++[D.t (.int c)]=((cs++[c]).map T.int).map D.t:=fun c=>by simp
 have q0:=Int.emod_nonneg (v / 5) (show z≠0 by omega)
 have q1:=Int.emod_lt_of_pos (v / 5) z0
 by_cases h4:v % 5=4
 · have ix:oIx (.lst [.int (v / 5 % z),.int 0]) (.int 1)=some (.t (.int 0)):=rfl
   refine⟨0,kvs,.v (.t (.int v)),.inr ⟨_,rfl⟩,H.skip,by omega,?_⟩
   have s2:cB2 (cE sc w o d3 nm d5 z cs kvs (.v (.t (.int cs.length))) (.v (.t (.int v))) x11)=.next (cE sc w o d3 nm d5 z (cs++[0]) kvs (.v (.t (.int cs.length))) (.v (.t (.int v))) x11):=by
    unfold cB2 cE
    simp_arith[o1,o2,o3,h4,it,ix,n1,ap]
   have s3:cB3 (cE sc w o d3 nm d5 z (cs++[0]) kvs (.v (.t (.int cs.length))) (.v (.t (.int v))) x11)=.next (cE sc w o d3 nm d5 z (cs++[0]) kvs (.v (.t (.int cs.length))) (.v (.t (.int v))) x11):=by
    unfold cB3 cE
    simp_arith[o3,h4]
   unfold cB
   rw[ZaQ s1,ZaQ s2,s3]
 · have ix:oIx (.lst [.int (v / 5 % z),.int 0]) (.int 0)=some (.t (.int (v / 5 % z))):=rfl
   have h5:v % 5<4:=by omega
   refine⟨v / 5 % z,_,.v (.t (.int v)),.inr ⟨_,rfl⟩,H.step nd hk hd q0 (by omega) (by omega),Nat.le_trans Zg7 (by omega),?_⟩
   have s2:cB2 (cE sc w o d3 nm d5 z cs kvs (.v (.t (.int cs.length))) (.v (.t (.int v))) x11)=.next (cE sc w o d3 nm d5 z (cs++[v / 5 % z]) kvs (.v (.t (.int cs.length))) (.v (.t (.int v))) x11):=by
    unfold cB2 cE
    simp_arith[o1,o2,o3,h4,it,ix,n1,ap]
   generalize v / 5 % z=c at *
   have c1:sT (eB oLt (e2 oMod (eVar 10) (eC (.int 5))) (eC (.int 4))) (cE sc w o d3 nm d5 z (cs++[c]) kvs (.v (.t (.int cs.length))) (.v (.t (.int v))) x11)=.ok true (cE sc w o d3 nm d5 z (cs++[c]) kvs (.v (.t (.int cs.length))) (.v (.t (.int v))) x11):=by
    unfold cE
    simp_arith[o3,h5]
   have i1:ixD (.lst (((cs++[c]).map T.int).map .t)) (cs.length:Int)=some (.int c):=by rw[Zlp (by simp)];simp
   have ep:eP (pIx (bVar 7) (pB (bVar 9))) (cE sc w o d3 nm d5 z (cs++[c]) kvs (.v (.t (.int cs.length))) (.v (.t (.int v))) x11)=.ok (.t (.int c)) (cE sc w o d3 nm d5 z (cs++[c]) kvs (.v (.t (.int cs.length))) (.v (.t (.int v))) x11):=by
    have p1:pIx (bVar 7) (pB (bVar 9)) (cE sc w o d3 nm d5 z (cs++[c]) kvs (.v (.t (.int cs.length))) (.v (.t (.int v))) x11)=some (.int c):=i1
    unfold eP
    rw[p1]
   have a1:oIx (.lst (nm.map .str)) (.int cs.length)=some (.t (.str nm[cs.length])):=by rw[Zdl,DL.atI_nat];simp[hk]
   have ek:e2 oIx (eVar 4) (eVar 9) (cE sc w o d3 nm d5 z (cs++[c]) kvs (.v (.t (.int cs.length))) (.v (.t (.int v))) x11)=.ok (.t (.str nm[cs.length])) (cE sc w o d3 nm d5 z (cs++[c]) kvs (.v (.t (.int cs.length))) (.v (.t (.int v))) x11):=by
    generalize nm[cs.length]=y at *
    unfold cE
    simp_arith[a1]
   have s3:cB3 (cE sc w o d3 nm d5 z (cs++[c]) kvs (.v (.t (.int cs.length))) (.v (.t (.int v))) x11)=.next (cE sc w o d3 nm d5 z (cs++[c]) (putI kvs nm[cs.length] c) (.v (.t (.int cs.length))) (.v (.t (.int v))) x11):=by
    unfold cB3
    rw[ZeR c1,if_pos rfl]
    exact Zlq ep rfl ek rfl Zby (by rw[List.length_map];omega) (by rw[Zby,Zk9];rfl)
   unfold cB
   rw[ZaQ s1,ZaQ s2,s3]
theorem Zng{x11:Sl}(nd:nm.Nodup)(hd:∀x∈nm,x∈ds/\x∉sh)(z0:0<z)(z1:z<=1000000000000)(hn:nm.length<=100):∀(m:Nat) (cs:List Int) (kvs:List (Str×Int)) (x9 x10:Sl),okX x9->okX x10->HK nm ds sh cs kvs->kvs.length<=cs.length->cs.length+m=nm.length -> ∃cs' kvs' x9' x10',okX x9'/\HK nm ds sh cs' kvs'/\cs'.length=nm.length/\kvs'.length<=nm.length/\forS (Zag 9) cB (intN (List.range' cs.length m)) (cE sc w o d3 nm d5 z cs kvs x9 x10 x11)=.next (cE sc w o d3 nm d5 z cs' kvs' x9' x10' x11)
 | 0,cs,kvs,x9,x10,h9,h10,H,hl,hm=>⟨cs,kvs,x9,x10,h9,H,by omega,by omega,rfl⟩
 | m+1,cs,kvs,x9,x10,h9,h10,H,hl,hm=>by
  obtain⟨c,kvs1,y10,g10,H1,l1,b1⟩:=Zqz (sc:=sc) (w:=w) (o:=o) (d3:=d3) (d5:=d5) (x11:=x11) h10 H nd (by omega) hd z0 z1 hl (by omega)
  obtain⟨cs',kvs',x9',x10',g9,H2,l2,l3,ih⟩:=Zng (x11:=x11) nd hd z0 z1 hn m (cs++[c]) kvs1 (.v (.t (.int cs.length))) y10 (.inr ⟨_,rfl⟩) g10 H1 (by simp;omega) (by simp;omega)
  refine⟨cs',kvs',x9',x10',g9,H2,l2,l3,?_⟩
  have k1:Zag 9 (.t (.int cs.length)) (cE sc w o d3 nm d5 z cs kvs x9 x10 x11)=some (cE sc w o d3 nm d5 z cs kvs (.v (.t (.int cs.length))) x10 x11):=by rcases h9 with rfl | ⟨d,rfl⟩<;>rfl
  rw[List.range'_succ,intN,List.map_cons,forS,k1]
  dsimp only
  rw[b1]
  rw[List.length_append] at ih
  exact ih
theorem Znh{cs:List Int}{x9 x10:Sl}(hd:∀x∈nm,x∈ds/\x∉sh):∀(zs:List Str) (kvs:List (Str×Int)) (x11:Sl),okX x11->HK nm ds sh cs kvs->(∀y∈zs,y∈ds/\y∈sh)->kvs.length+zs.length<=1000 -> ∃kvs' x11',HK nm ds sh cs kvs'/\forS (Zag 11) (DL.sDPut 8 (eC (.int 0)) (eVar 11)) (zs.map .str) (cE sc w o d3 nm d5 z cs kvs x9 x10 x11)=.next (cE sc w o d3 nm d5 z cs kvs' x9 x10 x11')
 | [],kvs,x11,_,H,_,_=>⟨kvs,x11,H,rfl⟩
 | y :: zs,kvs,x11,hx,H,hz,hl=>by
  simp only[List.length_cons] at hl
  obtain⟨h1,h2⟩:=hz y (.head _)
  obtain⟨kvs',x11',H',ih⟩:=Znh (x9:=x9) (x10:=x10) hd zs (putI kvs y 0) (.v (.t (.str y))) (.inr ⟨_,rfl⟩) (H.zero hd h1 h2 (by omega)) (fun u hu=>hz u (.tail _ hu)) (by have:=Zg7 (k:=y) (v:=0) (kvs:=kvs);omega)
  refine⟨kvs',x11',H',?_⟩
  have k1:Zag 11 (.t (.str y)) (cE sc w o d3 nm d5 z cs kvs x9 x10 x11)=some (cE sc w o d3 nm d5 z cs kvs x9 x10 (.v (.t (.str y)))):=by rcases hx with rfl | ⟨d,rfl⟩<;>rfl
  have b1:DL.sDPut 8 (eC (.int 0)) (eVar 11) (cE sc w o d3 nm d5 z cs kvs x9 x10 (.v (.t (.str y))))=.next (cE sc w o d3 nm d5 z cs (putI kvs y 0) x9 x10 (.v (.t (.str y)))):=
   Zlq (show eC (.int 0) (cE sc w o d3 nm d5 z cs kvs x9 x10 (.v (.t (.str y))))=.ok (.t (.int 0)) (cE sc w o d3 nm d5 z cs kvs x9 x10 (.v (.t (.str y)))) from rfl) rfl (show eVar 11 (cE sc w o d3 nm d5 z cs kvs x9 x10 (.v (.t (.str y))))=.ok (.t (.str y)) (cE sc w o d3 nm d5 z cs kvs x9 x10 (.v (.t (.str y)))) by unfold cE;simp[eVar,Zby]) rfl Zby (by rw[List.length_map];omega) (by rw[Zby,Zk9];rfl)
  rw[List.map_cons,forS,k1]
  dsimp only
  rw[b1]
  exact ih
end
theorem Zls{sh ds:List Str}{rs:List (List Int)}{g:List Int->List Int}:Zau sh ds (rs.map g)=(Zau sh ds rs).map g:=by
 unfold Zau
 rw[List.zip_map_right,List.filter_map,List.map_map,List.map_map]
 rfl
theorem Zni:∀(rw:List (List Int)) (x:Sl),okX x->Zbk (Zag 0) Zbl (Zd1 [0]) (rw.map rowT) [x]=some ((rw.map fun _=>[0]).map rowD)
 | [],_,_=>rfl
 | r :: rw,x,hx=>by
  have ih:=Zni rw (.v (.t (rowT r))) (.inr ⟨_,rfl⟩)
  have k1:Zag 0 (.t (rowT r)) [x]=some [.v (.t (rowT r))]:=by rcases hx with rfl | ⟨q,rfl⟩<;>rfl
  exact cs_t k1 rfl rfl ih
theorem Znj:W "lone":=⟨by decide +kernel,by decide +kernel,by decide +kernel⟩
theorem ZqA:ZeA "lone"=true:=by decide +kernel
abbrev pE(sc:List Int)(w:Int)(o:List T)(d3:D)(nm:List Str)(d5:D):Env':=[.v (.t (.scr sc)),.v (.t (.int w)),.v (off o),.v d3,.v (.lst ((nm.map T.str).map D.t)),.v d5,.e,.e,.e,.e,.e,.e,.e,.e,.e,.e]
abbrev lA1:SS:=sAsg (Zaw 2 Zd7 [none,none] (Zad (eVar 0) (Zad (eC (.int 10)) aNil))) (kTup ZfR 5 (Zay (Zag 1) (Zay (Zag 2) (Zay (Zag 3) (Zay (Zag 4) (Zay (Zag 5) Zcc))))))
abbrev lA2:SS:=sIf (sT (eB oEqL (eVar 3) (eLst aNil))) (sSeq (Zcb (Zbs 2 "Office" "put_ware" 2 ZaV [none] (Zad (eC (.str "lone")) aNil)))
 (sSeq (sAsg (eLst (Zad (eC (.str "lone")) aNil)) (Zag 3))
 (sAsg (Zbh (iLst (eVar 5)) [none] (Zag 0) Zbl (Zd1 [0])) (Zag 5)))) ZaS
structure PreL(sc:List Int)(ws ds sh:List Str)(rs:List (List Int))(d3 d5:D):Prop where
 s:SetR ws.length ws ds rs sh
 p:0<ws.length
 f3:frz d3=.lst (ws.map .str)
 f5:frz d5=.lst ((Zau sh ds rs).map rowT)
theorem Zrc(sc:List Int)(g:SS):∃(w:Int) (ws ds sh:List Str) (rs:List (List Int)) (ss:List T) (d3 d5:D),PreL sc ws ds sh rs d3 d5/\sSeq lA1 (sSeq lA2 g) [.v (.t (.scr sc)),.e,.e,.e,.e,.e,.e,.e,.e,.e,.e,.e,.e,.e,.e,.e]=g (pE sc w (ss++[stT ws ds rs sh]) d3 (ZaE sh ds) d5):=by
 obtain⟨w,ws,ds,sh,rs,ss,S,hs,e⟩:=Zrb sc
 have s1:lA1 [.v (.t (.scr sc)),.e,.e,.e,.e,.e,.e,.e,.e,.e,.e,.e,.e,.e,.e,.e]=.next (pE sc w (ss++[stT ws ds rs sh]) (.t (.lst (ws.map .str))) (ZaE sh ds) (.lst (((Zau sh ds rs).map rowT).map D.t))):=by
  generalize Zau sh ds rs=rw at *
  generalize ZaE sh ds=nm at *
  unfold lA1 pE
  simp_arith[e]
 have c1:sT (eB oEqL (eVar 3) (eLst aNil)) (pE sc w (ss++[stT ws ds rs sh]) (.t (.lst (ws.map .str))) (ZaE sh ds) (.lst (((Zau sh ds rs).map rowT).map D.t)))=.ok ws.isEmpty (pE sc w (ss++[stT ws ds rs sh]) (.t (.lst (ws.map .str))) (ZaE sh ds) (.lst (((Zau sh ds rs).map rowT).map D.t))):=by
  have q:oEqL (.lst (ws.map .str)) (.lst [])=some ws.isEmpty:=by unfold oEqL;cases ws<;>rfl
  generalize Zau sh ds rs=rw at *
  generalize ZaE sh ds=nm at *
  unfold pE
  simp_arith[q]
 rw[ZaQ s1]
 generalize (w:Int)=v at *
 cases ws with
 | nil=>
  have p1:=Zm3 (ss:=ss) Znj S.ok (by omega)
  have hd:dueW "lone" [] ss.length=none:=by
   unfold dueW
   rw[if_neg (by rw[ZqA];decide),if_neg (by simp),if_neg (by decide),if_neg (by omega)]
  rw[hd] at p1
  have hr0:∀r∈rs,r=[]:=fun r hr=>List.length_eq_zero_iff.mp (S.ok.lw r hr)
  have z1:=Zni (Zau sh ds rs) .e (.inl rfl)
  refine⟨v,["lone"],ds,sh,rs.map (· ++ [0]),ss++[stT [] ds rs sh],.lst [.t (.str "lone")],.lst (((Zau sh ds rs).map fun _=>[0]).map rowD),⟨⟨⟨by simp[S.ok.lr],fun r hr=>?_,by simp,S.ok.nd,by decide,S.ok.d10,S.ok.sub⟩,rfl,fun z hz=>by rw[List.mem_singleton.mp hz];exact Znj,S.wd,fun r hr=>?_⟩,by decide,by simp[Zkz,Zby],?_⟩,?_⟩
  · obtain⟨r',h',rfl⟩:=List.mem_map.mp hr
    rw[hr0 r' h']
    rfl
  · obtain⟨r',h',rfl⟩:=List.mem_map.mp hr
    rw[hr0 r' h']
    intro u hu
    simp at hu
    subst hu
    decide
  · rw[ZkW,Zls]
    congr 2
    refine List.map_congr_left fun r hr=>?_
    rw[ZeS (P:=fun r=>r=[]) hr0 r hr]
    rfl
  · have s2:lA2 (pE sc v (ss++[stT [] ds rs sh]) (.t (.lst (([]:List Str).map .str))) (ZaE sh ds) (.lst (((Zau sh ds rs).map rowT).map D.t)))=.next (pE sc v (ss++[stT [] ds rs sh]++[stT ["lone"] ds (rs.map (· ++ [0])) sh]) (.lst [.t (.str "lone")]) (ZaE sh ds) (.lst (((Zau sh ds rs).map fun _=>[0]).map rowD))):=by
     unfold lA2
     rw[ZeR (k:=true) c1,if_pos rfl]
     have n1:((Zau sh ds rs).map rowT).length<sizeLine:=by
      refine Zbv ?_
      have:(Zau sh ds rs).length<=ds.length:=by
       unfold Zau
       rw[List.length_map]
       refine Nat.le_trans (List.length_filter_le _ _) ?_
       rw[List.length_zip]
       omega
      have:=S.ok.d10
      simp
      omega
     have f5:=Zbz (ts:=(Zau sh ds rs).map rowT)
     generalize (Zau sh ds rs).map rowT=rw at *
     generalize ((Zau sh ds rs).map fun _=>[0]).map rowD=rd at *
     generalize ZaE sh ds=nm at *
     simp only[List.map_nil,List.nil_append] at p1 ⊢
     unfold pE
     rw[ZaQ (σ1:=pE sc v (ss++[stT [] ds rs sh]++[stT ["lone"] ds (rs.map (· ++ [0])) sh]) (.t (.lst [])) nm (.lst (rw.map D.t))) (by unfold pE;simp_arith[p1])]
     rw[ZaQ (σ1:=pE sc v (ss++[stT [] ds rs sh]++[stT ["lone"] ds (rs.map (· ++ [0])) sh]) (.lst [.t (.str "lone")]) nm (.lst (rw.map D.t))) (by unfold pE;simp_arith [])]
     unfold pE
     simp_arith[Zbh,f5,n1,ZaC,capE,z1]
    rw[ZaQ s2]
 | cons z ws=>
  refine⟨v,z :: ws,ds,sh,rs,ss,.t (.lst ((z :: ws).map .str)),.lst (((Zau sh ds rs).map rowT).map D.t),⟨by rw[S.wl];exact S,by simp,Zby,Zbz⟩,?_⟩
  have s2:lA2 (pE sc v (ss++[stT (z :: ws) ds rs sh]) (.t (.lst ((z :: ws).map .str))) (ZaE sh ds) (.lst (((Zau sh ds rs).map rowT).map D.t)))=.next (pE sc v (ss++[stT (z :: ws) ds rs sh]) (.t (.lst ((z :: ws).map .str))) (ZaE sh ds) (.lst (((Zau sh ds rs).map rowT).map D.t))):=by
   unfold lA2
   rw[ZeR (k:=false) c1]
   rfl
  rw[ZaQ s2]
theorem Zi0{j:Nat}:∀{cs:List Int}{rw:List (List Int)},(∀c∈cs,c=0)->dot cs rw j=0
 | [],_,_=>rfl
 | _ :: _,[],_=>rfl
 | c :: cs,r :: rw,h=>by
  have ih:=Zi0 (j:=j) (cs:=cs) (rw:=rw) fun c hc=>h c (.tail _ hc)
  have h0:=h c (.head _)
  subst h0
  unfold dot dotL at ih ⊢
  simpa using ih
theorem Zmv{nm ds sh:List Str}{cs:List Int}{kvs:List (Str×Int)}{rw:List (List Int)}{j:Nat}(H:HK nm ds sh cs kvs)(hc:cs.length=nm.length)(h:dot cs rw j≠0):∃v∈kvs.map Prod.snd,0<v:=by
 have:∃c∈cs,c≠0:=Classical.byContradiction fun q=>h (Zi0 fun c hc=>Classical.byContradiction fun z=>q ⟨c,hc,z⟩)
 obtain⟨c,hm,h0⟩:=this
 obtain⟨i,hi,rfl⟩:=List.mem_iff_getElem.mp hm
 have hv:=H.val i (by omega)
 have hg:cs.getD i 0=cs[i]:=by simp[hi]
 rw[hg] at hv
 cases q:kvs.lookup (nm[i]'(by omega)) with
 | none=>rw[q] at hv;exact absurd hv.symm h0
 | some u=>
  rw[q] at hv
  have hu:u=cs[i]:=hv
  have m:=Zff q
  have:=(H.mem _ m).2.1
  refine⟨u,List.mem_map.mpr ⟨_,m,rfl⟩,?_⟩
  simp only at this
  omega
theorem Zlt{due:List Int}:∀(m k:Nat) (x:Sl),okX x->k+m=due.length->Zbk (Zag 0) (sT (eB oNe (e2 oIx (eVar 1) (eVar 0)) (eC (.int 0)))) (eVar 0) (intN (List.range' k m)) [x,.v (.t (.lst (due.map .int)))]=some ((intN (offK k (due.drop k))).map D.t)
 | 0,k,x,hx,hk=>by
  rw[List.drop_of_length_le (by omega)]
  rfl
 | m+1,k,x,hx,hk=>by
  have ih:=Zlt (due:=due) m (k+1) (.v (.t (.int k))) (.inr ⟨_,rfl⟩) (by omega)
  have kl:k<due.length:=by omega
  have k1:Zag 0 (.t (.int k)) [x,.v (.t (.lst (due.map .int)))]=some [.v (.t (.int k)),.v (.t (.lst (due.map .int)))]:=by rcases hx with rfl | ⟨q,rfl⟩<;>rfl
  have a1:oIx (.lst (due.map .int)) (.int k)=some (.t (.int due[k])):=by rw[Zdl,DL.atI_nat];simp[kl]
  have b1:sT (eB oNe (e2 oIx (eVar 1) (eVar 0)) (eC (.int 0))) [.v (.t (.int k)),.v (.t (.lst (due.map .int)))]=.ok (!decide (due[k]=0)) [.v (.t (.int k)),.v (.t (.lst (due.map .int)))]:=by
   generalize due[k]=v at *
   simp_arith[a1]
  rw[List.range'_succ,List.drop_eq_getElem_cons kl]
  unfold offK
  by_cases h0:due[k]=0
  · rw[decide_eq_true h0] at b1
    rw[if_pos h0]
    exact cs_f k1 b1 ih
  · rw[decide_eq_false h0] at b1
    rw[if_neg h0]
    exact cs_t k1 b1 (by simp_arith []) ih
section
variable{sc:List Int}{w z:Int}{ss:List T}{ws ds sh:List Str}{rs:List (List Int)}{cs:List Int}{kvs:List (Str×Int)}{due:List Int}
abbrev gE(sc:List Int)(w:Int)(o:List T)(ws nm:List Str)(rw:List (List Int))(z:Int)(cs:List Int)(kvs:List (Str×Int))(x9 x10 x11 x12:Sl)(due:List Int)(x14 x15:Sl):Env':=[.v (.t (.scr sc)),.v (.t (.int w)),.v (off o),.v (.t (.lst (ws.map .str))),.v (.t (.lst (nm.map .str))),.v (.t (.lst (rw.map rowT))),.v (.t (.int z)),.v (.lst ((cs.map T.int).map D.t)),.v (.t (.dct (dctT kvs))),x9,x10,x11,x12,.v (.t (.lst (due.map .int))),x14,x15]
abbrev eB1:SS:=sIf (sNot (sT (Zaw 2 (ZaF 4) [none,none] (Zad (eFrz (Zbs 2 "Office" "ends_at" 3 Zbb [none,none] (Zad (eVar 8) (Zad (eFrz (e2 oIx (eVar 3) (eVar 9))) aNil)))) (Zad (eFrz (e2 oIx (eVar 13) (eVar 9))) aNil))))) (sRet (eC (.bl false))) ZaS
theorem Znk(S:SetR ws.length ws ds rs sh)(H:HK (ZaE sh ds) ds sh cs kvs)(hc:cs.length=(ZaE sh ds).length){x10 x11 x12:Sl}:∀(m k:Nat) (x9:Sl),okX x9->k+m=ws.length -> ∃x9',forS (Zag 9) eB1 (intN (List.range' k m)) (gE sc w (ss++[stT ws ds rs sh]) ws (ZaE sh ds) (Zau sh ds rs) z cs kvs x9 x10 x11 x12 (dotW cs (Zau sh ds rs) ws.length) .e .e)=.next (gE sc w (ss++[stT ws ds rs sh]) ws (ZaE sh ds) (Zau sh ds rs) z cs kvs x9' x10 x11 x12 (dotW cs (Zau sh ds rs) ws.length) .e .e)
 | 0,k,x9,_,_=>⟨x9,rfl⟩
 | m+1,k,x9,hx,hk=>by
  obtain⟨x9',ih⟩:=Znk S H hc (x10:=x10) (x11:=x11) (x12:=x12) m (k+1) (.v (.t (.int k))) (.inr ⟨_,rfl⟩) (by omega)
  refine⟨x9',?_⟩
  have kl:k<ws.length:=by omega
  have k1:Zag 9 (.t (.int k)) (gE sc w (ss++[stT ws ds rs sh]) ws (ZaE sh ds) (Zau sh ds rs) z cs kvs x9 x10 x11 x12 (dotW cs (Zau sh ds rs) ws.length) .e .e)=some (gE sc w (ss++[stT ws ds rs sh]) ws (ZaE sh ds) (Zau sh ds rs) z cs kvs (.v (.t (.int k))) x10 x11 x12 (dotW cs (Zau sh ds rs) ws.length) .e .e):=by rcases hx with rfl | ⟨q,rfl⟩<;>rfl
  have a1:oIx (.lst (ws.map .str)) (.int k)=some (.t (.str ws[k])):=by rw[Zdl,DL.atI_nat];simp[kl]
  have a2:oIx (.lst ((dotW cs (Zau sh ds rs) ws.length).map .int)) (.int k)=some (.t (.int (dot cs (Zau sh ds rs) k))):=by rw[Zdl,DL.atI_nat];simp[kl]
  have e:=Zmq (ss:=ss) S H hc (z:=ws[k]) (List.getElem_mem kl)
  rw[ZoH S.ok.nw kl] at e
  have e6:ZaF 4 [.t (.int (dot cs (Zau sh ds rs) k)),.t (.int (dot cs (Zau sh ds rs) k))]=.ret (.t (.bl true)) [.t (.int (dot cs (Zau sh ds rs) k)),.t (.int (dot cs (Zau sh ds rs) k))]:=ZeQ 3 _ rfl
  have b1:eB1 (gE sc w (ss++[stT ws ds rs sh]) ws (ZaE sh ds) (Zau sh ds rs) z cs kvs (.v (.t (.int k))) x10 x11 x12 (dotW cs (Zau sh ds rs) ws.length) .e .e)=.next (gE sc w (ss++[stT ws ds rs sh]) ws (ZaE sh ds) (Zau sh ds rs) z cs kvs (.v (.t (.int k))) x10 x11 x12 (dotW cs (Zau sh ds rs) ws.length) .e .e):=by
   clear ih k1
   generalize dot cs (Zau sh ds rs) k=v at *
   generalize dotW cs (Zau sh ds rs) ws.length=due at *
   generalize ws[k]=y at *
   clear H hc
   generalize ZaE sh ds=nm at *
   generalize Zau sh ds rs=rw at *
   unfold eB1 gE
   simp_arith[a1,a2,e,e6]
  rw[List.range'_succ,intN,List.map_cons,forS,k1]
  dsimp only
  rw[b1]
  exact ih
abbrev sB1:SS:=sAsg (eTup (Zad (eC (.str "uneven")) (Zad (e2 oIx (eVar 3) (e2 oIx (eVar 14) (eC (.int 0)))) (Zad (e2 oIx (eVar 13) (e2 oIx (eVar 14) (eC (.int 0)))) aNil)))) (Zag 15)
abbrev sB2:SS:=sIf (sNot (sT (Zaw 2 (ZaF 4) [none,none] (Zad (eFrz (Zbs 2 "Office" "settle" 2 Zbn [none] (Zad (eVar 8) aNil))) (Zad (eVar 15) aNil))))) (sRet (eC (.bl false))) ZaS
abbrev sB:SS:=sIf (sT (eB oNeL (eVar 14) (eLst aNil))) (sSeq sB1 sB2) ZaS
theorem ZqB(S:SetR ws.length ws ds rs sh)(H:HK (ZaE sh ds) ds sh cs kvs)(hc:cs.length=(ZaE sh ds).length){x9 x10 x11 x12:Sl}:∃x15,sB (gE sc w (ss++[stT ws ds rs sh]) ws (ZaE sh ds) (Zau sh ds rs) z cs kvs x9 x10 x11 x12 (dotW cs (Zau sh ds rs) ws.length) (.v (.lst ((intN (offK 0 (dotW cs (Zau sh ds rs) ws.length))).map D.t))) .e)=.next (gE sc w (ss++[stT ws ds rs sh]) ws (ZaE sh ds) (Zau sh ds rs) z cs kvs x9 x10 x11 x12 (dotW cs (Zau sh ds rs) ws.length) (.v (.t (.lst (intN (offK 0 (dotW cs (Zau sh ds rs) ws.length)))))) x15):=by
 have f1:=Zbz (ts:=intN (offK 0 (dotW cs (Zau sh ds rs) ws.length)))
 have c1:sT (eB oNeL (eVar 14) (eLst aNil)) (gE sc w (ss++[stT ws ds rs sh]) ws (ZaE sh ds) (Zau sh ds rs) z cs kvs x9 x10 x11 x12 (dotW cs (Zau sh ds rs) ws.length) (.v (.lst ((intN (offK 0 (dotW cs (Zau sh ds rs) ws.length))).map D.t))) .e)=.ok (!(offK 0 (dotW cs (Zau sh ds rs) ws.length)).isEmpty) (gE sc w (ss++[stT ws ds rs sh]) ws (ZaE sh ds) (Zau sh ds rs) z cs kvs x9 x10 x11 x12 (dotW cs (Zau sh ds rs) ws.length) (.v (.t (.lst (intN (offK 0 (dotW cs (Zau sh ds rs) ws.length)))))) .e):=by
  have q:∀l:List Nat,oNeL (.lst (intN l)) (.lst [])=some (!l.isEmpty):=fun l=>by unfold oNeL;cases l<;>rfl
  have q1:=q (offK 0 (dotW cs (Zau sh ds rs) ws.length))
  clear H hc
  generalize (offK 0 (dotW cs (Zau sh ds rs) ws.length)).isEmpty=b at *
  generalize intN (offK 0 (dotW cs (Zau sh ds rs) ws.length))=il at *
  generalize dotW cs (Zau sh ds rs) ws.length=due at *
  generalize ZaE sh ds=nm at *
  generalize Zau sh ds rs=rw at *
  unfold gE
  simp_arith[f1,q1]
 cases ho:offK 0 (dotW cs (Zau sh ds rs) ws.length) with
 | nil=>
  refine⟨.e,?_⟩
  rw[ho] at c1
  unfold sB
  rw[ZeR (k:=false) c1]
  rfl
 | cons i l=>
  obtain⟨_,hi,h0⟩:=Zg6 (k:=0) (vs:=dotW cs (Zau sh ds rs) ws.length) (i:=i) (by rw[ho];exact .head _)
  have hi':i<ws.length:=by simpa using hi
  have h0':dot cs (Zau sh ds rs) i≠0:=by simpa[hi'] using h0
  have e:=Zmt (ss:=ss) S H hc ho hi' (Zmv H hc h0')
  have a1:oIx (.lst (ws.map .str)) (.int i)=some (.t (.str ws[i])):=by rw[Zdl,DL.atI_nat];simp[hi']
  have a2:oIx (.lst ((dotW cs (Zau sh ds rs) ws.length).map .int)) (.int i)=some (.t (.int (dot cs (Zau sh ds rs) i))):=by rw[Zdl,DL.atI_nat];simp[hi']
  have a3:oIx (.lst (intN (i :: l))) (.int 0)=some (.t (.int i)):=by rw[Zdl,show(0:Int)=((0:Nat):Int) from rfl,DL.atI_nat];simp
  have e6:ZaF 4 [.t (.tup [.str "uneven",.str ws[i],.int (dot cs (Zau sh ds rs) i)]),.t (.tup [.str "uneven",.str ws[i],.int (dot cs (Zau sh ds rs) i)])]=.ret (.t (.bl true)) [.t (.tup [.str "uneven",.str ws[i],.int (dot cs (Zau sh ds rs) i)]),.t (.tup [.str "uneven",.str ws[i],.int (dot cs (Zau sh ds rs) i)])]:=ZeQ 3 _ rfl
  refine⟨.v (.t (.tup [.str "uneven",.str ws[i],.int (dot cs (Zau sh ds rs) i)])),?_⟩
  rw[ho] at c1
  unfold sB
  rw[ZeR (k:=true) c1,if_pos rfl]
  clear c1 H hc ho h0' h0 hi f1
  generalize intN (i :: l)=il at *
  generalize dot cs (Zau sh ds rs) i=v at *
  generalize dotW cs (Zau sh ds rs) ws.length=due at *
  generalize ws[i]=y at *
  generalize ZaE sh ds=nm at *
  generalize Zau sh ds rs=rw at *
  rw[ZaQ (σ1:=gE sc w (ss++[stT ws ds rs sh]) ws nm rw z cs kvs x9 x10 x11 x12 due (.v (.t (.lst il))) (.v (.t (.tup [.str "uneven",.str y,.int v])))) (by unfold gE;simp_arith[a1,a2,a3])]
  unfold sB2 gE
  simp_arith[e,e6]
end
abbrev u3:SS:=(sAsg (e2 oIx (eLst (Zad (eC (.int 4)) (Zad (e2 oPow (eC (.int 10)) (eC (.int 12))) aNil))) (e2 oMod (Zaw 2 ZaT [none,none] (Zad (eVar 0) (Zad (eC (.int 16)) aNil))) (eC (.int 2)))) (Zag 6))
abbrev u4:SS:=(sAsg (eLst aNil) (Zag 7))
abbrev u5:SS:=(sAsg Zji (Zag 8))
abbrev u6:SS:=(sFor (ZbC (e1 oLen (eVar 4))) (Zag 9) (sSeq (sAsg (Zaw 2 ZaT [none,none] (Zad (eVar 0) (Zad (eFrz (e2 oAdd (eC (.int 18)) (eVar 9))) aNil))) (Zag 10))
 (sSeq (sApp 7 (eFrz (e2 oIx (eLst (Zad (e2 oMod (e2 oDiv (eVar 10) (eC (.int 5))) (eVar 6)) (Zad (eC (.int 0)) aNil))) (e1 oInt (eB oEq (e2 oMod (eVar 10) (eC (.int 5))) (eC (.int 4)))))))
 (sIf (sT (eB oLt (e2 oMod (eVar 10) (eC (.int 5))) (eC (.int 4)))) (DL.sDPut 8 (eP (pIx (bVar 7) (pB (bVar 9)))) (e2 oIx (eVar 4) (eVar 9))) ZaS))))
abbrev u7:SS:=(sIf (sT (eB oEq (e2 oMod (e2 oDiv (Zaw 2 ZaT [none,none] (Zad (eVar 0) (Zad (eC (.int 16)) aNil))) (eC (.int 2))) (eC (.int 2))) (eC (.int 1)))) (sFor (iLst (Zbs 2 "Office" "forbidden" 1 ZaZ [] aNil)) (Zag 11) (DL.sDPut 8 (eC (.int 0)) (eVar 11))) ZaS)
abbrev u8:SS:=(sAsg (e1 ZhH (eVar 8)) (Zag 12))
abbrev u9:SS:=(sAsg (Zaw 3 Zds [none,none,some 7] (Zad (eFrz (e1 oLen (eVar 3))) (Zad (eVar 5) (aIo 7 aNil)))) (Zag 13))
abbrev u10:SS:=(sFor (ZbC (e1 oLen (eVar 3))) (Zag 9) (sIf (sNot (sT (Zaw 2 (ZaF 4) [none,none] (Zad (eFrz (Zbs 2 "Office" "ends_at" 3 Zbb [none,none] (Zad (eVar 8) (Zad (eFrz (e2 oIx (eVar 3) (eVar 9))) aNil)))) (Zad (eFrz (e2 oIx (eVar 13) (eVar 9))) aNil))))) (sRet (eC (.bl false))) ZaS))
abbrev u11:SS:=(sAsg (Zbh (ZbC (e1 oLen (eVar 3))) [none,some 13] (Zag 0) (sT (eB oNe (e2 oIx (eVar 1) (eVar 0)) (eC (.int 0)))) (eVar 0)) (Zag 14))
abbrev u12:SS:=(sIf (sT (eB oNeL (eVar 14) (eLst aNil))) (sSeq (sAsg (eTup (Zad (eC (.str "uneven")) (Zad (e2 oIx (eVar 3) (e2 oIx (eVar 14) (eC (.int 0)))) (Zad (e2 oIx (eVar 13) (e2 oIx (eVar 14) (eC (.int 0)))) aNil)))) (Zag 15))
 (sIf (sNot (sT (Zaw 2 (ZaF 4) [none,none] (Zad (eFrz (Zbs 2 "Office" "settle" 2 Zbn [none] (Zad (eVar 8) aNil))) (Zad (eVar 15) aNil))))) (sRet (eC (.bl false))) ZaS)) ZaS)
abbrev u13:SS:=(sIf (sNot (sT (Zaw 2 (ZaF 4) [none,none] (Zad (eFrz (e1 ZdO (eVar 8))) (Zad (eFrz (e1 ZdO (eVar 12))) aNil))))) (sRet (eC (.bl false))) ZaS)
abbrev u14:SS:=(sRet (Zaw 2 (ZaF 4) [none,none] (Zad (eFrz (e1 Zfp (eVar 8))) (Zad (eFrz (e1 Zfp (eVar 12))) aNil))))
abbrev lR:SS:=sSeq u3 (sSeq u4 (sSeq u5 (sSeq u6 (sSeq u7 (sSeq u8 (sSeq u9 (sSeq u10 (sSeq u11 (sSeq u12 (sSeq u13 u14))))))))))
theorem Zmw(ns:List Int)(h:ns.length<=63):∃ds,ZoD [.t (.scr ns)]=.ret (.t (.bl true)) ds:=by
 obtain⟨w,ws,ds,sh,rs,ss,d3,d5,P,e0⟩:=Zrc ns lR
 obtain⟨v,av⟩:=l_at ns 16
 simp only[Int.cast_ofNat_Int] at av
 have S:=P.s
 have f3:=P.f3
 have f5:=P.f5
 have h6:=S.ok.w6
 have h10:=S.ok.d10
 have hp:=P.p
 have nn:(ZaE sh ds).length<=10:=Nat.le_trans Zgj h10
 have nd:(ZaE sh ds).Nodup:=List.Pairwise.filter _ S.ok.nd
 have hd:∀x∈ZaE sh ds,x∈ds/\x∉sh:=fun x hx=>by
  obtain⟨a,b⟩:=List.mem_filter.mp hx
  exact⟨a,by simpa using b⟩
 have rl:(Zau sh ds rs).length=(ZaE sh ds).length:=by
  unfold Zau ZaE
  rw[List.length_map]
  have:∀(ds:List Str) (rs:List (List Int)),rs.length=ds.length->((ds.zip rs).filter fun p=>!decide (p.1∈sh)).length=(ds.filter fun d=>!decide (d∈sh)).length:=fun ds=>by
   induction ds with
   | nil=>intro rs _;rfl
   | cons d ds ih=>
    intro rs hr
    cases rs with
    | nil=>simp at hr
    | cons r rs=>
     have:=ih rs (by simpa using hr)
     by_cases q:d∈sh<;>simp[q,this]
  exact this ds rs S.ok.lr
 have h9:∀r∈Zau sh ds rs,r.length=ws.length/\In9 r:=ZeS (P:=fun r=>r.length=ws.length/\In9 r) fun r hr=>⟨S.ok.lw r hr,S.n9 r hr⟩
 have o1:oMod (.int v) (.int 2)=some (.t (.int (v % 2))):=ZbS (by decide)
 have o2:oDiv (.int v) (.int 2)=some (.t (.int (v / 2))):=Zem (by decide) (by decide)
 have o3:oMod (.int (v / 2)) (.int 2)=some (.t (.int (v / 2 % 2))):=ZbS (by decide)
 have pw:oPow (.int 10) (.int 12)=some (.t (.int 1000000000000)):=by
  rw[ZpZ (by decide)]
  rfl
 obtain⟨z,z0,z1,ez⟩:∃z:Int,0<z/\z<=1000000000000/\oIx (.lst [.int 4,.int 1000000000000]) (.int (v % 2))=some (.t (.int z)):=by
  have:v % 2=0\/v % 2=1:=by omega
  rcases this with q | q<;>rw[q]
  · exact⟨4,by decide,by decide,rfl⟩
  · exact⟨1000000000000,by decide,by decide,rfl⟩
 obtain⟨cs,kvs,x9,x10,g9,H,lc,lk,f6⟩:=Zng (sc:=ns) (w:=w) (o:=ss++[stT ws ds rs sh]) (d3:=d3) (d5:=d5) (x11:=.e) nd hd z0 z1 (by omega) (ZaE sh ds).length [] [] .e .e (.inl rfl) (.inl rfl) ⟨(fun _ h=>by cases h),(fun i h=>rfl),by decide⟩ (by simp) (by simp)
 obtain⟨kvs',x11,H',e7⟩:∃kvs' x11,HK (ZaE sh ds) ds sh cs kvs'/\u7 (cE ns w (ss++[stT ws ds rs sh]) d3 (ZaE sh ds) d5 z cs kvs x9 x10 .e)=.next (cE ns w (ss++[stT ws ds rs sh]) d3 (ZaE sh ds) d5 z cs kvs' x9 x10 x11):=by
  have c1:sT (eB oEq (e2 oMod (e2 oDiv (Zaw 2 ZaT [none,none] (Zad (eVar 0) (Zad (eC (.int 16)) aNil))) (eC (.int 2))) (eC (.int 2))) (eC (.int 1))) (cE ns w (ss++[stT ws ds rs sh]) d3 (ZaE sh ds) d5 z cs kvs x9 x10 .e)=.ok (decide (v / 2 % 2=1)) (cE ns w (ss++[stT ws ds rs sh]) d3 (ZaE sh ds) d5 z cs kvs x9 x10 .e):=by
   generalize ZaE sh ds=nm at *
   unfold cE
   simp_arith[av,o2,o3]
  by_cases q:v / 2 % 2=1
  · obtain⟨kvs',x11,H',f7⟩:=Znh (sc:=ns) (w:=w) (z:=z) (o:=ss++[stT ws ds rs sh]) (d3:=d3) (d5:=d5) (x9:=x9) (x10:=x10) hd (Zjs ds sh) kvs .e (.inl rfl) H (fun y hy=>by obtain⟨a,b⟩:=List.mem_filter.mp hy;exact⟨a,by simpa using b⟩) (by have:=List.length_filter_le (fun d=>decide (d∈sh)) ds;unfold Zjs;omega)
    refine⟨kvs',x11,H',?_⟩
    have r:=Zqp (ss:=ss) (ws:=ws) (rs:=rs) (sh:=sh) (ds:=ds) (by omega)
    have i1:iLst (Zbs 2 "Office" "forbidden" 1 ZaZ [] aNil) (cE ns w (ss++[stT ws ds rs sh]) d3 (ZaE sh ds) d5 z cs kvs x9 x10 .e)=.ok ((Zjs ds sh).map .str) (cE ns w (ss++[stT ws ds rs sh]) d3 (ZaE sh ds) d5 z cs kvs x9 x10 .e):=by
     have ff:=Zbz (ts:=(Zjs ds sh).map T.str)
     clear f7 H H' c1
     generalize Zjs ds sh=sl at *
     generalize ZaE sh ds=nm at *
     unfold cE
     simp_arith[r,ff]
    unfold u7
    rw[ZeR c1,if_pos (by simp[q])]
    exact Zfe i1 f7
  · refine⟨kvs,.e,H,?_⟩
    unfold u7
    rw[ZeR c1,if_neg (by simp[q])]
    rfl
 have su:=Zqy (w:=ws.length) (cs:=cs) (rw:=Zau sh ds rs) (by omega) (by omega) h9 (by omega)
 obtain⟨x9',f10⟩:=Znk (sc:=ns) (w:=w) (z:=z) (ss:=ss) S H' lc (x10:=x10) (x11:=x11) (x12:=.v (.dct (dctT kvs'))) ws.length 0 x9 g9 (by omega)
 obtain⟨x15,e12⟩:=ZqB (sc:=ns) (w:=w) (z:=z) (ss:=ss) S H' lc (x9:=x9') (x10:=x10) (x11:=x11) (x12:=.v (.dct (dctT kvs')))
 have dl:(dotW cs (Zau sh ds rs) ws.length).length=ws.length:=by simp
 have z11:=Zlt (due:=dotW cs (Zau sh ds rs) ws.length) ws.length 0 .e (.inl rfl) (by omega)
 rw[List.drop_zero,<- List.range_eq_range'] at z11
 have g1:=ZfH (kvs:=kvs')
 have g2:=Zg4 (kvs:=kvs')
 have g5:=Zbz (ts:=(kvs'.map Prod.fst).map T.str)
 have g6:=Zbz (ts:=(kvs'.map Prod.snd).map T.int)
 have s1:ZaF 4 [.t (.lst ((kvs'.map Prod.fst).map .str)),.t (.lst ((kvs'.map Prod.fst).map .str))]=.ret (.t (.bl true)) [.t (.lst ((kvs'.map Prod.fst).map .str)),.t (.lst ((kvs'.map Prod.fst).map .str))]:=ZeQ 3 _ (by simp[okS])
 have s2:ZaF 4 [.t (.lst ((kvs'.map Prod.snd).map .int)),.t (.lst ((kvs'.map Prod.snd).map .int))]=.ret (.t (.bl true)) [.t (.lst ((kvs'.map Prod.snd).map .int)),.t (.lst ((kvs'.map Prod.snd).map .int))]:=ZeQ 3 _ (by simp[okS])
 have key:lR (pE ns w (ss++[stT ws ds rs sh]) d3 (ZaE sh ds) d5)=.ret (.t (.bl true)) (gE ns w (ss++[stT ws ds rs sh]) ws (ZaE sh ds) (Zau sh ds rs) z cs kvs' x9' x10 x11 (.v (.t (.dct (dctT kvs')))) (dotW cs (Zau sh ds rs) ws.length) (.v (.t (.lst (intN (offK 0 (dotW cs (Zau sh ds rs) ws.length)))))) x15):=by
  generalize ho:offK 0 (dotW cs (Zau sh ds rs) ws.length)=off1 at *
  generalize hdd:dotW cs (Zau sh ds rs) ws.length=due at *
  clear H H' e0
  generalize ZaE sh ds=nm at *
  generalize Zau sh ds rs=rw at *
  generalize ss++[stT ws ds rs sh]=o at *
  unfold lR
  rw[ZaQ (σ1:=[.v (.t (.scr ns)),.v (.t (.int w)),.v (off o),.v d3,.v (.lst ((nm.map T.str).map D.t)),.v d5,.v (.t (.int z)),.e,.e,.e,.e,.e,.e,.e,.e,.e]) (by unfold u3 pE;simp_arith[av,o1,pw,ez])]
  rw[ZaQ (σ1:=[.v (.t (.scr ns)),.v (.t (.int w)),.v (off o),.v d3,.v (.lst ((nm.map T.str).map D.t)),.v d5,.v (.t (.int z)),.v (.lst []),.e,.e,.e,.e,.e,.e,.e,.e]) (by unfold u4;simp_arith [])]
  rw[ZaQ (σ1:=[.v (.t (.scr ns)),.v (.t (.int w)),.v (off o),.v d3,.v (.lst ((nm.map T.str).map D.t)),.v d5,.v (.t (.int z)),.v (.lst []),.v (.dct []),.e,.e,.e,.e,.e,.e,.e]) (by unfold u5;simp_arith [])]
  rw[ZaQ (σ1:=cE ns w o d3 nm d5 z cs kvs x9 x10 .e) (Zfe (Zgg (n:=nm.length) (σ1:=cE ns w o d3 nm d5 z [] [] .e .e .e) (by
   have ff:=Zbz (ts:=nm.map T.str)
   unfold cE
   simp_arith[ff]) (by omega)) (by rw[List.range_eq_range'];exact f6))]
  rw[ZaQ e7]
  rw[ZaQ (σ1:=[.v (.t (.scr ns)),.v (.t (.int w)),.v (off o),.v d3,.v (.t (.lst (nm.map .str))),.v d5,.v (.t (.int z)),.v (.lst ((cs.map T.int).map D.t)),.v (.t (.dct (dctT kvs'))),x9,x10,x11,.v (.dct (dctT kvs')),.e,.e,.e]) (by unfold u8 cE;simp_arith[ZhH])]
  rw[ZaQ (σ1:=gE ns w o ws nm rw z cs kvs' x9 x10 x11 (.v (.dct (dctT kvs'))) due .e .e) (by unfold u9 gE;simp_arith[f3,f5,su])]
  have rg:∀y9,ZbC (e1 oLen (eVar 3)) (gE ns w o ws nm rw z cs kvs' y9 x10 x11 (.v (.dct (dctT kvs'))) due .e .e)=.ok (intN (List.range ws.length)) (gE ns w o ws nm rw z cs kvs' y9 x10 x11 (.v (.dct (dctT kvs'))) due .e .e):=fun y9=>Zgg (by unfold gE;simp_arith []) (by omega)
  have fz:ZaC [none,some 13] (gE ns w o ws nm rw z cs kvs' x9' x10 x11 (.v (.dct (dctT kvs'))) due .e .e)=some (gE ns w o ws nm rw z cs kvs' x9' x10 x11 (.v (.dct (dctT kvs'))) due .e .e):=by unfold gE;simp[ZaC,Zby]
  rw[ZaQ (σ1:=gE ns w o ws nm rw z cs kvs' x9' x10 x11 (.v (.dct (dctT kvs'))) due .e .e) (Zfe (rg _) (by rw[List.range_eq_range'];exact f10))]
  rw[ZaQ (σ1:=gE ns w o ws nm rw z cs kvs' x9' x10 x11 (.v (.dct (dctT kvs'))) due (.v (.lst ((intN off1).map D.t))) .e) (Zd9 (Zc7 (rg _) (Zbv (by simp;omega)) fz rfl z11) rfl)]
  rw[ZaQ e12]
  rw[ZaQ (σ1:=gE ns w o ws nm rw z cs kvs' x9' x10 x11 (.v (.t (.dct (dctT kvs')))) due (.v (.t (.lst (intN off1)))) x15) (by unfold u13 gE;simp_arith[g1,g5,s1])]
  unfold u14 gE
  simp_arith[g2,g6,s2]
 exact⟨[.t (.scr ns)],Zgh (e0.trans key) rfl⟩
end My
/-
--ALL BadName Taken NoDeed NoWare Forbidden BadNumber NoRoom NoRound
--OBJ _law_office_here Office
--STR has_form name
--STRN _law_signs
--REC _law_same 4
--LEND Office.put_deed numbers
--LEND with_new_deed numbers
--LEND Office.ends_at counts
--LEND Office.settle counts
--LEND done_in counts
--LEND told_end counts
--LEND told_settled counts
--LEND row_of counts
--LEND _law_works _law_deeds
--LEND _law_sums _law_counts
--LEND law _law_counts
--DICT _law_office _law_numbers
--DICT law _law_handed
--NEVER made_of by_names
--EXPL _law_works law _law_set
--KTXT /tmp/z/K22.txt
-/
namespace My
open PySem PySem.Spec PyProof.Rows L2 DL
theorem law_val(ns:List Int)(h:ns.length<=63):∃ds,ZoD [.t (.scr ns)]=.ret (.t (.bl true)) ds:=Zmw ns h
theorem law_fn{P:Program}{w:World}{K:PySem.W.Frag}{mg:Str->Option Value}{fa:Addr}{fd:FuncData}(T:Txt K mg)(F:Fun K "law" "law" ZkK fa fd) :
 ∃fd:FuncData,(∀(s:Shared) (u:Value),BindsTo s fd ⟨[u],[]⟩ [("_law_script",u)]) /\ ∀base:Heap,K.In base->base.Ns mainGlobals mg->FnOk P w K mg base (XC P w) 8 fa fd ["_law_script"] (sp_law K):=by
 refine⟨fd,fun s u=>?_,fun base _ _=>(Zqc T F).imp (ZqU law_val)⟩
 obtain⟨oc,od,kV,doc,pm,an,cdv,ct,osl,rfl,lk,hcd⟩:=F.ex
 exact .of_eq rfl
end My
open PySem PySem.W PyProof.Rows
set_option maxRecDepth 100000 in
set_option maxHeartbeats 0 in
theorem PySem.Challenge.cw_leanmodes_k22_ends_at_holds : PySem.Challenge.rw_leanmodes_k22_ends_at.Holds := by
 w_on;o_law
 refine PySem.W.holds_open (q:=My.qK) (loose:=[]) (N:=20000) My.leftK (PySem.W.Hook.of _) (PySem.W.Hook.keeps _)
  (fun s e=>PySem.W.xl_of s (Bool.and_eq_true_iff.mp e).1) PySem.W.XL.keeps (by rfl) (by rfl) (by rfl)
  (fun s e=>PySem.W.recFacts_of (R:=[]) (Bool.and_eq_true_iff.mp e).2) (by rfl) (by assumption) (by decide +kernel)
  ⟨rfl,rfl,rfl,rfl,rfl,by decide +kernel⟩ ?hw ?hc
 (case hw=>w_witness2)
 k_fill
 refine L2.walk_ofX (l:=PySem.Challenge.rw_leanmodes_k22_ends_at) (n:=63) (k:=8) (x:="_law_script") (sp:=DL.sp_law) rfl (by decide) rfl ⟨rfl,by decide,by decide⟩ (fun w h Y=>PySem.W.kIn_of Y) ?F ?S
 case F=>
  intro w mg fa h KX G hmg
  have T:My.Txt (L2.KOf KX) mg:=by
   dsimp only[L2.KOf]
   have A_Standing:mg "Standing"=some (.ref 206):=PySem.W.mg_of KX G (by k_is)
   have A_Office:mg "Office"=some (.ref 564):=PySem.W.mg_of KX G (by k_is)
   have A_BadName:mg "BadName"=some (.ref 44):=PySem.W.mg_of KX G (by k_is)
   have A_Taken:mg "Taken"=some (.ref 56):=PySem.W.mg_of KX G (by k_is)
   have A_NoRoom:mg "NoRoom"=some (.ref 128):=PySem.W.mg_of KX G (by k_is)
   have A_NoWare:mg "NoWare"=some (.ref 80):=PySem.W.mg_of KX G (by k_is)
   have A_BadNumber:mg "BadNumber"=some (.ref 104):=PySem.W.mg_of KX G (by k_is)
   have A_NoDeed:mg "NoDeed"=some (.ref 68):=PySem.W.mg_of KX G (by k_is)
   have A_Forbidden:mg "Forbidden"=some (.ref 92):=PySem.W.mg_of KX G (by k_is)
   have A_NoRound:mg "NoRound"=some (.ref 116):=PySem.W.mg_of KX G (by k_is)
   have Q_Standing:L2.Cls (My.KK w.params) 206:=⟨by k_is,by k_is,by k_is,by k_is⟩
   have Q_Office:L2.Cls (My.KK w.params) 564:=⟨by k_is,by k_is,by k_is,by k_is⟩
   have AA:DL.mgAll mg [("BadName",44),("Taken",56),("NoDeed",68),("NoWare",80),("Forbidden",92),("BadNumber",104),("NoRoom",128),("NoRound",116)]:=⟨A_BadName,A_Taken,A_NoDeed,A_NoWare,A_Forbidden,A_BadNumber,A_NoRoom,A_NoRound,trivial⟩
   have D1:DL.desB (My.KK w.params)=true:=by kernel_rfl
   have L1:(List.all [(("BadName":PySem.Str),44),(("Taken":PySem.Str),56),(("NoDeed":PySem.Str),68),(("NoWare":PySem.Str),80),(("Forbidden":PySem.Str),92),(("BadNumber":PySem.Str),104),(("NoRoom":PySem.Str),128),(("NoRound":PySem.Str),116)] fun p=>DL.excLB (My.KK w.params) p.2)=true:=by kernel_rfl
   constructor
   case B=>exact⟨PySem.W.mg_none_of KX G (by k_is),PySem.W.mg_none_of KX G (by k_is),PySem.W.mg_none_of KX G (by k_is),PySem.W.mg_none_of KX G (by k_is),PySem.W.mg_none_of KX G (by k_is),PySem.W.mg_none_of KX G (by k_is),PySem.W.mg_none_of KX G (by k_is),PySem.W.mg_none_of KX G (by k_is),PySem.W.mg_none_of KX G (by k_is),PySem.W.mg_none_of KX G (by k_is),PySem.W.mg_none_of KX G (by k_is),PySem.W.mg_none_of KX G (by k_is),PySem.W.mg_none_of KX G (by k_is),PySem.W.mg_none_of KX G (by k_is),PySem.W.mg_none_of KX G (by k_is)⟩
   case f_law_at=>exact DL.tfx KX G (by k_is) (DL.ff (by k_is) (by k_is) (by k_is) fun _ _ _ _ _ _ us hl=>match us,hl with | [_,_],_=>rfl)
   case f_law_mix=>exact DL.tfx KX G (by k_is) (DL.ff (by k_is) (by k_is) (by k_is) fun _ _ _ _ _ _ us hl=>match us,hl with | [_,_],_=>rfl)
   case f_law_draws=>exact DL.tfx KX G (by k_is) (DL.ff (by k_is) (by k_is) (by k_is) fun _ _ _ _ _ _ us hl=>match us,hl with | [_,_,_,_],_=>rfl)
   case f_law_row=>exact DL.tfx KX G (by k_is) (DL.ff (by k_is) (by k_is) (by k_is) fun _ _ _ _ _ _ us hl=>match us,hl with | [_,_,_],_=>rfl)
   case f_law_works=>exact DL.tfx KX G (by k_is) (DL.ff (by k_is) (by k_is) (by k_is) fun _ _ _ _ _ _ us hl=>match us,hl with | [_],_=>rfl)
   case f_Standing_init=>exact DL.tix A_Standing (by k_is) (by k_is) (by k_is) (by k_is) (DL.ff (by k_is) (by k_is) (by k_is) fun _ _ _ _ _ _ us hl=>match us,hl with | [_,_,_,_,_],_=>rfl)
   case f_nothing_put_in=>exact DL.tfx KX G (by k_is) (DL.ff (by k_is) (by k_is) (by k_is) fun _ _ _ _ _ _ us hl=>match us,hl with | [],_=>rfl)
   case f_Office_init=>exact DL.tix A_Office (by k_is) (by k_is) (by k_is) (by k_is) (DL.ff (by k_is) (by k_is) (by k_is) fun _ _ _ _ _ _ us hl=>match us,hl with | [_],_=>rfl)
   case f_Office_now=>exact DL.tmx A_Office Q_Office (by k_is) (by k_is) (DL.ff (by k_is) (by k_is) (by k_is) fun _ _ _ _ _ _ us hl=>match us,hl with | [_],_=>rfl)
   case f_has_form=>exact DL.tfx KX G (by k_is) (DL.ff (by k_is) (by k_is) (by k_is) fun _ _ _ _ _ _ us hl=>match us,hl with | [_],_=>rfl)
   case f_check_new_name=>exact DL.tfx KX G (by k_is) (DL.ff (by k_is) (by k_is) (by k_is) fun _ _ _ _ _ _ us hl=>match us,hl with | [_,_],_=>rfl)
   case f_check_room=>exact DL.tfx KX G (by k_is) (DL.ff (by k_is) (by k_is) (by k_is) fun _ _ _ _ _ _ us hl=>match us,hl with | [_,_],_=>rfl)
   case f_Office_doings=>exact DL.tmx A_Office Q_Office (by k_is) (by k_is) (DL.ff (by k_is) (by k_is) (by k_is) fun _ _ _ _ _ _ us hl=>match us,hl with | [_],_=>rfl)
   case f_Office_keep=>exact DL.tmx A_Office Q_Office (by k_is) (by k_is) (DL.ff (by k_is) (by k_is) (by k_is) fun _ _ _ _ _ _ us hl=>match us,hl with | [_,_],_=>rfl)
   case f_with_new_ware=>exact DL.tfx KX G (by k_is) (DL.ff (by k_is) (by k_is) (by k_is) fun _ _ _ _ _ _ us hl=>match us,hl with | [_,_],_=>rfl)
   case f_Office_put_ware=>exact DL.tmx A_Office Q_Office (by k_is) (by k_is) (DL.ff (by k_is) (by k_is) (by k_is) fun _ _ _ _ _ _ us hl=>match us,hl with | [_,_],_=>rfl)
   case f_law_name=>exact DL.tfx KX G (by k_is) (DL.ff (by k_is) (by k_is) (by k_is) fun _ _ _ _ _ _ us hl=>match us,hl with | [_,_],_=>rfl)
   case f_check_wares=>exact DL.tfx KX G (by k_is) (DL.ff (by k_is) (by k_is) (by k_is) fun _ _ _ _ _ _ us hl=>match us,hl with | [_,_],_=>rfl)
   case f_check_numbers=>exact DL.tfx KX G (by k_is) (DL.ff (by k_is) (by k_is) (by k_is) fun _ _ _ _ _ _ us hl=>match us,hl with | [_],_=>rfl)
   case f_with_new_deed=>exact DL.tfx KX G (by k_is) (DL.ff (by k_is) (by k_is) (by k_is) fun _ _ _ _ _ _ us hl=>match us,hl with | [_,_,_],_=>rfl)
   case f_Office_put_deed=>exact DL.tmx A_Office Q_Office (by k_is) (by k_is) (DL.ff (by k_is) (by k_is) (by k_is) fun _ _ _ _ _ _ us hl=>match us,hl with | [_,_,_],_=>rfl)
   case f_law_office=>exact DL.tfx KX G (by k_is) (DL.ff (by k_is) (by k_is) (by k_is) fun _ _ _ _ _ _ us hl=>match us,hl with | [_,_,_,_],_=>rfl)
   case f_check_deeds=>exact DL.tfx KX G (by k_is) (DL.ff (by k_is) (by k_is) (by k_is) fun _ _ _ _ _ _ us hl=>match us,hl with | [_,_],_=>rfl)
   case f_check_let=>exact DL.tfx KX G (by k_is) (DL.ff (by k_is) (by k_is) (by k_is) fun _ _ _ _ _ _ us hl=>match us,hl with | [_,_],_=>rfl)
   case f_with_forbidden=>exact DL.tfx KX G (by k_is) (DL.ff (by k_is) (by k_is) (by k_is) fun _ _ _ _ _ _ us hl=>match us,hl with | [_,_],_=>rfl)
   case f_Office_forbid=>exact DL.tmx A_Office Q_Office (by k_is) (by k_is) (DL.ff (by k_is) (by k_is) (by k_is) fun _ _ _ _ _ _ us hl=>match us,hl with | [_,_],_=>rfl)
   case f_law_set=>exact DL.tfx KX G (by k_is) (DL.ff (by k_is) (by k_is) (by k_is) fun _ _ _ _ _ _ us hl=>match us,hl with | [_,_],_=>rfl)
   case f_forbidden_names=>exact DL.tfx KX G (by k_is) (DL.ff (by k_is) (by k_is) (by k_is) fun _ _ _ _ _ _ us hl=>match us,hl with | [_],_=>rfl)
   case f_Office_forbidden=>exact DL.tmx A_Office Q_Office (by k_is) (by k_is) (DL.ff (by k_is) (by k_is) (by k_is) fun _ _ _ _ _ _ us hl=>match us,hl with | [_],_=>rfl)
   case f_law_sums=>exact DL.tfx KX G (by k_is) (DL.ff (by k_is) (by k_is) (by k_is) fun _ _ _ _ _ _ us hl=>match us,hl with | [_,_,_],_=>rfl)
   case f_law_same=>exact DL.tfx KX G (by k_is) (DL.ff (by k_is) (by k_is) (by k_is) fun _ _ _ _ _ _ us hl=>match us,hl with | [_,_],_=>rfl)
   case f_done_in=>exact DL.tfx KX G (by k_is) (DL.ff (by k_is) (by k_is) (by k_is) fun _ _ _ _ _ _ us hl=>match us,hl with | [_],_=>rfl)
   case f_check_counts=>exact DL.tfx KX G (by k_is) (DL.ff (by k_is) (by k_is) (by k_is) fun _ _ _ _ _ _ us hl=>match us,hl with | [_],_=>rfl)
   case f_end_of=>exact DL.tfx KX G (by k_is) (DL.ff (by k_is) (by k_is) (by k_is) fun _ _ _ _ _ _ us hl=>match us,hl with | [_,_,_],_=>rfl)
   case f_row_of=>exact DL.tfx KX G (by k_is) (DL.ff (by k_is) (by k_is) (by k_is) fun _ _ _ _ _ _ us hl=>match us,hl with | [_,_],_=>rfl)
   case f_told_end=>exact DL.tfx KX G (by k_is) (DL.ff (by k_is) (by k_is) (by k_is) fun _ _ _ _ _ _ us hl=>match us,hl with | [_,_,_],_=>rfl)
   case f_without_forbidden=>exact DL.tfx KX G (by k_is) (DL.ff (by k_is) (by k_is) (by k_is) fun _ _ _ _ _ _ us hl=>match us,hl with | [_],_=>rfl)
   case f_Office_let_now=>exact DL.tmx A_Office Q_Office (by k_is) (by k_is) (DL.ff (by k_is) (by k_is) (by k_is) fun _ _ _ _ _ _ us hl=>match us,hl with | [_],_=>rfl)
   case f_Office_ends_at=>exact DL.tmx A_Office Q_Office (by k_is) (by k_is) (DL.ff (by k_is) (by k_is) (by k_is) fun _ _ _ _ _ _ us hl=>match us,hl with | [_,_,_],_=>rfl)
   case f_check_some=>exact DL.tfx KX G (by k_is) (DL.ff (by k_is) (by k_is) (by k_is) fun _ _ _ _ _ _ us hl=>match us,hl with | [_],_=>rfl)
   case f_ends=>exact DL.tfx KX G (by k_is) (DL.ff (by k_is) (by k_is) (by k_is) fun _ _ _ _ _ _ us hl=>match us,hl with | [_,_,_],_=>rfl)
   case f_uneven=>exact DL.tfx KX G (by k_is) (DL.ff (by k_is) (by k_is) (by k_is) fun _ _ _ _ _ _ us hl=>match us,hl with | [_,_,_],_=>rfl)
   case f_made_of=>exact DL.tfx KX G (by k_is) (DL.ff (by k_is) (by k_is) (by k_is) fun _ _ _ _ _ _ us hl=>match us,hl with | [_,_,_],_=>rfl)
   case f_by_names=>exact DL.tfx KX G (by k_is) (DL.ff (by k_is) (by k_is) (by k_is) fun _ _ _ _ _ _ us hl=>match us,hl with | [_,_],_=>rfl)
   case f_told_settled=>exact DL.tfx KX G (by k_is) (DL.ff (by k_is) (by k_is) (by k_is) fun _ _ _ _ _ _ us hl=>match us,hl with | [_,_],_=>rfl)
   case f_Office_settle=>exact DL.tmx A_Office Q_Office (by k_is) (by k_is) (DL.ff (by k_is) (by k_is) (by k_is) fun _ _ _ _ _ _ us hl=>match us,hl with | [_,_],_=>rfl)
   case f_law=>exact DL.tfx KX G (by k_is) (DL.ff (by k_is) (by k_is) (by k_is) fun _ _ _ _ _ _ us hl=>match us,hl with | [_],_=>rfl)
   case fok_Office_stages=>exact DL.fokx A_Office Q_Office (by k_is)
   case fok_Standing_ware_names=>exact DL.fokx A_Standing Q_Standing (by k_is)
   case fok_Standing_deed_names=>exact DL.fokx A_Standing Q_Standing (by k_is)
   case fok_Standing_rows=>exact DL.fokx A_Standing Q_Standing (by k_is)
   case fok_Standing_stopped=>exact DL.fokx A_Standing Q_Standing (by k_is)
   case c_Standing=>exact DL.clsC A_Standing
   case c_Office=>exact DL.clsC A_Office
   case g_LETTERS=>exact⟨_,PySem.W.mg_of KX G (by k_is)⟩
   case g_LONGEST=>exact⟨_,PySem.W.mg_of KX G (by k_is)⟩
   case c_BadName=>exact DL.clsC A_BadName
   case x_BadName=>exact DL.excx A_BadName (by k_exc)
   case c_Taken=>exact DL.clsC A_Taken
   case x_Taken=>exact DL.excx A_Taken (by k_exc)
   case c_NoRoom=>exact DL.clsC A_NoRoom
   case x_NoRoom=>exact DL.excx A_NoRoom (by k_exc)
   case g_MOST_WARES=>exact⟨_,PySem.W.mg_of KX G (by k_is)⟩
   case g_MOST_DOINGS=>exact⟨_,PySem.W.mg_of KX G (by k_is)⟩
   case c_NoWare=>exact DL.clsC A_NoWare
   case x_NoWare=>exact DL.excx A_NoWare (by k_exc)
   case g_HIGHEST_NUMBER=>exact⟨_,PySem.W.mg_of KX G (by k_is)⟩
   case c_BadNumber=>exact DL.clsC A_BadNumber
   case x_BadNumber=>exact DL.excx A_BadNumber (by k_exc)
   case g_MOST_DEEDS=>exact⟨_,PySem.W.mg_of KX G (by k_is)⟩
   case c_NoDeed=>exact DL.clsC A_NoDeed
   case x_NoDeed=>exact DL.excx A_NoDeed (by k_exc)
   case c_Forbidden=>exact DL.clsC A_Forbidden
   case x_Forbidden=>exact DL.excx A_Forbidden (by k_exc)
   case g_HIGHEST_COUNT=>exact⟨_,PySem.W.mg_of KX G (by k_is)⟩
   case c_NoRound=>exact DL.clsC A_NoRound
   case x_NoRound=>exact DL.excx A_NoRound (by k_exc)
  obtain⟨fa2,fd,F,m,b⟩:=T.f_law.ex
  have e0:=hmg.symm.trans m
  cases e0
  exact My.law_fn T F
 case S=>exact fun K H a ns hl hO hS=>DL.law_sp hl hS
