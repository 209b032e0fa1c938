import PyProof.Rows.All
import Wide.All
import OpenK.AllK
import Wide.FinOn
import PyProof.EqAt
import PyProof.EqKinds
import PyProof.TupleCall
import KE.BitLaws
import Open.SpecLaws
import KE.OsHead
import KE.OsGo
import PySem.Challenge.RW_coilticks_s01_answers
import KE.KSortTupUse
set_option compiler.extract_closed false
local macro_rules|`(tactic|omega)=>`(tactic|lia)
section
set_option Elab.async false
set_option linter.all false
set_option maxRecDepth 100000
namespace L2
inductive G1 {A:Type} (p q:A→Prop):Prop | mk (a):p a→q a→G1 p q
inductive E2 {A B:Type} (p:A→B→Prop):Prop | mk (a b):p a b→E2 p
inductive E3 {A B C:Type} (p:A→B→C→Prop):Prop | mk (a b c):p a b c→E3 p
inductive E4 {A B C D:Type} (p:A→B→C→D→Prop):Prop | mk (a b c d):p a b c d→E4 p
inductive E5 {A B C D E:Type} (p:A→B→C→D→E→Prop):Prop | mk (a b c d e):p a b c d e→E5 p
inductive E6 {A B C D E F:Type} (p:A→B→C→D→E→F→Prop):Prop | mk (a b c d e f):p a b c d e f→E6 p
inductive E7 {A B C D E F G:Type} (p:A→B→C→D→E→F→G→Prop):Prop | mk (a b c d e f g):p a b c d e f g→E7 p
inductive E8 {A B C D E F G H:Type} (p:A→B→C→D→E→F→G→H→Prop):Prop | mk (a b c d e f g h):p a b c d e f g h→E8 p
inductive A3 (A B C:Prop):Prop | mk:A→B→C→A3 A B C
inductive A4 (A B C D:Prop):Prop | mk:A→B→C→D→A4 A B C D
inductive A5 (A B C D E:Prop):Prop | mk:A→B→C→D→E→A5 A B C D E
inductive A6 (A B C D E F:Prop):Prop | mk:A→B→C→D→E→F→A6 A B C D E F
inductive A7 (A B C D E F G:Prop):Prop | mk:A→B→C→D→E→F→G→A7 A B C D E F G
inductive A8 (A B C D E F G H:Prop):Prop | mk:A→B→C→D→E→F→G→H→A8 A B C D E F G H
theorem zB5 {A:Type} {p q:A→Prop}:G1 p q↔∃ a,p a∧q a:=⟨fun ⟨a,b,c⟩=>⟨a,b,c⟩,fun ⟨a,b,c⟩=>⟨a,b,c⟩⟩
theorem zB1 {A B:Type} {p:A→B→Prop}:E2 p↔∃ a b,p a b:=⟨fun ⟨a,b,h⟩=>⟨a,b,h⟩,fun ⟨a,b,h⟩=>⟨a,b,h⟩⟩
theorem zB2 {A B C:Type} {p:A→B→C→Prop}:E3 p↔∃ a b c,p a b c:=⟨fun ⟨a,b,c,h⟩=>⟨a,b,c,h⟩,fun ⟨a,b,c,h⟩=>⟨a,b,c,h⟩⟩
theorem zB3 {A B C D:Type} {p:A→B→C→D→Prop}:E4 p↔∃ a b c d,p a b c d:=⟨fun ⟨a,b,c,d,h⟩=>⟨a,b,c,d,h⟩,fun ⟨a,b,c,d,h⟩=>⟨a,b,c,d,h⟩⟩
theorem zB4 {A B C D E:Type} {p:A→B→C→D→E→Prop}:E5 p↔∃ a b c d e,p a b c d e:=⟨fun ⟨a,b,c,d,e,h⟩=>⟨a,b,c,d,e,h⟩,fun ⟨a,b,c,d,e,h⟩=>⟨a,b,c,d,e,h⟩⟩
theorem zBx {A B C:Prop}:A3 A B C↔A∧B∧C:=⟨fun ⟨h0,h1,h2⟩=>⟨h0,h1,h2⟩,fun ⟨h0,h1,h2⟩=>⟨h0,h1,h2⟩⟩
theorem zBy {A B C D:Prop}:A4 A B C D↔A∧B∧C∧D:=⟨fun ⟨h0,h1,h2,h3⟩=>⟨h0,h1,h2,h3⟩,fun ⟨h0,h1,h2,h3⟩=>⟨h0,h1,h2,h3⟩⟩
theorem zBz {A B C D E:Prop}:A5 A B C D E↔A∧B∧C∧D∧E:=⟨fun ⟨h0,h1,h2,h3,h4⟩=>⟨h0,h1,h2,h3,h4⟩,fun ⟨h0,h1,h2,h3,h4⟩=>⟨h0,h1,h2,h3,h4⟩⟩
theorem zB0 {A B C D E F:Prop}:A6 A B C D E F↔A∧B∧C∧D∧E∧F:=⟨fun ⟨h0,h1,h2,h3,h4,h5⟩=>⟨h0,h1,h2,h3,h4,h5⟩,fun ⟨h0,h1,h2,h3,h4,h5⟩=>⟨h0,h1,h2,h3,h4,h5⟩⟩
open PySem PySem.Spec PyProof.Rows
abbrev Key:=Sum Int Str
def zs1:Key→Value→Bool
  | .inl k,v=>Value.isInt k v
  | .inr x,v=>Value.isStrOf x v
def keyH (w:World):Key→Int
  | .inl k=>hashInt k
  | .inr x=>hashStr w x
theorem zbv:∀ {k:Key} {v:Value},zs1 k v=true→(∃ i t,k=Sum.inl i∧v=Value.int i t)∨(∃ x t,k=Sum.inr x∧v=Value.str x t)
  | .inl i,v,h=>by
    obtain ⟨t,e⟩:=Value.isInt_shape (k:=i) (v:=v) h
    exact .inl ⟨i,t,rfl,e⟩
  | .inr x,v,h=>by
    obtain ⟨t,e⟩:=Value.isStrOf_shape (x:=x) (v:=v) h
    exact .inr ⟨x,t,rfl,e⟩
theorem zuw (i:Int) (t:Tok):zs1 (.inl i) (.int i t)=true:=by simp [zs1,Value.isInt]
theorem zux (x:Str) (t:Tok):zs1 (.inr x) (.str x t)=true:=by simp [zs1,Value.isStrOf]
theorem zCm (a b:Int):decide ((Sum.inl a:Key)=Sum.inl b)=(a == b):=by
  by_cases e:a=b
  · subst e;simp
  · have h:¬(Sum.inl a:Key)=Sum.inl b:=fun q=>e (Sum.inl.inj q)
    rw [decide_eq_false h]
    exact (beq_eq_false_iff_ne.mpr e).symm
theorem zCp (a b:Str):decide ((Sum.inr a:Key)=Sum.inr b)=decide (a=b):=by
  by_cases e:a=b
  · subst e;simp
  · have h:¬(Sum.inr a:Key)=Sum.inr b:=fun q=>e (Sum.inr.inj q)
    rw [decide_eq_false h,decide_eq_false e]
theorem zCn (a:Int) (b:Str):decide ((Sum.inl a:Key)=Sum.inr b)=false:=decide_eq_false (fun q=>nomatch q)
theorem zCo (a:Str) (b:Int):decide ((Sum.inr a:Key)=Sum.inl b)=false:=decide_eq_false (fun q=>nomatch q)
def zb7 (prog:Program) (w:World):PySem.KeyKind prog w Key where
  is:=zs1
  hash:=keyH w
  inj:=fun v a b ha hb=>by
    rcases zbv ha with ⟨i,t,rfl,rfl⟩ | ⟨x,t,rfl,rfl⟩
    · rcases zbv hb with ⟨j,u,rfl,e⟩ | ⟨y,u,rfl,e⟩
      · injection e with e1 _;rw [e1]
      · exact nomatch e
    · rcases zbv hb with ⟨j,u,rfl,e⟩ | ⟨y,u,rfl,e⟩
      · exact nomatch e
      · injection e with e1 _;rw [e1]
  byValue:=fun k v h=>by
    rcases zbv h with ⟨i,t,rfl,rfl⟩ | ⟨x,t,rfl,rfl⟩<;>rfl
  pyHash:=fun hv h=>by
    rcases zbv hv with ⟨i,t,rfl,rfl⟩ | ⟨x,t,rfl,rfl⟩
    · exact wpAny_pyHash_int h
    · exact wpAny_pyHash_str h
  eqBool:=fun hu hv h=>by
    rcases zbv hu with ⟨i,t,rfl,rfl⟩ | ⟨x,t,rfl,rfl⟩
    · rcases zbv hv with ⟨j,u,rfl,rfl⟩ | ⟨y,u,rfl,rfl⟩
      · rw [zCm] at h;exact wpAny_eqBool_int h
      · rw [zCn] at h;exact SeqAt.EqAt.int_str i t y u _ _ _ _ h
    · rcases zbv hv with ⟨j,u,rfl,rfl⟩ | ⟨y,u,rfl,rfl⟩
      · rw [zCo] at h;exact SeqAt.EqAt.str_int x t j u _ _ _ _ h
      · rw [zCp] at h;exact wpAny_eqBool_str h
  «strs»:=fun k x t v h=>by
    rcases zbv h with ⟨i,u,rfl,e⟩ | ⟨y,u,rfl,e⟩
    · exact nomatch e
    · injection e with e1 _
      subst e1
      cases v<;>rfl
theorem zqb (prog:Program) (w:World) (i:Int) (t:Tok):(zb7 prog w).is (.inl i) (.int i t)=true:=zuw i t
theorem zqc (prog:Program) (w:World) (x:Str) (t:Tok):(zb7 prog w).is (.inr x) (.str x t)=true:=zux x t
end L2
namespace L2
open PySem PySem.Spec PyProof.Rows
inductive V where
  | non | bl (b:Bool) | int (i:Int) | str (x:Str) | byt (b:Array UInt8) | flt (b:UInt64) | ref (a:Addr) | ty (n:String)
  deriving DecidableEq
def RelV:V→Value→Prop
  | .non,u=>u=Value.none
  | .bl b,u=>u=Value.bool b
  | .int i,u=>∃ t,u=Value.int i t
  | .str x,u=>∃ t,u=Value.str x t
  | .byt b,u=>∃ t,u=Value.bytes b t
  | .flt b,u=>∃ t,u=Value.float b t
  | .ref a,u=>u=Value.ref a
  | .ty n,u=>u=Value.type n
abbrev Vals:List V→List Value→Prop:=Paired RelV
theorem Vals.length {xs:List V} {us:List Value} (r:Vals xs us):xs.length=us.length:=Paired.length r
theorem Vals.get:∀ {xs:List V} {us:List Value} {i:Nat} {x:V},Vals xs us→xs[i]? = some x→∃ u,us[i]? = some u∧RelV x u
  | _,_,_,_, .nil,e=>by simp at e
  | _,_,0,_, .cons r _,e=>by simp at e;subst e;exact ⟨_,rfl,r⟩
  | _,_,i+1,x, .cons _ t,e=>by
    obtain ⟨u,h1,h2⟩:=Vals.get (i:=i) (x:=x) t (by simpa using e)
    exact ⟨u,by simpa using h1,h2⟩
theorem Vals.append:∀ {xs ys:List V} {us ws:List Value},Vals xs us→Vals ys ws→Vals (xs++ys) (us++ws)
  | _,_,_,_, .nil,s=>s
  | _,_,_,_, .cons r t,s=>.cons r (Vals.append t s)
theorem Vals.take:∀ {xs:List V} {us:List Value} (n:Nat),Vals xs us→Vals (xs.take n) (us.take n)
  | _,_,0,_=>.nil
  | _,_,_+1, .nil=>.nil
  | _,_,n+1, .cons r t=>.cons r (Vals.take n t)
theorem Vals.drop:∀ {xs:List V} {us:List Value} (n:Nat),Vals xs us→Vals (xs.drop n) (us.drop n)
  | _,_,0,r=>r
  | _,_,_+1, .nil=>.nil
  | _,_,n+1, .cons _ t=>Vals.drop n t
def RelO:Option V→Option Value→Prop
  | some v,some u=>RelV v u
  | none,none=>True
  | _,_=>False
def KV {κ:Type}:List (κ×V)→List (κ×Value)→Prop:=Paired fun (p:κ×V) (q:κ×Value)=>p.1=q.1∧RelV p.2 q.2
def kV:Key→V
  | .inl i=>.int i
  | .inr x=>.str x
inductive HO where
  | lst (xs:List V)
  | tup (xs:List V)
  | dK (kvs:List (Key×V)) | dT (kvs:List (List Key×V))
  | set (S:Int→Bool) (n:Nat)
  | ins (C dx:Addr) (fs:List (Str×V))
  | own (x:Addr)
  | xd (fs:List (Str×V))
  | met (f x:Addr)
  | rng (lo hi:Int)
  | frz (o:Obj) (u:HO)
  | tbl (ps:Array Value)
  | ext (φ:Heap→Prop)
abbrev Hp:=Addr→Option HO
def upd (H:Hp) (a:Addr) (o:HO):Hp:=fun b=>if b=a then some o else H b
theorem zaf {H:Hp} {a:Addr} {o:HO}:upd H a o a=some o:=by unfold upd;rw [if_pos rfl]
theorem zag {H:Hp} {a b:Addr} {o:HO} (h:b≠a):upd H a o b=H b:=by unfold upd;rw [if_neg h]
theorem zc9 {H:Hp} {a:Addr} {o u:HO}:upd (upd H a o) a u=upd H a u:=by
  funext b;unfold upd;split<;>rfl
theorem zD0 {H:Hp} {a b:Addr} {o u:HO} (h:H a=some o) (h':H b=some u) (d:o≠u):a≠b:=by
  intro e;subst e;rw [h] at h';exact d (Option.some.inj h')
theorem zaj {H:Hp} {a b:Addr} {o:HO} (h:H a=some o) (h':H b=none):a≠b:=by
  intro e;subst e;rw [h] at h';cases h'
section
variable (P:Program) (w:World)
def ObjOk (H:Hp) (h:Heap) (a:Addr):HO→Prop
  | .lst xs=>xs.length≤sizeLine∧∃ (its:List Value) (n:Nat),Vals xs its∧h.get? a=some { cls:=.type "list",data:=.seq its.toArray n }
  | .tup xs=>xs.length≤sizeLine∧∃ its:List Value,Vals xs its∧IsTup h a its.toArray
  | .dK kvs=>kvs.length≤sizeLine∧(a == sysModules)=false∧∃ vs,KV kvs vs∧h.DictOf (zb7 P w) a vs
  | .dT kvs=>kvs.length≤sizeLine∧(a == sysModules)=false∧∃ xs:List (List Key×Addr×Value),
      Paired (fun (p:List Key×V) (q:List Key×Addr×Value)=>p.1=q.1∧H q.2.1=some (.tup (p.1.map kV))∧RelV p.2 q.2.2) kvs xs∧
      ∃ o es ep,h.get? a=some o∧o.ExactDict∧o.data = .dict es ep∧es.toList=xs.map (entryOfKey (tupleKind (zb7 P w)))∧(xs.map (·.1)).Nodup
  | .set S n=>h.SetOf (intKind P w) a S n
  | .ins C dx fs=>H dx=some (.own a)∧fs.length≤1000∧dx≠a∧h.get? a=some (W.instObj C dx)∧
      ∃ mA,h.Ns1 dx mA∧(∀ f,RelO (fs.lookup f) (mA f))∧PySem.Within mA (fs.map (·.1))
  | .own _=>∃ o,h.get? a=some o
  | .xd fs=>∃ mA,h.Ns1 a mA∧∀ f,RelO (fs.lookup f) (mA f)
  | .rng lo hi=>∃ t u v,h.get? a=some { cls:=.type "range",data:=.fields #[.int lo t, .int hi u, .int 1 v] }
  | .frz o u=>h.get? a=some o∧ObjOk H h a u
  | .tbl ps=>h.get? a=some { cls:=.none,data:=.fields ps }
  | .met f x=>h.get? a=some (W.methodObj (.ref f) (.ref x))
  | .ext φ=>φ h∧(∃ o,h.get? a=some o)∧∀ h1 h2:Heap,φ h1→(∀ o,h1.get? a=some o→h2.get? a=some o)→φ h2
def HOk (H:Hp) (h:Heap):Prop:=∀ a o,H a=some o→ObjOk P w H h a o
end
section
variable {P:Program} {w:World} {H H':Hp} {h h':Heap} {a:Addr} {o:HO}
theorem ObjOk.lt (x:ObjOk P w H h a o):a<h.objs.size:=by
  cases o with
  | lst xs=>obtain ⟨_,_,_,_,e⟩:=x;exact Heap.lt_size e
  | tup xs=>obtain ⟨_,_,_,p⟩:=x;exact p.lt
  | dK kvs=>obtain ⟨_,_,_,_,o,_,_,e,_⟩:=x;exact Heap.lt_size e
  | dT kvs=>obtain ⟨_,_,_,_,o,_,_,e,_⟩:=x;exact Heap.lt_size e
  | set S n=>obtain ⟨o,_,_,_,e,_⟩:=x;exact Heap.lt_size e
  | ins C dx fs=>obtain ⟨_,_,_,e,_⟩:=x;exact Heap.lt_size e
  | own y=>obtain ⟨_,e⟩:=x;exact Heap.lt_size e
  | xd fs=>obtain ⟨_,⟨_,_,_,e,_⟩,_⟩:=x;exact Heap.lt_size e
  | rng lo hi=>obtain ⟨_,_,_,e⟩:=x;exact Heap.lt_size e
  | frz ob u=>obtain ⟨e,_⟩:=x;exact Heap.lt_size e
  | tbl ps=>exact Heap.lt_size (show h.get? a=some _ from x)
  | met f y=>exact Heap.lt_size (show h.get? a=some _ from x)
  | ext φ=>obtain ⟨_,⟨_,e⟩,_⟩:=x;exact Heap.lt_size e
theorem Paired.mapP {α β:Type} {F G:α→β→Prop}:∀ {l₁:List α} {l₂:List β},Paired F l₁ l₂→(∀ a b,F a b→G a b)→Paired G l₁ l₂
  | _,_, .nil,_=>.nil
  | _,_, .cons r t,f=>.cons (f _ _ r) (Paired.mapP t f)
theorem ObjOk.stay (x:ObjOk P w H h a o) (k:∀ b u,(b=a∨H b=some (.own a))→h.get? b=some u→h'.get? b=some u)
    (ho:∀ b,H b=some (.own a)→H' b=some (.own a)) (ht:∀ b xs,H b=some (.tup xs)→H' b=some (.tup xs)):ObjOk P w H' h' a o:=by
  induction o with
  | lst xs=>obtain ⟨z,its,n,r,e⟩:=x;exact ⟨z,its,n,r,k _ _ (.inl rfl) e⟩
  | tup xs=>obtain ⟨z,its,r,ob,e,c⟩:=x;exact ⟨z,its,r,ob,k _ _ (.inl rfl) e,c⟩
  | dK kvs=>obtain ⟨z,y,vs,r,ob,es,ep,e,c⟩:=x;exact ⟨z,y,vs,r,ob,es,ep,k _ _ (.inl rfl) e,c⟩
  | dT kvs=>
    obtain ⟨z,y,xs,r,ob,es,ep,e,c⟩:=x
    exact ⟨z,y,xs,Paired.mapP r fun p q z=>⟨z.1,ht _ _ z.2.1,z.2.2⟩,ob,es,ep,k _ _ (.inl rfl) e,c⟩
  | set S n=>obtain ⟨ob,es,ep,t,e,c⟩:=x;exact ⟨ob,es,ep,t,k _ _ (.inl rfl) e,c⟩
  | ins C dx fs=>
    obtain ⟨d,z,ne,e,mA,⟨od,es,ep,e2,c⟩,r⟩:=x
    exact ⟨ho _ d,z,ne,k _ _ (.inl rfl) e,mA,⟨od,es,ep,k _ _ (.inr d) e2,c⟩,r⟩
  | own y=>obtain ⟨ob,e⟩:=x;exact ⟨ob,k _ _ (.inl rfl) e⟩
  | xd fs=>obtain ⟨mA,⟨od,es,ep,e,c⟩,r⟩:=x;exact ⟨mA,⟨od,es,ep,k _ _ (.inl rfl) e,c⟩,r⟩
  | rng lo hi=>obtain ⟨t,u,v,e⟩:=x;exact ⟨t,u,v,k _ _ (.inl rfl) e⟩
  | frz ob u ih=>obtain ⟨e,q⟩:=x;exact ⟨k _ _ (.inl rfl) e,ih q⟩
  | tbl ps=>
    have e:h.get? a=some { cls:=.none,data:=.fields ps }:=x
    show h'.get? a=some { cls:=.none,data:=.fields ps }
    exact k a _ (.inl rfl) e
  | met f y=>
    have e:h.get? a=some (W.methodObj (.ref f) (.ref y)):=x
    show h'.get? a=some (W.methodObj (.ref f) (.ref y))
    exact k a _ (.inl rfl) e
  | ext φ=>obtain ⟨p,⟨o,e⟩,st⟩:=x;exact ⟨st _ _ p fun o q=>k _ _ (.inl rfl) q,⟨o,k _ _ (.inl rfl) e⟩,st⟩
theorem HOk.lt (x:HOk P w H h) (e:H a=some o):a<h.objs.size:=(x a o e).lt
theorem HOk.fresh (x:HOk P w H h) (e:h.objs.size≤a):H a=none:=by
  cases q:H a with
  | none=>rfl
  | some u=>exact absurd (Nat.lt_of_lt_of_le (x.lt q) e) (Nat.lt_irrefl _)
theorem HOk.kept (x:HOk P w H h) (k:∀ b u,h.get? b=some u→h'.get? b=some u):HOk P w H h':=fun a o e=>
  (x a o e).stay (fun b u _ q=>k b u q) (fun _ q=>q) fun _ _ q=>q
theorem HOk.laid (x:HOk P w H h) (k:∀ b u,h.get? b=some u→h'.get? b=some u) (hp:h.objs.size≤a) (new:ObjOk P w (upd H a o) h' a o):HOk P w (upd H a o) h':=fun b u e=>by
  have hn:=x.fresh hp
  by_cases hb:b=a
  · subst hb;rw [zaf] at e;cases e;exact new
  · rw [zag hb] at e
    exact (x b u e).stay (fun c v _ q=>k c v q) (fun c q=>by rw [zag (zaj q hn)];exact q) fun c xs q=>by rw [zag (zaj q hn)];exact q
end
def Rd (H:Hp) (a:Addr) (u:HO):Prop:=H a=some u∨∃ o,H a=some (.frz o u)
theorem Rd.of {H:Hp} {a:Addr} {u:HO} (h:H a=some u):Rd H a u:=.inl h
theorem Rd.ok {P:Program} {w:World} {H:Hp} {h:Heap} {a:Addr} {u:HO} (r:Rd H a u) (x:HOk P w H h):ObjOk P w H h a u:=by
  rcases r with r | ⟨o,r⟩
  · exact x a u r
  · obtain ⟨_,q⟩:=x a _ r
    exact q
def Mut:Option HO→Prop
  | some (.lst _)=>True
  | some (.dK _)=>True
  | some (.dT _)=>True
  | some (.set _ _)=>True
  | some (.ins _ _ _)=>True
  | some (.ext _)=>True
  | _=>False
section
variable {P:Program} {w:World} {H:Hp} {h h':Heap} {x e:Addr} {o':HO}
theorem HOk.write (ok:HOk P w H h) (mu:Mut (H x)) (he:e=x∨H e=some (.own x)) (k:∀ b u,b≠e→h.get? b=some u→h'.get? b=some u) (heo:∃ u,h'.get? e=some u)
    (new:ObjOk P w (upd H x o') h' x o'):HOk P w (upd H x o') h':=fun b u q=>by
  have nown:∀ c y,H c=some (.own y)→c≠x:=fun c y r z=>by subst z;rw [r] at mu;exact mu
  have ntup:∀ c xs,H c=some (.tup xs)→c≠x:=fun c xs r z=>by subst z;rw [r] at mu;exact mu
  by_cases hb:b=x
  · subst hb;rw [zaf] at q;cases q;exact new
  · rw [zag hb] at q
    by_cases hbe:b=e
    · have q':H b=some (.own x):=by
        rcases he with z | z
        · exact absurd (hbe.trans z) hb
        · rw [hbe];exact z
      rw [q] at q';cases q'
      obtain ⟨v,hv⟩:=heo
      exact ⟨v,by rw [hbe];exact hv⟩
    · refine (ok b u q).stay (fun c v hc r=>k c v ?_ r) (fun c r=>by rw [zag (nown c b r)];exact r) fun c xs r=>by rw [zag (ntup c xs r)];exact r
      rcases hc with rfl | hc
      · exact hbe
      · rintro rfl
        rcases he with z | z
        · exact nown c b hc z
        · rw [hc] at z;cases z;exact hb rfl
end
structure Un (fs ex:List Addr) (H H':Hp) (h h':Heap):Prop where
  keep:∀ b o,h.get? b=some o→H b=none→b∉fs→b∉ex→h'.get? b=some o
  slot:∀ b o,h.get? b=some o→H b=none→b∈fs→b∉ex→∃ sl,h'.get? b=some { o with slots:=sl }
  free:∀ b o,h.get? b=some o→H b=none→b∉ex→H' b=none
  there:∀ b o,h.get? b=some o→b∉ex→∃ o',h'.get? b=some o'
  tups:∀ b xs,H b=some (.tup xs)→H' b=some (.tup xs)
  frzs:∀ b o u,H b=some (.frz o u)→H' b=some (.frz o u)
  tbls:∀ b ps,H b=some (.tbl ps)→∃ more,H' b=some (.tbl (ps++more))
section
variable {fs fs' ex ex':List Addr} {H H1 H2:Hp} {h h1 h2 h':Heap} {a x e:Addr} {o:HO}
theorem Un.any (u:Un fs ex H H1 h h1) {b:Addr} {ob:Obj} (q:h.get? b=some ob) (n:H b=none) (hx:b∉ex):∃ sl,h1.get? b=some { ob with slots:=sl }:=by
  by_cases hb:b∈fs
  · exact u.slot b ob q n hb hx
  · exact ⟨ob.slots,u.keep b ob q n hb hx⟩
theorem Un.kept (k:∀ b u,h.get? b=some u→h'.get? b=some u):Un fs ex H H h h':=
  ⟨fun b ob q _ _ _=>k b ob q,fun b ob q _ _ _=>⟨ob.slots,k b ob q⟩,fun _ _ _ n _=>n,fun b ob q _=>⟨ob,k b ob q⟩,fun _ _ q=>q,fun _ _ _ q=>q,fun _ ps q=>⟨#[],by rw [q];simp⟩⟩
theorem Un.refl:Un fs ex H H h h:=Un.kept fun _ _ q=>q
theorem Un.laid (k:∀ b u,h.get? b=some u→h'.get? b=some u) (hp:h.objs.size≤a) (hn:H a=none):Un fs ex H (upd H a o) h h' where
  keep:=fun b u q _ _ _=>k b u q
  slot:=fun b u q _ _ _=>⟨u.slots,k b u q⟩
  free:=fun b u q n _=>by rw [zag (Nat.ne_of_lt (Nat.lt_of_lt_of_le (Heap.lt_size q) hp))];exact n
  there:=fun b u q _=>⟨u,k b u q⟩
  tups:=fun b xs q=>by rw [zag (zaj q hn)];exact q
  frzs:=fun b u xs q=>by rw [zag (zaj q hn)];exact q
  tbls:=fun b ps q=>⟨#[],by rw [zag (zaj q hn),q];simp⟩
theorem Un.write (mu:Mut (H x)) (he:e=x∨H e=some (.own x)) (k:∀ b u,b≠e→h.get? b=some u→h'.get? b=some u) (heo:∃ u,h'.get? e=some u):Un fs ex H (upd H x o) h h':=by
  have hx:∀ b,H b=none→b≠x:=fun b n z=>by subst z;rw [n] at mu;exact mu
  have hb:∀ b,H b=none→b≠e:=fun b n z=>by
    subst z
    rcases he with r | r
    · exact hx b n r
    · rw [n] at r;cases r
  have hm:∀ b u,H b=some u→¬Mut (some u)→b≠x:=fun b u q nm z=>by subst z;rw [q] at mu;exact nm mu
  refine ⟨fun b u q n _ _=>k b u (hb b n) q,fun b u q n _ _=>⟨u.slots,k b u (hb b n) q⟩,fun b u q n _=>by rw [zag (hx b n)];exact n,fun b u q _=>?_,
    fun b xs q=>by rw [zag (hm b _ q fun z=>z)];exact q,fun b u xs q=>by rw [zag (hm b _ q fun z=>z)];exact q,fun b ps q=>⟨#[],by rw [zag (hm b _ q fun z=>z),q];simp⟩⟩
  by_cases hbe:b=e
  · subst hbe;exact heo
  · exact ⟨u,k b u hbe q⟩
end
def trk (h:Heap) (H:Hp):List Addr:=(List.range h.objs.size).filter fun a=>(H a).isSome
def hidT (h:Heap) (H:Hp):Heap:=W.hideAll h (trk h H)
theorem zut (h:Heap) (H:Hp):(hidT h H).objs.size=h.objs.size:=W.hideAll_size _ _
theorem zxm {h:Heap} {H:Hp} {b:Addr} {o:Obj} (e:h.get? b=some o) (n:H b=none):(hidT h H).get? b=some o:=
  W.hideAll_get _ e fun hm=>by
    have q:(H b).isSome=true:=(List.mem_filter.mp hm).2
    rw [n] at q;simp at q
theorem zAs {h:Heap} {H:Hp} {b:Addr} {o:Obj} (e:(hidT h H).get? b=some o):h.get? b=some o∧H b=none:=by
  have e':h.get? b=some o:=W.of_hideAll (trk h H) e
  refine ⟨e',?_⟩
  cases q:H b with
  | none=>rfl
  | some x=>
    have hm:b∈trk h H:=List.mem_filter.mpr ⟨List.mem_range.mpr (Heap.lt_size e'),by simp [q]⟩
    have z:(hidT h H).get? b=none:=W.hideAll_none (trk h H) hm
    rw [z] at e;cases e
end L2
namespace L2
open PySem PySem.Spec PyProof.Rows
structure Mod (K:W.Frag) (mg:Str→Option Value) (base:Heap):Prop where
  kin:K.In base
  glob:base.Ns mainGlobals mg
  blt:∃ mb,base.Ns builtinsNs mb∧∀ x:Str,x≠"__name__"→mb x=bootBuiltins x
  nolimit:base.NoLimit
structure Cx where
  prog:Program
  w:World
  K:W.Frag
  mg:Str→Option Value
  base:Heap
  A:Around
  N:List Str
  s_0:Shared
  H_0:Hp
  env:Env
  outer:List Env
  stack:List Env
  ex:List Addr
  fn:Str→Bool
  calm:Bool
  pn:List (Addr×Obj)
  xe:Value→Shared→Prop
def frs (l:List Env):List Addr:=l.filterMap (·.frame)
abbrev Cx.fs (X:Cx):List Addr:=frs X.outer
def Vis (sc:Scope) (x:Str):Prop:=sc.names.lookup x=some .local∨sc.names.lookup x=some .cell∨sc.names.lookup x=some .free
def Loc (sc:Scope) (x:Str):Prop:=sc.names.lookup x=some .local∨sc.names.lookup x=some .cell
def Look (env:Env) (h:Heap) (m:Str→Option Value) (x:Str) (u:Value):Prop:=
  (env.kindOf x=some .local∧m x=some u)∨((env.kindOf x=some .cell∨env.kindOf x=some .free)∧∃ c,env.cells.lookup x=some c∧h.IsCell c (some u))
structure Cx.Ok (X:Cx):Prop where
  mod:Mod X.K X.mg X.base
  kind:X.env.scope.kind = .function
  glob:X.env.globals=mainGlobals
  blt:X.env.builtins=builtinsNs
  above:X.s_0.heap.objs.size≤X.env.locals
  inj:∀ x y c,X.env.cells.lookup x=some c→X.env.cells.lookup y=some c→x=y
  has:∀ x,(X.env.kindOf x=some .cell∨X.env.kindOf x=some .free)→∃ c,X.env.cells.lookup x=some c
  cab:∀ x c,X.fn x=true→X.env.cells.lookup x=some c→X.s_0.heap.objs.size≤c
  hd:X.calm=true→X.A.handled=none
  frames:X.A.frames=some X.stack
  stk:X.stack=X.outer∨(X.stack=X.env :: X.outer∧X.env.frame=some X.env.locals)
  exf:∀ b∈X.ex,b≠X.env.locals∧∀ x c,X.env.cells.lookup x=some c→c≠b
  bs:∀ b o,X.base.get? b=some o→X.s_0.heap.get? b=some o∧X.H_0 b=none
  bsz:X.base.objs.size≤X.s_0.heap.objs.size
  noex:∀ b o,X.base.get? b=some o→b∉X.ex
  exfs:∀ b∈X.ex,b∉X.fs
  funs:X.s_0.heap.FunFrames X.base X.outer
  frf:∀ b∈X.fs,X.H_0 b=none
structure Inv (X:Cx) (pins:List (Addr×Obj)) (σ:List (Option V)) (H:Hp) (s:Shared):Prop where
  ok:X.Ok
  os:s.os=X.s_0.os
  bare:AllBare s.gens
  base:Un X.fs X.ex X.H_0 H X.s_0.heap s.heap
  loc:∃ m,s.heap.Ns X.env.locals m∧∀ (i:Nat) (x:Str) (v:V),X.N[i]? = some x→σ[i]? = some (some v)→Vis X.env.scope x→∃ u,RelV v u∧Look X.env s.heap m x u
  cell:∀ x c,X.env.cells.lookup x=some c→∃ v,s.heap.IsCell c v
  free:H X.env.locals=none
  freeC:∀ x c,X.env.cells.lookup x=some c→H c=none
  pin:∀ p∈X.pn++pins,s.heap.get? p.1=some p.2∧H p.1=none∧p.1≠X.env.locals∧p.1∉X.fs∧∀ v,p.2.data≠.cell v
  hok:HOk X.prog X.w H s.heap
  len:σ.length=X.N.length
section
variable {X:Cx} {pins:List (Addr×Obj)} {σ:List (Option V)} {H H':Hp} {s:Shared} {h':Heap}
theorem Cx.Ok.nofr (ok:X.Ok) {b:Addr} {o:Obj} (e:X.base.get? b=some o):b∉X.fs:=fun hb=>by
  have:=(ok.funs.mem hb).1
  rw [e] at this;cases this
theorem Inv.bs (I:Inv X pins σ H s):∀ b o,X.base.get? b=some o→s.heap.get? b=some o∧H b=none:=fun b o e=>
  ⟨I.base.keep b o (I.ok.bs b o e).1 (I.ok.bs b o e).2 (I.ok.nofr e) (I.ok.noex b o e),I.base.free b o (I.ok.bs b o e).1 (I.ok.bs b o e).2 (I.ok.noex b o e)⟩
theorem Inv.bk (I:Inv X pins σ H s):∀ b o,X.base.get? b=some o→s.heap.get? b=some o:=fun b o e=>(I.bs b o e).1
theorem Inv.mod (I:Inv X pins σ H s):Mod X.K X.mg X.base:=I.ok.mod
theorem Inv.kIn (I:Inv X pins σ H s):X.K.In s.heap:=I.ok.mod.kin.keeps I.bk
theorem Inv.fr (I:Inv X pins σ H s):∃ m,Fr X.base X.env.locals s.heap m:=
  let ⟨m,hn,_⟩:=I.loc
  ⟨m,hn,I.bk,Nat.le_trans I.ok.bsz I.ok.above⟩
theorem Inv.lt (I:Inv X pins σ H s):X.env.locals<s.heap.objs.size:=let ⟨_,hn,_⟩:=I.loc;hn.lt
theorem Inv.sz (I:Inv X pins σ H s):X.s_0.heap.objs.size≤s.heap.objs.size:=Nat.le_trans I.ok.above (Nat.le_of_lt I.lt)
theorem Inv.nofs (I:Inv X pins σ H s) {a:Addr} (h:s.heap.objs.size≤a):a∉X.fs:=fun hb=>by
  obtain ⟨_,o,ho,_⟩:=I.ok.funs.mem hb
  exact absurd (Nat.lt_of_lt_of_le (Heap.lt_size ho) (Nat.le_trans I.sz h)) (Nat.lt_irrefl _)
theorem Inv.cne (I:Inv X pins σ H s):∀ x c,X.env.cells.lookup x=some c→c≠X.env.locals:=fun x c e z=>by
  obtain ⟨v,o,ho,hd⟩:=I.cell x c e
  obtain ⟨m,⟨o',es,ep,ho',hd',_⟩,_⟩:=I.loc
  rw [z,ho'] at ho;cases ho;rw [hd'] at hd;cases hd
theorem Inv.funs (I:Inv X pins σ H s):s.heap.FunFrames X.base X.outer:=by
  have all:∀ (l:List Env),(∀ b∈frs l,b∈X.fs)→X.s_0.heap.FunFrames X.base l→s.heap.FunFrames X.base l:=by
    intro l
    induction l with
    | nil=>intro _ _;trivial
    | cons env r ih=>
      intro hs hl
      obtain ⟨hk,⟨L,o,hf,hn,ho,hd⟩,hr⟩:=hl
      have hL:L∈X.fs:=hs L (by unfold frs;rw [List.filterMap_cons,hf];exact List.mem_cons_self)
      obtain ⟨sl,e⟩:=I.base.slot L o ho (I.ok.frf L hL) hL fun z=>I.ok.exfs L z hL
      exact ⟨hk,⟨L,_,hf,hn,e,hd⟩,ih (fun b hb=>hs b (by unfold frs;rw [List.filterMap_cons,hf];exact List.mem_cons_of_mem _ hb)) hr⟩
  exact all X.outer (fun _ hb=>hb) I.ok.funs
theorem Inv.stack (I:Inv X pins σ H s):s.heap.FunFrames X.base X.stack:=by
  rcases I.ok.stk with e | ⟨e,hf⟩
  · rw [e];exact I.funs
  · rw [e]
    obtain ⟨m,hn,_⟩:=I.loc
    refine .cons (by rw [I.ok.kind];decide) hf hn ?_ I.funs
    exact Heap.get?_none_of_le (Nat.le_trans I.ok.bsz I.ok.above)
theorem Inv.stkSub (I:Inv X pins σ H s):∀ b∈frs X.stack,b∈X.env.locals :: X.fs:=fun b hb=>by
  rcases I.ok.stk with e | ⟨e,hf⟩
  · rw [e] at hb;exact List.mem_cons_of_mem _ hb
  · rw [e] at hb
    unfold frs at hb
    rw [List.filterMap_cons,hf] at hb
    exact hb
theorem Inv.stkFree (I:Inv X pins σ H s):∀ b∈frs X.stack,H b=none:=fun b hb=>by
  rcases List.mem_cons.mp (I.stkSub b hb) with e | hb
  · rw [e];exact I.free
  · obtain ⟨_,o,ho,_⟩:=I.ok.funs.mem hb
    exact I.base.free b o ho (I.ok.frf b hb) fun z=>I.ok.exfs b z hb
theorem Inv.step {g':Array GenState} {t':Nat} {d':Drawn} {ch:List Addr} (I:Inv X pins σ H s)
    (hch:∀ b∈ch,(b∈X.ex∨X.s_0.heap.objs.size≤b)∧b≠X.env.locals∧(∀ x c,X.env.cells.lookup x=some c→c≠b)∧∀ p∈X.pn++pins,p.1≠b)
    (keep:∀ b o,b≠X.env.locals→b∉X.fs→b∉ch→s.heap.get? b=some o→H b=none→h'.get? b=some o)
    (slot:∀ b o,b≠X.env.locals→b∈X.fs→b∉ch→s.heap.get? b=some o→H b=none→∃ sl,h'.get? b=some { o with slots:=sl }) (free:∀ b o,b∉ch→s.heap.get? b=some o→H b=none→H' b=none)
    (there:∀ b o,b∉ch→s.heap.get? b=some o→∃ o',h'.get? b=some o')
    (tups:∀ b xs,H b=some (.tup xs)→H' b=some (.tup xs)) (frzs:∀ b o u,H b=some (.frz o u)→H' b=some (.frz o u)) (tbls:∀ b ps,H b=some (.tbl ps)→∃ more,H' b=some (.tbl (ps++more)))
    (ns:∀ m,s.heap.Ns X.env.locals m→h'.Ns X.env.locals m) (hok:HOk X.prog X.w H' h') (hg:AllBare g') :
    Inv X pins σ H' { s with heap:=h',gens:=g',drawn:=d',toks:=t' }:=by
  have neL:∀ b o,X.s_0.heap.get? b=some o→b≠X.env.locals:=fun b o e=>Nat.ne_of_lt (Nat.lt_of_lt_of_le (Heap.lt_size e) I.ok.above)
  have neC:∀ b o,X.s_0.heap.get? b=some o→b∉X.ex→b∉ch:=fun b o e hx hb=>by
    rcases (hch b hb).1 with z | z
    · exact hx z
    · exact absurd (Nat.lt_of_lt_of_le (Heap.lt_size e) z) (Nat.lt_irrefl _)
  have cellK:∀ x c,X.env.cells.lookup x=some c→∀ v,s.heap.IsCell c v→h'.IsCell c v:=fun x c e v ⟨o,ho,hd⟩=>by
    have nch:c∉ch:=fun z=>(hch c z).2.2.1 x c e rfl
    by_cases hc:c∈X.fs
    · obtain ⟨sl,q⟩:=slot c o (I.cne x c e) hc nch ho (I.freeC x c e)
      exact ⟨_,q,hd⟩
    · exact ⟨o,keep c o (I.cne x c e) hc nch ho (I.freeC x c e),hd⟩
  refine ⟨I.ok,I.os,hg,⟨fun b o e n hb hx=>?_,fun b o e n hb hx=>?_,fun b o e n hx=>?_,fun b o e hx=>?_,fun b xs e=>tups b xs (I.base.tups b xs e),fun b o xs e=>frzs b o xs (I.base.frzs b o xs e),fun b ps e=>?_⟩,?_,fun x c e=>?_,?_,fun x c e=>?_,fun p hp=>?_,hok,I.len⟩
  · exact keep b o (neL b o e) hb (neC b o e hx) (I.base.keep b o e n hb hx) (I.base.free b o e n hx)
  · obtain ⟨sl,e1⟩:=I.base.slot b o e n hb hx
    obtain ⟨sl',e2⟩:=slot b _ (neL b o e) hb (neC b o e hx) e1 (I.base.free b o e n hx)
    exact ⟨sl',e2⟩
  · obtain ⟨o',e1⟩:=I.base.there b o e hx
    exact free b o' (neC b o e hx) e1 (I.base.free b o e n hx)
  · obtain ⟨o',e1⟩:=I.base.there b o e hx
    exact there b o' (neC b o e hx) e1
  · obtain ⟨m1,e1⟩:=I.base.tbls b ps e
    obtain ⟨m2,e2⟩:=tbls b _ e1
    exact ⟨m1++m2,by rw [e2,Array.append_assoc]⟩
  · obtain ⟨m,hn,hl⟩:=I.loc
    refine ⟨m,ns m hn,fun i x v e1 e2 e3=>?_⟩
    obtain ⟨u,r,l⟩:=hl i x v e1 e2 e3
    refine ⟨u,r,?_⟩
    rcases l with l | ⟨k,c,e,z⟩
    · exact .inl l
    · exact .inr ⟨k,c,e,cellK x c e _ z⟩
  · obtain ⟨v,z⟩:=I.cell x c e
    exact ⟨v,cellK x c e v z⟩
  · obtain ⟨m,⟨o,_,_,ho,_⟩,_⟩:=I.loc
    exact free _ o (fun z=>(hch _ z).2.1 rfl) ho I.free
  · obtain ⟨v,o,ho,hd⟩:=I.cell x c e
    exact free c o (fun z=>(hch c z).2.2.1 x c e rfl) ho (I.freeC x c e)
  · obtain ⟨e,n,ne,nf,d⟩:=I.pin p hp
    have nch:p.1∉ch:=fun z=>(hch p.1 z).2.2.2 p hp rfl
    exact ⟨keep p.1 p.2 ne nf nch e n,free p.1 p.2 nch e n,ne,nf,d⟩
theorem Inv.un {t':Nat} (I:Inv X pins σ H s) (u:Un X.fs [] H H' s.heap h') (hok:HOk X.prog X.w H' h'):Inv X pins σ H' { s with heap:=h',toks:=t' }:=by
  obtain ⟨m,⟨o,es,ep,ho,r⟩,_⟩:=id I.loc
  obtain ⟨sl,hL⟩:=u.any ho I.free (by simp)
  exact I.step (g':=s.gens) (d':=s.drawn) (ch:=[]) (fun _ z=>nomatch z) (fun b o _ hb _ e n=>u.keep b o e n hb (by simp)) (fun b o _ hb _ e n=>u.slot b o e n hb (by simp)) (fun b o _ e n=>u.free b o e n (by simp)) (fun b o _ e=>u.there b o e (by simp)) u.tups u.frzs u.tbls (fun m' hm=>by
    obtain ⟨o',es',ep',ho',r'⟩:=hm
    rw [ho] at ho';cases ho'
    exact ⟨_,es',ep',hL,r'⟩) hok I.bare
theorem Inv.call {g':Array GenState} {t':Nat} {d':Drawn} {ch:List Addr} (I:Inv X pins σ H s) (u:Un (frs X.stack) ch H H' s.heap h') (hok:HOk X.prog X.w H' h') (hg:AllBare g')
    (hch:∀ b∈ch,(b∈X.ex∨X.s_0.heap.objs.size≤b)∧b≠X.env.locals∧(∀ x c,X.env.cells.lookup x=some c→c≠b)∧∀ p∈X.pn++pins,p.1≠b) :
    Inv X pins σ H' { s with heap:=h',gens:=g',drawn:=d',toks:=t' }:=by
  obtain ⟨m,⟨o,es,ep,ho,r⟩,_⟩:=id I.loc
  obtain ⟨sl,hL⟩:=u.any ho I.free fun z=>(hch _ z).2.1 rfl
  exact I.step (ch:=ch) hch (fun b o hL hb hc e n=>u.keep b o e n (fun z=>(List.mem_cons.mp (I.stkSub b z)).elim hL hb) hc) (fun b o _ _ hc e n=>u.any e n hc) (fun b o hc e n=>u.free b o e n hc) (fun b o hc e=>u.there b o e hc) u.tups u.frzs u.tbls (fun m' hm=>by
    obtain ⟨o',es',ep',ho',r'⟩:=hm
    rw [ho] at ho';cases ho'
    exact ⟨_,es',ep',hL,r'⟩) hok hg
theorem Inv.turned {t':Nat} {it:Addr} (I:Inv X pins σ H s) (k:∀ b o,b≠it→s.heap.get? b=some o→h'.get? b=some o) (hn:H it=none) (hL:it≠X.env.locals)
    (h1:it∈X.ex∨X.s_0.heap.objs.size≤it) (h2:∀ x c,X.env.cells.lookup x=some c→c≠it) (h3:∀ p∈X.pn++pins,p.1≠it):Inv X pins σ H { s with heap:=h',toks:=t' }:=by
  have nit:∀ b u,H b=some u→b≠it:=fun b u e z=>by rw [z,hn] at e;cases e
  refine I.step (g':=s.gens) (d':=s.drawn) (ch:=[it]) (fun b hb=>?_) (fun b o _ _ hc e _=>k b o (fun z=>hc (by simp [z])) e) (fun b o _ _ hc e _=>⟨o.slots,k b o (fun z=>hc (by simp [z])) e⟩) (fun _ _ _ _ n=>n)
    (fun b o hc e=>⟨o,k b o (fun z=>hc (by simp [z])) e⟩) (fun _ _ e=>e) (fun _ _ _ e=>e) (fun b ps e=>⟨#[],by rw [e];simp⟩) (fun m hm=>?_) (fun b u e=>?_) I.bare
  · have e:b=it:=by simpa using hb
    subst e
    exact ⟨h1,hL,h2,h3⟩
  · obtain ⟨o,es,ep,ho,r⟩:=hm
    exact ⟨o,es,ep,k _ o (Ne.symm hL) ho,r⟩
  · refine (I.hok b u e).stay (fun c v hc q=>k c v ?_ q) (fun _ q=>q) fun _ _ q=>q
    rcases hc with z | z
    · rw [z];exact nit b u e
    · exact nit c _ z
theorem Inv.tok (I:Inv X pins σ H s) (t:Nat):Inv X pins σ H { s with toks:=t }:=I.un (h':=s.heap) (t':=t) Un.refl I.hok
theorem Inv.kept {t':Nat} (I:Inv X pins σ H s) (k:∀ b u,s.heap.get? b=some u→h'.get? b=some u):Inv X pins σ H { s with heap:=h',toks:=t' }:=I.un (Un.kept k) (I.hok.kept k)
theorem Inv.laid {a:Addr} {o:HO} {t':Nat} (I:Inv X pins σ H s) (k:∀ b u,s.heap.get? b=some u→h'.get? b=some u) (hp:s.heap.objs.size≤a) (new:ObjOk X.prog X.w (upd H a o) h' a o) :
    Inv X pins σ (upd H a o) { s with heap:=h',toks:=t' }:=I.un (Un.laid k hp (I.hok.fresh hp)) (I.hok.laid k hp new)
theorem Inv.write {x e:Addr} {o:HO} {t':Nat} (I:Inv X pins σ H s) (mu:Mut (H x)) (he:e=x∨H e=some (.own x)) (k:∀ b u,b≠e→s.heap.get? b=some u→h'.get? b=some u) (heo:∃ u,h'.get? e=some u)
    (new:ObjOk X.prog X.w (upd H x o) h' x o):Inv X pins σ (upd H x o) { s with heap:=h',toks:=t' }:=I.un (Un.write mu he k heo) (I.hok.write mu he k heo new)
theorem Inv.weak {σ':List (Option V)} (I:Inv X pins σ H s) (hl:σ'.length=σ.length) (w:∀ (i:Nat) v,σ'[i]? = some (some v)→σ[i]? = some (some v)):Inv X pins σ' H s:=
  ⟨I.ok,I.os,I.bare,I.base,let ⟨m,hn,hl'⟩:=I.loc; ⟨m,hn,fun i x v e1 e2 e3=>hl' i x v e1 (w i v e2) e3⟩,I.cell,I.free,I.freeC,I.pin,I.hok,hl.trans I.len⟩
theorem Inv.pins_of {pins':List (Addr×Obj)} (I:Inv X pins σ H s) (h:∀ p∈pins',s.heap.get? p.1=some p.2∧H p.1=none∧p.1≠X.env.locals∧p.1∉X.fs∧∀ v,p.2.data≠.cell v):Inv X pins' σ H s:=
  ⟨I.ok,I.os,I.bare,I.base,I.loc,I.cell,I.free,I.freeC,fun p hp=>(List.mem_append.mp hp).elim (fun z=>I.pin p (List.mem_append_left _ z)) (h p),I.hok,I.len⟩
theorem zmv {N:List Str} (hN:N.Nodup) {i j:Nat} {x:Str} (a:N[i]? = some x) (b:N[j]? = some x):i=j:=by
  obtain ⟨h1,e1⟩:=List.getElem?_eq_some_iff.mp a
  obtain ⟨h2,e2⟩:=List.getElem?_eq_some_iff.mp b
  exact (List.getElem_inj hN).mp (e1.trans e2.symm)
theorem zkw {M:Model} {A:Around} {E:Value→Shared→Prop} {i:Nat} {x:Str} {v:V} {u:Value} {Q:Unit→Shared→Prop} (I:Inv X pins σ H s) (hN:X.N.Nodup) (hi:X.N[i]? = some x) (hx:Loc X.env.scope x) (r:RelV v u)
    (h:∀ s',Inv X pins (σ.set i (some v)) H s'→(∃ a,Heap.SameBut a s.heap s'.heap∧(a=X.env.locals∨X.env.cells.lookup x=some a))→Q () s') (hf:X.fn x=true∨X.env.scope.names.lookup x=some .local:=by first | exact .inl rfl | exact .inr rfl | assumption):wpAny M A (storeName X.env x u) Q E s:=by
  obtain ⟨m,hn,hl⟩:=id I.loc
  have hcls:(X.env.scope.kind == .class || (X.env.scope.kind == .module&&X.env.locals != X.env.globals))=false:=by rw [I.ok.kind];rfl
  have hiσ:i<σ.length:=by rw [I.len];exact (List.getElem?_eq_some_iff.mp hi).1
  have cne:=I.cne
  have tracked:∀ {a:Addr} {h':Heap},(∃ o,s.heap.get? a=some o∧H a=none)→Heap.SameBut a s.heap h'→HOk X.prog X.w H h':=fun {a h'} ha hs b ob e=>by
    obtain ⟨_,_,hfree⟩:=ha
    refine (I.hok b ob e).stay (fun c w' hc q=>(hs.2 c ?_).trans q) (fun _ q=>q) fun _ _ q=>q
    rintro rfl
    rcases hc with rfl | hc
    · rw [hfree] at e;cases e
    · rw [hfree] at hc;cases hc
  rcases hx with hk | hk
  · refine wpAny_storeName_local hk hn (fun h' hn' hs=>?_) hcls
    obtain ⟨oL,_,_,hoL,_⟩:=id hn
    refine h _ ⟨I.ok,I.os,I.bare,⟨fun b o e n hb hx=>?_,fun b o e n hb hx=>?_,I.base.free,fun b o e hx=>?_,I.base.tups,I.base.frzs,I.base.tbls⟩,⟨_,hn',fun j y v' e1 e2 e3=>?_⟩,fun y c e=>?_,I.free,I.freeC,fun p hp=>?_,tracked ⟨oL,hoL,I.free⟩ hs,by simpa using I.len⟩ ⟨_,hs, .inl rfl⟩
    · exact (hs.2 b (Nat.ne_of_lt (Nat.lt_of_lt_of_le (Heap.lt_size e) I.ok.above))).trans (I.base.keep b o e n hb hx)
    · obtain ⟨sl,e1⟩:=I.base.slot b o e n hb hx
      exact ⟨sl,(hs.2 b (Nat.ne_of_lt (Nat.lt_of_lt_of_le (Heap.lt_size e) I.ok.above))).trans e1⟩
    · obtain ⟨o',e1⟩:=I.base.there b o e hx
      exact ⟨o',(hs.2 b (Nat.ne_of_lt (Nat.lt_of_lt_of_le (Heap.lt_size e) I.ok.above))).trans e1⟩
    · by_cases hj:j=i
      · subst hj
        rw [hi] at e1;cases e1
        rw [List.getElem?_set_self hiσ] at e2
        cases e2
        exact ⟨u,r, .inl ⟨hk,by simp⟩⟩
      · rw [List.getElem?_set_ne (Ne.symm hj)] at e2
        obtain ⟨u',r',q⟩:=hl j y v' e1 e2 e3
        refine ⟨u',r',?_⟩
        rcases q with ⟨k,e⟩ | ⟨k,c,e,z⟩
        · refine .inl ⟨k,?_⟩
          have:y≠x:=fun e=>hj (zmv hN e1 (e▸hi))
          simp [this,e]
        · exact .inr ⟨k,c,e,z.sameBut hs (cne y c e)⟩
    · obtain ⟨w',z⟩:=I.cell y c e
      exact ⟨w',z.sameBut hs (cne y c e)⟩
    · obtain ⟨e,n,ne,nf,d⟩:=I.pin p hp
      exact ⟨(hs.2 p.1 ne).trans e,n,ne,nf,d⟩
  · have hfn:X.fn x=true:=by
      rcases hf with z | z
      · exact z
      · rw [z] at hk;cases hk
    obtain ⟨c,hc⟩:=I.ok.has x (.inl hk)
    obtain ⟨w',z⟩:=I.cell x c hc
    refine wpAny_storeName_cell I.ok.kind hk hc z (fun h' hc' hs=>?_)
    obtain ⟨oc,hoc,hocd⟩:=id z
    refine h { s with heap:=h' } ⟨I.ok,I.os,I.bare,⟨fun b o e n hb hx=>?_,fun b o e n hb hx=>?_,I.base.free,fun b o e hx=>?_,I.base.tups,I.base.frzs,I.base.tbls⟩,⟨m,hn.sameBut hs (Ne.symm (cne x c hc)),fun j y v' e1 e2 e3=>?_⟩,fun y c' e=>?_,I.free,I.freeC,fun p hp=>?_,tracked ⟨oc,hoc,I.freeC x c hc⟩ hs,by simpa using I.len⟩ ⟨c,hs, .inr hc⟩
    · exact (hs.2 b (Nat.ne_of_lt (Nat.lt_of_lt_of_le (Heap.lt_size e) (I.ok.cab x c hfn hc)))).trans (I.base.keep b o e n hb hx)
    · obtain ⟨sl,e1⟩:=I.base.slot b o e n hb hx
      exact ⟨sl,(hs.2 b (Nat.ne_of_lt (Nat.lt_of_lt_of_le (Heap.lt_size e) (I.ok.cab x c hfn hc)))).trans e1⟩
    · obtain ⟨o',e1⟩:=I.base.there b o e hx
      exact ⟨o',(hs.2 b (Nat.ne_of_lt (Nat.lt_of_lt_of_le (Heap.lt_size e) (I.ok.cab x c hfn hc)))).trans e1⟩
    · by_cases hj:j=i
      · subst hj
        rw [hi] at e1;cases e1
        rw [List.getElem?_set_self hiσ] at e2
        cases e2
        exact ⟨u,r, .inr ⟨.inl hk,c,hc,hc'⟩⟩
      · rw [List.getElem?_set_ne (Ne.symm hj)] at e2
        obtain ⟨u',r',q⟩:=hl j y v' e1 e2 e3
        refine ⟨u',r',?_⟩
        rcases q with q | ⟨k,c',e,z'⟩
        · exact .inl q
        · refine .inr ⟨k,c',e,z'.sameBut hs ?_⟩
          rintro rfl
          exact hj (zmv hN e1 (I.ok.inj _ _ _ e hc▸hi))
    · by_cases hcc:c'=c
      · subst hcc;exact ⟨_,hc'⟩
      · obtain ⟨w2,z2⟩:=I.cell y c' e
        exact ⟨w2,z2.sameBut hs hcc⟩
    · obtain ⟨e,n,ne,nf,d⟩:=I.pin p hp
      refine ⟨(hs.2 p.1 ?_).trans e,n,ne,nf,d⟩
      intro q
      rw [q,hoc] at e
      have q':oc=p.2:=Option.some.inj e
      exact d w' (by rw [← q'];exact hocd)
theorem znp {M:Model} {A:Around} {E:Value→Shared→Prop} {i:Nat} {x:Str} {v:V} {u:Value} {Q:Unit→Shared→Prop} (I:Inv X pins σ H s) (hN:X.N.Nodup) (hi:X.N[i]? = some x) (hx:Loc X.env.scope x) (r:RelV v u)
    (h:∀ s',Inv X pins (σ.set i (some v)) H s'→Q () s') (hf:X.fn x=true∨X.env.scope.names.lookup x=some .local:=by first | exact .inl rfl | exact .inr rfl | assumption):wpAny M A (storeName X.env x u) Q E s:=
  zkw I hN hi hx r (fun s' I' _=>h s' I') hf
theorem Inv.call' {s':Shared} {ch:List Addr} (I:Inv X pins σ H s) (ho:s'.os=s.os) (u:Un (frs X.stack) ch H H' s.heap s'.heap) (hok:HOk X.prog X.w H' s'.heap) (hg:AllBare s'.gens)
    (hch:∀ b∈ch,(b∈X.ex∨X.s_0.heap.objs.size≤b)∧b≠X.env.locals∧(∀ x c,X.env.cells.lookup x=some c→c≠b)∧∀ p∈X.pn++pins,p.1≠b):Inv X pins σ H' s':=by
  obtain ⟨h',g',d',t',o'⟩:=s'
  have e:o'=s.os:=ho
  subst e
  exact I.call (g':=g') (t':=t') (d':=d') u hok hg hch
end
abbrev XK:=Value→Option Addr→Hp→Prop
abbrev St:=List (Option V)
abbrev VK:=V→Hp→Prop
abbrev TE:=St→Hp→VK→Prop
abbrev TT:=St→Hp→(Bool→Hp→Prop)→Prop
abbrev TA:=St→Hp→(List V→Hp→Prop)→Prop
structure Ends where
  nx:St→Hp→Prop
  rt:VK
  bk:St→Hp→Prop:=fun _ _=>False
  ct:St→Hp→Prop:=fun _ _=>False
abbrev TS:=Ends→St→Hp→Prop
def EP (X:Cx) (pins:List (Addr×Obj)) (σ:St) (Q:VK) (u:Value) (s':Shared):Prop:=∃ v H',Inv X pins σ H' s'∧RelV v u∧Q v H'
def TP (X:Cx) (pins:List (Addr×Obj)) (σ:St) (Q:Bool→Hp→Prop) (b:Bool) (s':Shared):Prop:=∃ H',Inv X pins σ H' s'∧Q b H'
def AP (X:Cx) (pins:List (Addr×Obj)) (σ:St) (Q:List V→Hp→Prop) (us:List Value) (s':Shared):Prop:=∃ vs H',Inv X pins σ H' s'∧Vals vs us∧Q vs H'
def SP (X:Cx) (pins:List (Addr×Obj)) (D:Ends) (f:Flow) (s':Shared):Prop:=
  match f with
  | .next=>∃ σ' H',Inv X pins σ' H' s'∧D.nx σ' H'
  | .brk=>∃ σ' H',Inv X pins σ' H' s'∧D.bk σ' H'
  | .cont=>∃ σ' H',Inv X pins σ' H' s'∧D.ct σ' H'
  | .ret u=>∃ v σ' H',Inv X pins σ' H' s'∧RelV v u∧D.rt v H'
def PE (X:Cx) (e:Expr) (t:TE):Prop:=
  ∀ (pins:List (Addr×Obj)) (s:Shared) (σ:St) (H:Hp) (Q:VK),Inv X pins σ H s→t σ H Q→wpAny (model X.prog X.w) X.A (eval e X.env) (EP X pins σ Q) X.xe s
def PT (X:Cx) (e:Expr) (t:TT):Prop:=
  ∀ (pins:List (Addr×Obj)) (s:Shared) (σ:St) (H:Hp) (Q:Bool→Hp→Prop),Inv X pins σ H s→t σ H Q→wpAny (model X.prog X.w) X.A (isTrue e X.env (eval e X.env)) (TP X pins σ Q) X.xe s
def PW (X:Cx) (e:Expr) (t:TT):Prop:=
  ∀ (whole:Sem Value) (pins:List (Addr×Obj)) (s:Shared) (σ:St) (H:Hp) (Q:Bool→Hp→Prop),Inv X pins σ H s→t σ H Q→wpAny (model X.prog X.w) X.A (isTrue e X.env whole) (TP X pins σ Q) X.xe s
theorem PW.pt {X:Cx} {e:Expr} {t:TT} (h:PW X e t):PT X e t:=h _
def PA (X:Cx) (es:List Expr) (t:TA):Prop:=
  ∀ (pos:Pos) (pins:List (Addr×Obj)) (s:Shared) (σ:St) (H:Hp) (Q:List V→Hp→Prop),Inv X pins σ H s→t σ H Q→wpAny (model X.prog X.w) X.A (spliced (backTo pos (starEach es X.env))) (AP X pins σ Q) X.xe s
def PS (X:Cx) (st:Stmt) (t:TS):Prop:=
  ∀ (pins:List (Addr×Obj)) (s:Shared) (σ:St) (H:Hp) (D:Ends),Inv X pins σ H s→t D σ H→wpAny (model X.prog X.w) X.A (exec st X.env) (SP X pins D) X.xe s
def PSs (X:Cx) (st:List Stmt) (t:TS):Prop:=
  ∀ (pins:List (Addr×Obj)) (s:Shared) (σ:St) (H:Hp) (D:Ends),Inv X pins σ H s→t D σ H→wpAny (model X.prog X.w) X.A (execs st X.env) (SP X pins D) X.xe s
theorem thn {α:Type} {t:Sem α} {Q Q':α→Shared→Prop} {M:Model} {A:Around} {E:Value→Shared→Prop} {s:Shared} (h:wpAny M A t Q E s) (hQ:∀ a s,Q a s→Q' a s):wpAny M A t Q' E s:=wpAny_mono h hQ fun _ _ x=>x
end L2
namespace L2
open PySem PySem.Spec PyProof.Rows
section
variable {X:Cx}
def tVar (i:Nat):TE:=fun σ H Q=>G1 (fun v=>σ[i]? = some (some v)) fun v=>Q v H
def tC (v:V):TE:=fun _ H Q=>Q v H
theorem zC6 {i:Nat} {x:Str} {pos:Pos} (hN:X.N[i]? = some x) (hv:Vis X.env.scope x) (hd:(x == ("__debug__" : Str))=false:=by decide) (hcd:(x == ("__classdict__" : Str))=false:=by decide):PE X (.Name x pos) (tVar i):=by
  intro pins s σ H Q I h
  obtain ⟨v,e,h⟩:=h
  obtain ⟨m,hn,hl⟩:=I.loc
  obtain ⟨u,r,l⟩:=hl i x v hN e hv
  have fin:EP X pins σ Q u s:=⟨v,H,I,r,h⟩
  rcases l with ⟨hk,hm⟩ | ⟨hk,c,hc,hcell⟩
  · exact wpAny_Name (wpAny_loadName_local I.ok.kind hk hn hm fin) hd
  · rcases hk with hk | hk
    · exact wpAny_Name (wpAny_loadName_cell I.ok.kind hk hc hcell fin) hd
    · exact wpAny_Name (wpAny_loadName_free I.ok.kind hk hc hcell fin hcd) hd
theorem zao {i j pos}:PE X (.Constant (.int i) j pos) (tC (.int i)):=fun _ _ _ H _ I h=>wpAny_Constant_int ⟨.int i,H,I.tok _,⟨_,rfl⟩,h⟩
theorem zei {b j pos}:PE X (.Constant (.bool b) j pos) (tC (.bl b)):=fun _ _ _ H _ I h=>Constant_bool ⟨.bl b,H,I,rfl,h⟩
theorem zo8 {j pos}:PE X (.Constant .none j pos) (tC .non):=fun _ _ _ H _ I h=>Constant_none ⟨.non,H,I,rfl,h⟩
theorem zb6 {x j pos}:PE X (.Constant (.str x) j pos) (tC (.str x)):=fun _ _ _ H _ I h=>Calls.Constant_str ⟨.str x,H,I.tok _,⟨_,rfl⟩,h⟩
def Gl (X:Cx) (x:Str):Prop:=X.env.kindOf x=some .globalImplicit
theorem zik {E:Value→Shared→Prop} {pins:List (Addr×Obj)} {s:Shared} {σ:St} {H:Hp} {x:Str} {u:Value} {pos:Pos} {Q:Value→Shared→Prop} (I:Inv X pins σ H s) (hg:Gl X x) (hm:X.mg x=some u) (h:Q u s)
    (hd:(x == ("__debug__" : Str))=false:=by decide):wpAny (model X.prog X.w) X.A (eval (.Name x pos) X.env) Q E s:=
  Calls.Name_function_global I.ok.kind hg (Calls.loadGlobal_global (by rw [I.ok.glob];exact I.mod.glob.keeps I.bk) hm h) hd
theorem zkf {E:Value→Shared→Prop} {pins:List (Addr×Obj)} {s:Shared} {σ:St} {H:Hp} {x:Str} {u:Value} {pos:Pos} {Q:Value→Shared→Prop} (I:Inv X pins σ H s) (hg:Gl X x) (hm:X.mg x=none) (hv:bootBuiltins x=some u) (h:Q u s)
    (hn:x≠"__name__":=by decide) (hd:(x == ("__debug__" : Str))=false:=by decide):wpAny (model X.prog X.w) X.A (eval (.Name x pos) X.env) Q E s:=by
  obtain ⟨mb,h1,h2⟩:=I.mod.blt
  exact Calls.Name_function_global I.ok.kind hg (Calls.loadGlobal_builtin (by rw [I.ok.glob];exact I.mod.glob.keeps I.bk) hm (by rw [I.ok.blt];exact h1.keeps I.bk) ((h2 x hn).trans hv) h) hd
theorem zkl {x:Str} {v:V} {u:Value} {pos:Pos} (hg:Gl X x) (hm:X.mg x=some u) (r:RelV v u) (hd:(x == ("__debug__" : Str))=false:=by decide):PE X (.Name x pos) (tC v):=
  fun _ _ _ H _ I h=>zik I hg hm ⟨v,H,I,r,h⟩ hd
variable {a b:Expr} {ta tb:TE} {pos:Pos}
def PC (X:Cx) (op:CmpOp) (a b:Expr) (t:TE):Prop:=
  ∀ (pins:List (Addr×Obj)) (s:Shared) (σ:St) (H:Hp) (Q:VK),Inv X pins σ H s→t σ H Q→
    wpAny (model X.prog X.w) X.A (eval a X.env) (fun v s₁=>wpAny (model X.prog X.w) X.A (eval b X.env) (fun u s₂=>wpAny (model X.prog X.w) X.A (compareOp op v u) (EP X pins σ Q) X.xe s₂) X.xe s₁) X.xe s
def tB (t:TE):TT:=fun σ H Q=>t σ H fun x H1=>G1 (fun c=>x = .bl c) fun c=>Q c H1
theorem zo7 {op:CmpOp} {t:TE} (h:PC X op a b t) (h1:behindInMarks op b=false:=by first | exact nobehind _ (by decide) (by decide) | rfl):PE X (.Compare a [op] [b] pos) t:=fun pins s σ H Q I hw=>wpAny_Compare1 (h pins s σ H Q I hw) h1
theorem zzp {op:CmpOp} {t:TE} (h:PC X op a b t) (h1:behindInMarks op b=false:=by first | exact nobehind _ (by decide) (by decide) | rfl):PT X (.Compare a [op] [b] pos) (tB t):=by
  intro pins s σ H Q I hw
  refine wpAny_isTrue_Compare1 (thn (h pins s σ H _ I hw) fun v s1 h1=>thn h1 fun u s2 h2=>thn h2 fun c s3 ⟨x,H1,I1,r1,q1⟩=>?_) h1
  obtain ⟨d,rfl,q⟩:=q1
  cases r1
  exact wpAny_truthy_bool ⟨H1,I1,q⟩
theorem zct {e:Expr} {t:TE} (h:PE X e t) (he:∀ whole,isTrue e X.env whole=(do let v ← whole;standAt e.pos;holding [v] (truthy v)):=by intro _;rfl):PT X e (tB t):=by
  intro pins s σ H Q I hw
  refine isTrue_plain (thn (h pins s σ H _ I hw) fun v s1 ⟨x,H1,I1,r1,q1⟩=>?_) (he _)
  obtain ⟨d,rfl,q⟩:=q1
  cases r1
  exact wpAny_truthy_bool ⟨H1,I1,q⟩
variable {tA tB':TT} {rest:List Expr}
def tAnd (t u:TT):TT:=fun σ H Q=>t σ H fun c H1=>if c=true then u σ H1 Q else Q false H1
def tOr (t u:TT):TT:=fun σ H Q=>t σ H fun c H1=>if c=true then Q true H1 else u σ H1 Q
def tNot (t:TT):TT:=fun σ H Q=>t σ H fun c H1=>Q (!c) H1
theorem zi0 (ha:PT X a tA):PW X (.BoolOp .And [a] pos) tA:=by
  intro wh pins s σ H Q I h
  refine isTrue_and (thn (ha pins s σ H Q I h) fun c s1 e=>?_)
  cases c with
  | true=>exact isTrue_and_nil e
  | false=>exact e
theorem zkp (ha:PT X a tA):PW X (.BoolOp .Or [a] pos) tA:=by
  intro wh pins s σ H Q I h
  refine isTrue_or (thn (ha pins s σ H Q I h) fun c s1 e=>?_)
  cases c with
  | false=>exact isTrue_or_nil e
  | true=>exact e
theorem zko (ha:PT X a tA) (hb:PW X (.BoolOp .And (b :: rest) pos) tB'):PW X (.BoolOp .And (a :: b :: rest) pos) (tAnd tA tB'):=by
  intro wh pins s σ H Q I h
  refine isTrue_and (thn (ha pins s σ H _ I h) fun c s1 ⟨H1,I1,q1⟩=>?_)
  cases c with
  | true=>exact hb wh pins s1 σ H1 Q I1 q1
  | false=>exact ⟨H1,I1,q1⟩
theorem zpd (ha:PT X a tA) (hb:PW X (.BoolOp .Or (b :: rest) pos) tB'):PW X (.BoolOp .Or (a :: b :: rest) pos) (tOr tA tB'):=by
  intro wh pins s σ H Q I h
  refine isTrue_or (thn (ha pins s σ H _ I h) fun c s1 ⟨H1,I1,q1⟩=>?_)
  cases c with
  | true=>exact ⟨H1,I1,q1⟩
  | false=>exact hb wh pins s1 σ H1 Q I1 q1
theorem ze5 (ha:PT X a tA):PT X (.UnaryOp .Not a pos) (tNot tA):=by
  intro pins s σ H Q I h
  exact isTrue_not (ha pins s σ H (fun c H1=>Q (!c) H1) I h)
def zDg (ta tb:TE):TE:=fun σ H Q=>ta σ H fun x H1=>G1 (fun c=>x = .bl c) fun c=>if c=true then tb σ H1 Q else Q (.bl false) H1
def tOrV (ta tb:TE):TE:=fun σ H Q=>ta σ H fun x H1=>G1 (fun c=>x = .bl c) fun c=>if c=true then Q (.bl true) H1 else tb σ H1 Q
theorem zje {op} {t:TE} (h:PE X a t):PE X (.BoolOp op [a] pos) t:=fun pins s σ H Q I hw=>BoolOp_one (h pins s σ H Q I hw)
theorem zr7 (ha:PE X a ta) (hb:PE X (.BoolOp .And (b :: rest) pos) tb):PE X (.BoolOp .And (a :: b :: rest) pos) (zDg ta tb):=by
  intro pins s σ H Q I h
  refine BoolOp_and (thn (ha pins s σ H _ I h) fun v s1 ⟨x,H1,I1,r1,q1⟩=>?_)
  obtain ⟨c,rfl,q1⟩:=q1
  cases r1
  refine wpAny_truthy_bool ?_
  cases c with
  | true=>exact hb pins s1 σ H1 Q I1 q1
  | false=>exact ⟨.bl false,H1,I1,rfl,q1⟩
theorem ztg (ha:PE X a ta) (hb:PE X (.BoolOp .Or (b :: rest) pos) tb):PE X (.BoolOp .Or (a :: b :: rest) pos) (tOrV ta tb):=by
  intro pins s σ H Q I h
  refine BoolOp_or (thn (ha pins s σ H _ I h) fun v s1 ⟨x,H1,I1,r1,q1⟩=>?_)
  obtain ⟨c,rfl,q1⟩:=q1
  cases r1
  refine wpAny_truthy_bool ?_
  cases c with
  | false=>exact hb pins s1 σ H1 Q I1 q1
  | true=>exact ⟨.bl true,H1,I1,rfl,q1⟩
def tIf (t:TT) (ta tb:TE):TE:=fun σ H Q=>t σ H fun c H1=>if c=true then ta σ H1 Q else tb σ H1 Q
theorem zya {c:Expr} (hc:PT X c tA) (ha:PE X a ta) (hb:PE X b tb):PE X (.IfExp c a b pos) (tIf tA ta tb):=by
  intro pins s σ H Q I h
  refine wpAny_IfExp (thn (hc pins s σ H _ I h) fun d s1 ⟨H1,I1,q1⟩=>?_)
  cases d with
  | true=>exact ha pins s1 σ H1 Q I1 q1
  | false=>exact hb pins s1 σ H1 Q I1 q1
end
end L2
namespace L2
open PySem PySem.Spec PyProof.Rows
def SqL (K:W.Frag) (H:Hp) (a:Addr) (xs:List V):Prop:=
  Rd H a (.lst xs)∨
    ∃ (o:Obj) (its:Array Value) (n:Nat),K.lookup a=some o∧o.cls = .type "list"∧o.dict=none∧o.data = .seq its n∧its.size≤sizeLine∧Vals xs its.toList
def SqT (K:W.Frag) (H:Hp) (a:Addr) (xs:List V):Prop:=
  Rd H a (.tup xs)∨
    ∃ (o:Obj) (its:Array Value) (n:Nat),K.lookup a=some o∧o.cls = .type "tuple"∧o.data = .seq its n∧its.size≤sizeLine∧Vals xs its.toList
def absV:Value→Option V
  | .none=>some .non
  | .bool b=>some (.bl b)
  | .int i _=>some (.int i)
  | .str x _=>some (.str x)
  | .bytes b _=>some (.byt b)
  | .float b _=>some (.flt b)
  | .ref a=>some (.ref a)
  | .type n=>some (.ty n)
  | _=>none
theorem RelV.abs {x:V} {u:Value} (r:RelV x u):absV u=some x:=by
  cases x with
  | non=>cases r;rfl
  | bl _=>cases r;rfl
  | int _=>obtain ⟨t,rfl⟩:=r;rfl
  | str _=>obtain ⟨t,rfl⟩:=r;rfl
  | byt _=>obtain ⟨t,rfl⟩:=r;rfl
  | flt _=>obtain ⟨t,rfl⟩:=r;rfl
  | ref _=>cases r;rfl
  | ty _=>cases r;rfl
theorem RelV.inj {x y:V} {u:Value} (r:RelV x u) (q:RelV y u):x=y:=Option.some.inj (r.abs.symm.trans q.abs)
theorem Vals.inj:∀ {xs ys:List V} {us:List Value},Vals xs us→Vals ys us→xs=ys
  | _,_,_, .nil, .nil=>rfl
  | _,_,_, .cons r t, .cons r' t'=>by rw [r.inj r',Vals.inj t t']
section
variable {X:Cx} {pins:List (Addr×Obj)} {σ:St} {H:Hp} {s:Shared} {a:Addr} {xs ys:List V}
theorem SqL.of {K:W.Frag} (h:H a=some (.lst xs)):SqL K H a xs:=.inl (.inl h)
theorem SqT.of {K:W.Frag} (h:H a=some (.tup xs)):SqT K H a xs:=.inl (.inl h)
theorem Inv.list (I:Inv X pins σ H s) (h:SqL X.K H a xs):∃ its:List Value,Vals xs its∧PlainL s.heap a its.toArray∧xs.length≤sizeLine:=by
  rcases h with h | ⟨o,its,n,hk,hc,hd,hs,hz,r⟩
  · obtain ⟨z,its,n,r,e⟩:=h.ok I.hok
    exact ⟨its,r,⟨_,n,e,rfl,rfl,rfl⟩,z⟩
  · refine ⟨its.toList,r,⟨o,n,I.kIn a o hk,hc,hd,by simpa using hs⟩,?_⟩
    have e:=r.length
    simp only [Array.length_toList] at e
    omega
theorem Inv.tuple (I:Inv X pins σ H s) (h:SqT X.K H a xs):∃ its:List Value,Vals xs its∧IsTup s.heap a its.toArray∧xs.length≤sizeLine:=by
  rcases h with h | ⟨o,its,n,hk,hc,hs,hz,r⟩
  · obtain ⟨z,its,r,p⟩:=h.ok I.hok
    exact ⟨its,r,p,z⟩
  · refine ⟨its.toList,r,⟨o,I.kIn a o hk,hc,n,by simpa using hs⟩,?_⟩
    have e:=r.length
    simp only [Array.length_toList] at e
    omega
theorem Inv.list_inj (I:Inv X pins σ H s) (h:SqL X.K H a xs) (h':SqL X.K H a ys):xs=ys:=by
  obtain ⟨its,r,⟨o,n,e,_,_,d⟩,_⟩:=I.list h
  obtain ⟨its',r',⟨o',n',e',_,_,d'⟩,_⟩:=I.list h'
  rw [e] at e';cases e'
  rw [d] at d'
  injection d' with d1 _
  have:its=its':=by simpa using congrArg Array.toList d1
  subst this
  exact r.inj r'
theorem Inv.tuple_inj (I:Inv X pins σ H s) (h:SqT X.K H a xs) (h':SqT X.K H a ys):xs=ys:=by
  obtain ⟨its,r,⟨o,e,_,n,d⟩,_⟩:=I.tuple h
  obtain ⟨its',r',⟨o',e',_,n',d'⟩,_⟩:=I.tuple h'
  rw [e] at e';cases e'
  rw [d] at d'
  injection d' with d1 _
  have:its=its':=by simpa using congrArg Array.toList d1
  subst this
  exact r.inj r'
end
abbrev Cx.wish (X:Cx) (E:Value→Shared→Prop):Cx:={ X with xe:=E }
abbrev Cx.nox (X:Cx):Cx:=X.wish fun _ _=>False
theorem Cx.Ok.wish {X:Cx} (ok:X.Ok) (E:Value→Shared→Prop):(X.wish E).Ok:=
  ⟨ok.mod,ok.kind,ok.glob,ok.blt,ok.above,ok.inj,ok.has,ok.cab,ok.hd,ok.frames,ok.stk,ok.exf,ok.bs,ok.bsz,ok.noex,ok.exfs,ok.funs,ok.frf⟩
theorem Cx.Ok.unwish {X:Cx} {E:Value→Shared→Prop} (ok:(X.wish E).Ok):X.Ok:=
  ⟨ok.mod,ok.kind,ok.glob,ok.blt,ok.above,ok.inj,ok.has,ok.cab,ok.hd,ok.frames,ok.stk,ok.exf,ok.bs,ok.bsz,ok.noex,ok.exfs,ok.funs,ok.frf⟩
section
variable {X:Cx} {pins:List (Addr×Obj)} {σ:St} {H:Hp} {s:Shared} {E:Value→Shared→Prop}
theorem Inv.wish (I:Inv X pins σ H s) (E:Value→Shared→Prop):Inv (X.wish E) pins σ H s:=⟨I.ok.wish E,I.os,I.bare,I.base,I.loc,I.cell,I.free,I.freeC,I.pin,I.hok,I.len⟩
theorem Inv.unwish (I:Inv (X.wish E) pins σ H s):Inv X pins σ H s:=⟨I.ok.unwish,I.os,I.bare,I.base,I.loc,I.cell,I.free,I.freeC,I.pin,I.hok,I.len⟩
theorem SP.unwish {D:Ends} {f:Flow} {s':Shared} (h:SP (X.wish E) pins D f s'):SP X pins D f s':=by
  cases f with
  | next=>obtain ⟨σ',H',I,q⟩:=h;exact ⟨σ',H',I.unwish,q⟩
  | brk=>obtain ⟨σ',H',I,q⟩:=h;exact ⟨σ',H',I.unwish,q⟩
  | cont=>obtain ⟨σ',H',I,q⟩:=h;exact ⟨σ',H',I.unwish,q⟩
  | ret u=>obtain ⟨v,σ',H',I,r,q⟩:=h;exact ⟨v,σ',H',I.unwish,r,q⟩
theorem PSs.nox {st:List Stmt} {t:TS} (h:PSs X.nox st t):PSs X st t:=fun pins s σ H D I hw=>
  wpAny_mono (h pins s σ H D (I.wish _) hw) (fun _ _ q=>q.unwish) fun _ _ z=>False.elim z
end
section
variable {X:Cx} {st:Stmt} {rest:List Stmt} {t u:TS} {e:Expr} {te:TE} {pos:Pos}
def zpj:TS:=fun D σ H=>D.nx σ H
def tSeq (t u:TS):TS:=fun D σ H=>t { D with nx:=u D } σ H
theorem zaq:PSs X [] zpj:=fun _ _ σ H _ I h=>wpAny_execs_nil ⟨σ,H,I,h⟩
theorem zab (h1:PS X st t) (h2:PSs X rest u):PSs X (st :: rest) (tSeq t u):=by
  intro pins s σ H D I h
  refine wpAny_execs_cons (thn (h1 pins s σ H { D with nx:=u D } I h) fun f s1 q=>?_)
  cases f with
  | next=>
    obtain ⟨σ',H',I',q⟩:=q
    exact h2 pins s1 σ' H' D I' q
  | ret v=>exact q
  | brk=>exact q
  | cont=>exact q
theorem zac (h1:PS X st t):PSs X [st] t:=by
  intro pins s σ H D I h
  refine wpAny_execs_cons (thn (h1 pins s σ H D I h) fun f s1 q=>?_)
  cases f with
  | next=>exact wpAny_execs_nil q
  | ret v=>exact q
  | brk=>exact q
  | cont=>exact q
theorem Inv.quiet {pins:List (Addr×Obj)} {σ:St} {H:Hp} {s:Shared} (I:Inv X pins σ H s):interactive X.env=false:=by simp [interactive,I.ok.kind]
def znq (te:TE):TS:=fun D σ H=>te σ H fun _ H1=>D.nx σ H1
theorem zal (he:PE X e te) (hs:swapsWith e none pos.line X.env=pure false:=by rfl):PS X (.Expr e pos) (znq te):=by
  intro pins s σ H D I h
  exact wpAny_Expr_any (thn (he pins s σ H _ I h) fun v s1 ⟨x,H1,I1,r1,q1⟩=>⟨σ,H1,I1,q1⟩) I.quiet hs
def tRet (te:TE):TS:=fun D σ H=>te σ H D.rt
theorem zar (he:PE X e te):PS X (.Return (some e) pos) (tRet te):=by
  intro pins s σ H D I h
  exact wpAny_Return_some (thn (he pins s σ H _ I h) fun v s1 ⟨x,H1,I1,r1,q1⟩=>⟨x,σ,H1,I1,r1,q1⟩)
def zDk:TS:=fun D _ H=>D.rt .non H
theorem zm4:PS X (.Return none pos) zDk:=fun _ _ σ H _ I h=>wpAny_Return_none ⟨.non,σ,H,I,rfl,h⟩
def tIfS (c:TT) (t u:TS):TS:=fun D σ H=>c σ H fun b H1=>if b=true then t D σ H1 else u D σ H1
theorem za5 {c:Expr} {a b:List Stmt} {tc:TT} (hc:PT X c tc) (ha:PSs X a t) (hb:PSs X b u):PS X (.If c a b pos) (tIfS tc t u):=by
  intro pins s σ H D I h
  refine wpAny_If (thn (hc pins s σ H _ I h) fun d s1 ⟨H1,I1,q1⟩=>?_)
  cases d with
  | true=>exact ha pins s1 σ H1 D I1 q1
  | false=>exact hb pins s1 σ H1 D I1 q1
end
abbrev TG:=V→St→Hp→(St→Hp→Prop)→Prop
def PG (X:Cx) (target:Expr) (t:TG):Prop:=
  ∀ (pins:List (Addr×Obj)) (s:Shared) (σ:St) (H:Hp) (v:V) (u:Value) (Q:St→Hp→Prop),Inv X pins σ H s→RelV v u→t v σ H Q→
    wpAny (model X.prog X.w) X.A (assign target X.env u) (fun _ s'=>∃ σ' H',Inv X pins σ' H' s'∧Q σ' H') X.xe s
abbrev TIp:=V→V→Hp→VK→Prop
def PIp (X:Cx) (op:Operator) (t:TIp):Prop:=
  ∀ (pins:List (Addr×Obj)) (s:Shared) (σ:St) (H:Hp) (x y:V) (v u:Value) (Q:VK),Inv X pins σ H s→RelV x v→RelV y u→t x y H Q→
    wpAny (model X.prog X.w) X.A (inplaceOp op v u) (EP X pins σ Q) X.xe s
section
variable {X:Cx} {pos:Pos}
def zke (i:Nat):TG:=fun v σ H Q=>Q (σ.set i (some v)) H
theorem zbp {i:Nat} {x:Str} (hN:X.N.Nodup) (hi:X.N[i]? = some x) (hx:Loc X.env.scope x) (hf:X.fn x=true∨X.env.scope.names.lookup x=some .local:=by first | exact .inl rfl | exact .inr rfl | assumption):PG X (.Name x pos) (zke i):=by
  intro pins s σ H v u Q I r h
  exact wpAny_assign_Name (znp I hN hi hx r (fun s' I'=>⟨_,H,I',h⟩) hf)
def tAsg (te:TE) (g:TG):TS:=fun D σ H=>te σ H fun x H1=>g x σ H1 D.nx
theorem zax {i:Nat} {x:Str} {e:Expr} {te:TE} {pos':Pos} (hN:X.N.Nodup) (hi:X.N[i]? = some x) (hx:Loc X.env.scope x) (he:PE X e te) (hs:swapsWith e (some (.Name x pos')) pos.line X.env=pure false:=by rfl) (hf:X.fn x=true∨X.env.scope.names.lookup x=some .local:=by first | exact .inl rfl | exact .inr rfl | assumption) :
    PS X (.Assign [.Name x pos'] e pos) (tAsg te (zke i)):=by
  intro pins s σ H D I h
  refine wpAny_Assign_Name (thn (he pins s σ H _ I h) fun v s1 ⟨y,H1,I1,r1,q1⟩=>?_) hs
  exact znp I1 hN hi hx r1 (fun s2 I2=>⟨_,H1,I2,q1⟩) hf
def tAug (i:Nat) (te:TE) (ti:TIp):TS:=fun D σ H=>∃ x,σ[i]? = some (some x)∧te σ H fun y H1=>ti x y H1 fun z H2=>D.nx (σ.set i (some z)) H2
theorem zsd {i:Nat} {x:Str} {e:Expr} {te:TE} {op:Operator} {ti:TIp} {pos':Pos} (hN:X.N.Nodup) (hi:X.N[i]? = some x) (hx:Loc X.env.scope x) (he:PE X e te) (ho:PIp X op ti) (hf:X.fn x=true∨X.env.scope.names.lookup x=some .local:=by first | exact .inl rfl | exact .inr rfl | assumption) :
    PS X (.AugAssign (.Name x pos') op e pos) (tAug i te ti):=by
  intro pins s σ H D I h
  obtain ⟨v,e1,h⟩:=h
  obtain ⟨m,hn,hl⟩:=I.loc
  have vis:Vis X.env.scope x:=by rcases hx with k | k;exact .inl k;exact .inr (.inl k)
  obtain ⟨u,r,l⟩:=hl i x v hi e1 vis
  refine wpAny_AugAssign_Name ?_
  have go:wpAny (model X.prog X.w) X.A (eval e X.env) (fun w s₂=>wpAny (model X.prog X.w) X.A (inplaceOp op u w) (fun r s₃=>wpAny (model X.prog X.w) X.A (storeName X.env x r) (fun _=>SP X pins D .next) X.xe s₃) X.xe s₂) X.xe s:=by
    refine thn (he pins s σ H _ I h) fun w s1 ⟨y,H1,I1,r1,q1⟩=>?_
    refine thn (ho pins s1 σ H1 v y u w _ I1 r r1 q1) fun z s2 ⟨zv,H2,I2,r2,q2⟩=>?_
    exact znp I2 hN hi hx r2 (fun s3 I3=>⟨_,H2,I3,q2⟩) hf
  rcases l with ⟨hk,hm⟩ | ⟨hk,c,hc,hcell⟩
  · exact wpAny_loadName_local I.ok.kind hk hn hm go
  · rcases hk with hk | hk
    · exact wpAny_loadName_cell I.ok.kind hk hc hcell go
    · rcases hx with k | k
      · have:X.env.scope.names.lookup x=some .free:=hk
        rw [k] at this;cases this
      · have:X.env.scope.names.lookup x=some .free:=hk
        rw [k] at this;cases this
def ipI (f:Int→Int→Int):TIp:=fun x y H Q=>E2 fun i j=>A3 (x = .int i) (y = .int j) (Q (.int (f i j)) H)
theorem zrs:PIp X .Add (ipI fun i j=>i+j):=by
  intro pins s σ H x y v u Q I r1 r2 h
  obtain ⟨i,j,e1,e2,q⟩:=h
  subst e1;subst e2
  obtain ⟨t,rfl⟩:=r1
  obtain ⟨t',rfl⟩:=r2
  exact iadd_int ⟨.int _,H,I.tok _,⟨_,rfl⟩,q⟩
end
section
variable {X:Cx} {pos:Pos}
def zDm (c:TT) (tb:TS):TS:=fun D σ H=>∃ W:Nat→St→Hp→Prop,(∃ m,W m σ H)∧∀ m σ H,W m σ H→
  c σ H fun b H1=>if b=true then ∃ N:St→Hp→Prop,(∀ σ' H',N σ' H'→∃ m',m'<m∧W m' σ' H')∧tb { D with nx:=N,ct:=N,bk:=D.nx } σ H1 else D.nx σ H1
theorem zhx {c:Expr} {body:List Stmt} {tc:TT} {tb:TS} (hp:PassesOwn (model X.prog X.w) X.A X.env X.xe) (hc:PT X c tc) (hb:PSs X body tb):PS X (.While c body [] pos) (zDm tc tb):=by
  intro pins s σ H D I h
  obtain ⟨W,⟨m0,w0⟩,turn⟩:=h
  refine wpAny_While (codeAny_whileLoop (fun n s'=>∃ σ' H',Inv X pins σ' H' s'∧W n σ' H') ?_ m0 ⟨σ,H,I,w0⟩)
  rintro n s1 ⟨σ1,H1,I1,w1⟩
  refine wpAny_passesOwn hp (thn (hc pins s1 σ1 H1 _ I1 (turn n σ1 H1 w1)) fun b s2 ⟨H2,I2,q2⟩=>?_)
  cases b with
  | true=>
    obtain ⟨N,hN,q2⟩:=q2
    rw [if_pos rfl]
    refine wpAny_passesOwn hp (thn (hb pins s2 σ1 H2 _ I2 q2) fun f s3 q3=>?_)
    cases f with
    | next=>
      obtain ⟨σ3,H3,I3,n3⟩:=q3
      obtain ⟨m',hm,w3⟩:=hN σ3 H3 n3
      exact ⟨m',hm,σ3,H3,I3,w3⟩
    | cont=>
      obtain ⟨σ3,H3,I3,n3⟩:=q3
      obtain ⟨m',hm,w3⟩:=hN σ3 H3 n3
      exact ⟨m',hm,σ3,H3,I3,w3⟩
    | brk=>exact q3
    | ret v=>exact q3
  | false=>
    rw [if_neg Bool.false_ne_true]
    exact wpAny_execs_nil ⟨σ1,H2,I2,q2⟩
end
structure It where
  go:Nat→Hp→Prop
  yld:Nat→Hp→V→Hp→Prop
  stop:Nat→Hp→Prop
def FpOk (X:Cx) (pins:List (Addr×Obj)) (H:Hp) (b:Addr):Prop:=
  H b=none∧b≠X.env.locals∧b∉X.fs∧(b∈X.ex∨X.s_0.heap.objs.size≤b)∧(∀ x c,X.env.cells.lookup x=some c→c≠b)∧∀ p∈X.pn++pins,p.1≠b
theorem Inv.fpOk {X:Cx} {pins:List (Addr×Obj)} {σ:St} {H H':Hp} {s:Shared} {b:Addr} (I:Inv X pins σ H s) (hb:s.heap.objs.size≤b) (hn:H' b=none):FpOk X pins H' b:=by
  refine ⟨hn,Nat.ne_of_gt (Nat.lt_of_lt_of_le I.lt hb),I.nofs hb, .inr (Nat.le_trans I.sz hb),fun x c e z=>?_,fun p hp z=>?_⟩
  · obtain ⟨v,q⟩:=I.cell x c e
    exact absurd (Nat.lt_of_lt_of_le q.lt (by rw [z];exact hb)) (Nat.lt_irrefl _)
  · exact absurd (Nat.lt_of_lt_of_le (Heap.lt_size (I.pin p hp).1) (by rw [z];exact hb)) (Nat.lt_irrefl _)
structure Turn (P:Program) (w:World) (K:W.Frag) (tg:Expr) (J:It) (fp:List Addr) (it:Addr) (tn:Nat→Heap→Prop):Prop where
  mem:it∈fp
  obj:∀ i h,tn i h→∀ b∈fp,∃ o,h.get? b=some o∧∀ v,o.data≠.cell v
  keep:∀ i h h',tn i h→(∀ b∈fp,∀ o,h.get? b=some o→h'.get? b=some o)→tn i h'
  item:∀ (X:Cx),X.prog=P→X.w=w→X.K=K→X.calm=true→∀ (i:Nat) (pins:List (Addr×Obj)) (s:Shared) (σ:St) (H:Hp) (E:Value→Shared→Prop),Inv X pins σ H s→(∀ b∈fp,FpOk X pins H b)→tn i s.heap→J.go i H→
    wpAny (model P w) X.A (pyNext (.ref it)) (fun r s1=>∃ u,r=some u∧
      wpAny (model P w) X.A (letOwnedTupleGo tg (.ref it) u) (fun _ s2=>∃ x H',Inv X pins σ H' s2∧RelV x u∧J.yld i H x H'∧tn (i+1) s2.heap∧∀ b∈fp,H' b=none) E s1) E s
  done:∀ (X:Cx),X.prog=P→X.w=w→X.K=K→X.calm=true→∀ (i:Nat) (pins:List (Addr×Obj)) (s:Shared) (σ:St) (H:Hp) (E:Value→Shared→Prop),Inv X pins σ H s→(∀ b∈fp,FpOk X pins H b)→tn i s.heap→J.stop i H→
    wpAny (model P w) X.A (pyNext (.ref it)) (fun r s1=>r=none∧Inv X pins σ H s1) E s
  self:∀ (A:Around) (i:Nat) (s:Shared) (Q:Value→Shared→Prop) (E:Value→Shared→Prop),tn i s.heap→Q (.ref it) s→wpAny (model P w) A (pyIter (.ref it)) Q E s
abbrev TI:=St→Hp→(It→Hp→Prop)→Prop
def PIE (X:Cx) (pins:List (Addr×Obj)) (σ:St) (tg:Expr) (R:It→Hp→Prop) (itv:Value) (s2:Shared):Prop:=
  ∃ (it:Addr) (fp:List Addr) (tn:Nat→Heap→Prop) (J:It) (H':Hp),itv = .ref it∧Inv X pins σ H' s2∧Turn X.prog X.w X.K tg J fp it tn∧tn 0 s2.heap∧(∀ b∈fp,FpOk X pins H' b)∧R J H'
def PI (X:Cx) (tg iter:Expr) (wi:TI):Prop:=
  ∀ (pins:List (Addr×Obj)) (s:Shared) (σ:St) (H:Hp) (R:It→Hp→Prop),Inv X pins σ H s→wi σ H R→
    wpAny (model X.prog X.w) X.A (eval iter X.env) (fun v s1=>wpAny (model X.prog X.w) X.A (pyIter v) (PIE X pins σ tg R) X.xe s1) X.xe s
theorem zp5 {M:Model} {A:Around} {E:Value→Shared→Prop} {s:Shared} {tg:Expr} {it:Addr} {u:Value} {o:Obj} {n:String} {vs:Array Value} {Q:Unit→Shared→Prop} (ho:s.heap.get? it=some o) (hc:o.cls = .type n) (hd:o.data = .fields vs)
    (hn:["enumerate","zip","dict_itemiterator","dict_reverseitemiterator","odict_iterator","itertools.zip_longest","itertools.pairwise"].contains n=false) (hQ:Q () s):wpAny M A (letOwnedTupleGo tg (.ref it) u) Q E s:=by
  unfold letOwnedTupleGo
  cases tg<;>first
    | exact wpAny_pure hQ
    | (cases u<;>first
        | exact wpAny_pure hQ
        | (refine wpAny_bind (wpAny_load ho ?_)
           rw [hc,hd]
           show wpAny M A (if (["enumerate","zip","dict_itemiterator","dict_reverseitemiterator","odict_iterator","itertools.zip_longest","itertools.pairwise"].contains n&&vs[0]? == some (rawInt _))=true then _ else _) Q E s
           rw [if_neg (by intro h;rw [hn,Bool.false_and] at h;cases h)]
           exact wpAny_pure hQ))
def Itl (K:W.Frag) (a:Addr):It:=
  ⟨fun i H=>∃ xs x,SqL K H a xs∧xs[i]? = some x,fun i H x H'=>H'=H∧∀ xs,SqL K H a xs→xs[i]? = some x,fun i H=>∃ xs,SqL K H a xs∧xs.length≤i⟩
def Itt (K:W.Frag) (a:Addr):It:=
  ⟨fun i H=>∃ xs x,SqT K H a xs∧xs[i]? = some x,fun i H x H'=>H'=H∧∀ xs,SqT K H a xs→xs[i]? = some x,fun i H=>∃ xs,SqT K H a xs∧xs.length≤i⟩
def Itr (lo:Int) (n:Nat):It:=⟨fun i _=>i<n,fun i H x H'=>H'=H∧x = .int (lo+i),fun i _=>n≤i⟩
theorem zwq {P:Program} {w:World} {K:W.Frag} {tg:Expr} (a it:Addr):Turn P w K tg (Itl K a) [it] it (fun i h=>h.IsListIter it a i) where
  mem:=by simp
  obj:=fun i h st b hb=>by
    have e:b=it:=by simpa using hb
    subst e
    obtain ⟨o,e,c,d⟩:=st
    exact ⟨o,e,fun v z=>by rw [d] at z;cases z⟩
  keep:=fun i h h' st k=>st.at fun o e=>k it (by simp) o e
  item:=by
    intro X hP hw hK hc i pins s σ H E I hf st hg
    subst hP hw hK
    obtain ⟨xs,x,hq,hx⟩:=hg
    obtain ⟨its,rv,p,hz⟩:=I.list hq
    obtain ⟨u,hu,ru⟩:=rv.get hx
    obtain ⟨f0,f1,f2,f3,f4,f5⟩:=hf it (by simp)
    refine wpAny_pyNext_list_item st p.isList (x:=u) (by simpa using hu) fun h' st' sb=>?_
    have I1:Inv X pins σ H { s with heap:=h' }:=I.turned (t':=s.toks) (fun b o hb e=>(sb.2 b hb).trans e) f0 f1 f3 f4 f5
    obtain ⟨o,e,c,d⟩:=id st'
    exact ⟨u,rfl,zp5 (s:={ s with heap:=h' }) e c d (by decide) ⟨x,H,I1,ru,⟨rfl,fun ys hy=>by rw [I.list_inj hy hq];exact hx⟩,st',fun b hb=>(hf b hb).1⟩⟩
  done:=by
    intro X hP hw hK hc i pins s σ H E I hf st hg
    subst hP hw hK
    obtain ⟨xs,hq,hx⟩:=hg
    obtain ⟨its,rv,p,hz⟩:=I.list hq
    obtain ⟨f0,f1,f2,f3,f4,f5⟩:=hf it (by simp)
    have hl:=rv.length
    exact wpAny_pyNext_list_end (I.ok.hd hc) st p.isList (by simp;omega) fun h' eb=>⟨rfl,I.turned (t':=s.toks) (fun b o hb e=>eb b o hb e) f0 f1 f3 f4 f5⟩
  self:=fun _ _ _ _ _ st h=>wpAny_pyIter_listiter st h
theorem ztp {P:Program} {w:World} {K:W.Frag} {tg:Expr} (a it:Addr):Turn P w K tg (Itt K a) [it] it (fun i h=>h.IsTupleIter it a i) where
  mem:=by simp
  obj:=fun i h st b hb=>by
    have e:b=it:=by simpa using hb
    subst e
    obtain ⟨o,e,c,d⟩:=st
    exact ⟨o,e,fun v z=>by rw [d] at z;cases z⟩
  keep:=fun i h h' st k=>st.at fun o e=>k it (by simp) o e
  item:=by
    intro X hP hw hK hc i pins s σ H E I hf st hg
    subst hP hw hK
    obtain ⟨xs,x,hq,hx⟩:=hg
    obtain ⟨its,rv,p,hz⟩:=I.tuple hq
    obtain ⟨u,hu,ru⟩:=rv.get hx
    obtain ⟨f0,f1,f2,f3,f4,f5⟩:=hf it (by simp)
    refine wpAny_pyNext_tuple_item st (show s.heap.IsTuple a its.toArray from p) (x:=u) (by simpa using hu) fun h' st' sb=>?_
    have I1:Inv X pins σ H { s with heap:=h' }:=I.turned (t':=s.toks) (fun b o hb e=>(sb.2 b hb).trans e) f0 f1 f3 f4 f5
    obtain ⟨o,e,c,d⟩:=id st'
    exact ⟨u,rfl,zp5 (s:={ s with heap:=h' }) e c d (by decide) ⟨x,H,I1,ru,⟨rfl,fun ys hy=>by rw [I.tuple_inj hy hq];exact hx⟩,st',fun b hb=>(hf b hb).1⟩⟩
  done:=by
    intro X hP hw hK hc i pins s σ H E I hf st hg
    subst hP hw hK
    obtain ⟨xs,hq,hx⟩:=hg
    obtain ⟨its,rv,p,hz⟩:=I.tuple hq
    obtain ⟨f0,f1,f2,f3,f4,f5⟩:=hf it (by simp)
    have hl:=rv.length
    exact wpAny_pyNext_tuple_end (I.ok.hd hc) st (show s.heap.IsTuple a its.toArray from p) (by simp;omega) fun h' eb=>⟨rfl,I.turned (t':=s.toks) (fun b o hb e=>eb b o hb e) f0 f1 f3 f4 f5⟩
  self:=fun _ _ _ _ _ st h=>wpAny_pyIter_tupleiter st h
theorem zto {P:Program} {w:World} {K:W.Frag} {tg:Expr} (it:Addr) (lo:Int) (n:Nat):Turn P w K tg (Itr lo n) [it] it (fun i h=>IsRangeIter h it (lo+(i:Nat)*1) ((n:Int)-(i:Nat)) 1) where
  mem:=by simp
  obj:=fun i h st b hb=>by
    have e:b=it:=by simpa using hb
    subst e
    exact ⟨_,st,fun v z=>by
      have z':Data.fields _=Data.cell v:=z
      cases z'⟩
  keep:=fun i h h' st k=>k it (by simp) _ st
  item:=by
    intro X hP hw hK hc i pins s σ H E I hf st hg
    subst hP hw hK
    obtain ⟨f0,f1,f2,f3,f4,f5⟩:=hf it (by simp)
    have W:=Walks.range (prog:=X.prog) (w:=X.w) (I.ok.hd hc) it lo 1 n
    refine W.item i s _ _ hg st fun v h' tk hv st' kk=>?_
    obtain ⟨t,rfl⟩:=hv
    have I1:Inv X pins σ H { s with heap:=h',toks:=tk }:=I.turned (fun b o hb e=>kk b o (by simpa using hb) e) f0 f1 f3 f4 f5
    refine ⟨_,rfl,zp5 (s:={ s with heap:=h',toks:=tk }) (n:="range_iterator") st' rfl rfl (by decide) ⟨.int (lo+i),H,I1,⟨t,?_⟩,⟨rfl,rfl⟩,st',fun b hb=>(hf b hb).1⟩⟩
    rw [Int.mul_one]
  done:=by
    intro X hP hw hK hc i pins s σ H E I hf st hg
    subst hP hw hK
    obtain ⟨f0,f1,f2,f3,f4,f5⟩:=hf it (by simp)
    exact wpAny_pyNext_range_end (I.ok.hd hc) st (by have:n≤i:=hg;omega) fun h' eb=>⟨rfl,I.turned (t':=s.toks) (fun b o hb e=>eb b o hb e) f0 f1 f3 f4 f5⟩
  self:=fun _ _ _ _ _ st h=>wpAny_pyIter_rangeiter st h
end L2
namespace L2
open PySem PySem.Spec PyProof.Rows
section
variable {X:Cx} {tg:Expr}
def zDu (K:W.Frag) (tl:TE):TI:=fun σ H R=>tl σ H fun x H1=>∃ a,A3 (x = .ref a) ((∃ xs,SqL K H1 a xs)) (R (Itl K a) H1)
def iTup (K:W.Frag) (tl:TE):TI:=fun σ H R=>tl σ H fun x H1=>∃ a,A3 (x = .ref a) ((∃ xs,SqT K H1 a xs)) (R (Itt K a) H1)
theorem zkm {l:Expr} {tl:TE} (hl:PE X l tl):PI X tg l (zDu X.K tl):=by
  intro pins s σ H R I h
  refine thn (hl pins s σ H _ I h) fun v s1 ⟨x,H1,I1,r1,q1⟩=>?_
  obtain ⟨a,e,⟨xs,hq⟩,q⟩:=q1
  subst e
  cases r1
  obtain ⟨its,rv,p,hz⟩:=I1.list hq
  refine wpAny_pyIter_list p.isList ?_
  refine ⟨s1.heap.objs.size,[s1.heap.objs.size],_,_,H1,rfl,I1.kept (t':=s1.toks) fun b o e=>Heap.get?_push_of_some _ e,zwq a _,⟨_,Heap.get?_push_size _ rfl,rfl,rfl⟩,fun b hb=>?_,q⟩
  have e:b=s1.heap.objs.size:=by simpa using hb
  subst e
  exact I1.fpOk (Nat.le_refl _) (I1.hok.fresh (Nat.le_refl _))
theorem zsb {l:Expr} {tl:TE} (hl:PE X l tl):PI X tg l (iTup X.K tl):=by
  intro pins s σ H R I h
  refine thn (hl pins s σ H _ I h) fun v s1 ⟨x,H1,I1,r1,q1⟩=>?_
  obtain ⟨a,e,⟨xs,hq⟩,q⟩:=q1
  subst e
  cases r1
  obtain ⟨its,rv,p,hz⟩:=I1.tuple hq
  refine wpAny_pyIter_tuple (show s1.heap.IsTuple a its.toArray from p) ?_
  refine ⟨s1.heap.objs.size,[s1.heap.objs.size],_,_,H1,rfl,I1.kept (t':=s1.toks) fun b o e=>Heap.get?_push_of_some _ e,ztp a _,⟨_,Heap.get?_push_size _ rfl,rfl,rfl⟩,fun b hb=>?_,q⟩
  have e:b=s1.heap.objs.size:=by simpa using hb
  subst e
  exact I1.fpOk (Nat.le_refl _) (I1.hok.fresh (Nat.le_refl _))
theorem zse {pins:List (Addr×Obj)} {σ:St} {H:Hp} {s:Shared} {R:It→Hp→Prop} {E:Value→Shared→Prop} {lo hi:Int} {t u v:Tok} {tk:Nat} (I:Inv X pins σ H s) (h1 : -(2 ^ 62)≤lo) (h2:lo<2 ^ 62) (h3 : -(2 ^ 62)≤hi) (h4:hi<2 ^ 62)
    (q:R (Itr lo (hi-lo).toNat) H):wpAny (model X.prog X.w) X.A (pyIter (.ref s.heap.objs.size)) (PIE X pins σ tg R) E { s with heap:=s.heap.push { cls:=.type "range",data:=.fields #[.int lo t, .int hi u, .int 1 v] },toks:=tk }:=by
  refine wpAny_pyIter_range (IsRange.new ..) (small_one h1 h2 h3 h4) ?_
  have I1:Inv X pins σ H { s with heap:=s.heap.push { cls:=.type "range",data:=.fields #[.int lo t, .int hi u, .int 1 v] },toks:=tk }:=I.kept fun b o e=>Heap.get?_push_of_some _ e
  refine ⟨(s.heap.push { cls:=.type "range",data:=.fields #[.int lo t, .int hi u, .int 1 v] }).objs.size,[(s.heap.push { cls:=.type "range",data:=.fields #[.int lo t, .int hi u, .int 1 v] }).objs.size],_,_,H,rfl,
    I1.kept (t':=tk) fun b o e=>Heap.get?_push_of_some _ e,zto _ lo (hi-lo).toNat,?_,fun b hb=>?_,q⟩
  · have e1:lo+((0:Nat):Int)*1=lo:=by simp
    have e2:(((hi-lo).toNat:Nat):Int)-((0:Nat):Int)=Builtin.Range.rangeSize lo hi 1:=by rw [rangeSize_one];split<;>omega
    show IsRangeIter _ _ (lo+((0:Nat):Int)*1) ((((hi-lo).toNat:Nat):Int)-((0:Nat):Int)) 1
    rw [e1,e2]
    exact Heap.get?_push_size _ rfl
  · have e:b=(s.heap.push { cls:=.type "range",data:=.fields #[.int lo t, .int hi u, .int 1 v] }).objs.size:=by simpa using hb
    subst e
    exact I1.fpOk (Nat.le_refl _) (I1.hok.fresh (Nat.le_refl _))
def zDv (ta:TA):TI:=fun σ H R=>ta σ H fun vs H1=>∃ (j:Int),A4 (vs=[.int j]) (-(2 ^ 62)≤j) (j<2 ^ 62) (R (Itr 0 j.toNat) H1)
def zDw (ta:TA):TI:=fun σ H R=>ta σ H fun vs H1=>E2 fun (i:Int) (j:Int)=>A3 (vs=[.int i, .int j]) ((-(2 ^ 62)≤i∧i<2 ^ 62∧-(2 ^ 62)≤j∧j<2 ^ 62)) (R (Itr i (j-i).toNat) H1)
theorem zvp {a:Expr} {ta:TA} {p pos:Pos} (hg:Gl X "range") (hm:X.mg "range"=none) (ha:PA X [a] ta) (hs:starEach [a] X.env=[(false,eval a X.env)]:=by rfl):PI X tg (.Call (.Name "range" p) [a] [] pos) (zDv ta):=by
  intro pins s σ H R I h
  refine Call_ (zkf I hg hm boot_range (PyProof.Rows.callWith_type1 (thn (ha pos pins s σ H _ I h) fun us s1 ⟨vs,H1,I1,r1,q1⟩=>?_) hs rfl))
  obtain ⟨j,e,q1,q2,q⟩:=q1
  subst e
  cases r1 with
  | cons r rr=>
    cases rr
    obtain ⟨t,rfl⟩:=r
    exact call_range_1 (zse I1 (by omega) (by omega) q1 q2 (by simpa using q))
theorem zvq {a b:Expr} {ta:TA} {p pos:Pos} (hg:Gl X "range") (hm:X.mg "range"=none) (ha:PA X [a,b] ta) (hs:starEach [a,b] X.env=[(false,eval a X.env),(false,eval b X.env)]:=by rfl) (hs2:starEach [b] X.env=[(false,eval b X.env)]:=by rfl) :
    PI X tg (.Call (.Name "range" p) [a,b] [] pos) (zDw ta):=by
  intro pins s σ H R I h
  refine Call_ (zkf I hg hm boot_range (PyProof.Rows.callWith_type1 (thn (ha pos pins s σ H _ I h) fun us s1 ⟨vs,H1,I1,r1,q1⟩=>?_) (by rw [hs,hs2]) (by rw [hs2];rfl)))
  obtain ⟨i,j,e,⟨q1,q2,q3,q4⟩,q⟩:=q1
  subst e
  cases r1 with
  | cons r rr=>
    cases rr with
    | cons r' rr=>
      cases rr
      obtain ⟨t,rfl⟩:=r
      obtain ⟨t',rfl⟩:=r'
      exact call_range_2 (zse I1 q1 q2 q3 q4 q)
def tFor (wi:TI) (g:TG) (tb:TS):TS:=fun D σ H=>wi σ H fun J H1=>∃ W:Nat→Nat→St→Hp→Prop,(∃ m,W 0 m σ H1)∧∀ i m σ H,W i m σ H→
  (J.stop i H∧D.nx σ H)∨(J.go i H∧∃ N:St→Hp→Prop,(∀ σ' H',N σ' H'→∃ m',m'<m∧W (i+1) m' σ' H')∧∀ x H',J.yld i H x H'→g x σ H' fun σ2 H2=>tb { D with nx:=N,ct:=N,bk:=D.nx } σ2 H2)
def zpa (fp:List Addr) (h:Heap):List (Addr×Obj):=fp.filterMap fun b=>(h.get? b).map fun o=>(b,o)
theorem zin {fp:List Addr} {h:Heap} {b:Addr} {o:Obj} (hb:b∈fp) (e:h.get? b=some o):(b,o)∈zpa fp h:=List.mem_filterMap.mpr ⟨b,hb,by rw [e];rfl⟩
theorem zvi {fp:List Addr} {h:Heap} {p:Addr×Obj} (hp:p∈zpa fp h):p.1∈fp∧h.get? p.1=some p.2:=by
  obtain ⟨b,hb,e⟩:=List.mem_filterMap.mp hp
  cases q:h.get? b with
  | none=>rw [q] at e;cases e
  | some o=>
    rw [q] at e
    have e':(b,o)=p:=Option.some.inj e
    subst e'
    exact ⟨hb,q⟩
theorem Inv.pinned {pins:List (Addr×Obj)} {σ:St} {H:Hp} {s:Shared} {fp:List Addr} (I:Inv X pins σ H s) (hf:∀ b∈fp,FpOk X pins H b) (ho:∀ b∈fp,∃ o,s.heap.get? b=some o∧∀ v,o.data≠.cell v):Inv X (pins++zpa fp s.heap) σ H s:=
  I.pins_of fun p hp=>(List.mem_append.mp hp).elim (fun z=>I.pin p (List.mem_append_right _ z)) fun z=>by
    obtain ⟨hb,e⟩:=zvi z
    obtain ⟨f0,f1,f2,_⟩:=hf p.1 hb
    obtain ⟨o,e',d⟩:=ho p.1 hb
    rw [e] at e';cases e'
    exact ⟨e,f0,f1,f2,d⟩
theorem Inv.unpinned {pins pl:List (Addr×Obj)} {σ:St} {H:Hp} {s:Shared} (I:Inv X (pins++pl) σ H s):Inv X pins σ H s:=I.pins_of fun p hp=>I.pin p (List.mem_append_right _ (List.mem_append_left _ hp))
theorem zd3 {iter:Expr} {body:List Stmt} {wi:TI} {g:TG} {tb:TS} {pos:Pos} (hp:PassesOwn (model X.prog X.w) X.A X.env X.xe) (hc:X.calm=true) (hi:PI X tg iter wi) (hg:PG X tg g) (hb:PSs X body tb)
    (hs:∀ x,foldedSetIterable iter X.env x=pure x:=by intro _;rfl):PS X (.For tg iter body [] pos) (tFor wi g tb):=by
  intro pins s σ H D I h
  refine wpAny_For (thn (hi pins s σ H _ I h) fun v s1 h1=>thn h1 fun itv s2 h2=>?_) hs
  obtain ⟨it,fp,tn,J,H2,e,I2,T,st2,f2,W,⟨m0,w0⟩,turn⟩:=h2
  subst e
  have stat:∀ {H':Hp},(∀ b∈fp,H' b=none)→∀ b∈fp,FpOk X pins H' b:=fun hn b hb=>⟨hn b hb,(f2 b hb).2⟩
  refine codeAny_forLoop_any (fun n s'=>∃ i σ' H',Inv X pins σ' H' s'∧tn i s'.heap∧(∀ b∈fp,H' b=none)∧W i n σ' H') ?_ m0 ⟨0,σ,H2,I2,st2,fun b hb=>(f2 b hb).1,w0⟩
  rintro n s3 ⟨i,σ3,H3,I3,st3,fr3,w3⟩
  rcases turn i n σ3 H3 w3 with ⟨stop,qn⟩ | ⟨go,N,hN,step⟩
  · refine wpAny_passesOwn hp (thn (T.done X rfl rfl rfl hc i pins s3 σ3 H3 X.xe I3 (stat fr3) st3 stop) fun r s4 ⟨hr,I4⟩=>?_)
    subst hr
    exact wpAny_execs_nil ⟨σ3,H3,I4,qn⟩
  · refine wpAny_passesOwn hp (thn (T.item X rfl rfl rfl hc i pins s3 σ3 H3 X.xe I3 (stat fr3) st3 go) fun r s4 ⟨u,hr,h4⟩=>?_)
    subst hr
    refine wpAny_passesOwn hp (thn h4 fun _ s5 ⟨x,H5,I5,r5,y5,st5,fr5⟩=>?_)
    have I5':=I5.pinned (stat fr5) (T.obj _ _ st5)
    refine wpAny_passesOwn hp (thn (hg _ s5 σ3 H5 x u _ I5' r5 (step x H5 y5)) fun _ s6 ⟨σ6,H6,I6,q6⟩=>?_)
    refine wpAny_passesOwn hp (thn (hb _ s6 σ6 H6 _ I6 q6) fun f s7 q7=>?_)
    have again:∀ {σ7:St} {H7:Hp},Inv X (pins++zpa fp s5.heap) σ7 H7 s7→N σ7 H7→∃ m,m<n∧∃ i σ' H',Inv X pins σ' H' s7∧tn i s7.heap∧(∀ b∈fp,H' b=none)∧W i m σ' H':=fun {σ7 H7} I7 n7=>by
      obtain ⟨m',hm,w7⟩:=hN σ7 H7 n7
      refine ⟨m',hm,i+1,σ7,H7,I7.unpinned,T.keep _ _ _ st5 fun b hb o e=>(I7.pin (b,o) (List.mem_append_right _ (List.mem_append_right _ (zin hb e)))).1,fun b hb=>?_,w7⟩
      obtain ⟨o,e,d⟩:=T.obj _ _ st5 b hb
      exact (I7.pin (b,o) (List.mem_append_right _ (List.mem_append_right _ (zin hb e)))).2.1
    cases f with
    | next=>obtain ⟨σ7,H7,I7,n7⟩:=q7;exact again I7 n7
    | cont=>obtain ⟨σ7,H7,I7,n7⟩:=q7;exact again I7 n7
    | brk=>obtain ⟨σ7,H7,I7,q7⟩:=q7;exact ⟨σ7,H7,I7.unpinned,q7⟩
    | ret v=>obtain ⟨x7,σ7,H7,I7,r7,q7⟩:=q7;exact ⟨x7,σ7,H7,I7.unpinned,r7,q7⟩
end
theorem zhg {K:W.Frag} {a:Addr} {xs:List V} {g:TG} {tb:TS} {D:Ends} {σ:St} {H:Hp} (Pv:Nat→St→Hp→Prop) (h0:Pv 0 σ H) (hl:∀ i σ H,i≤xs.length→Pv i σ H→SqL K H a xs)
    (hs:∀ i x σ H,xs[i]? = some x→Pv i σ H→g x σ H fun σ2 H2=>tb { D with nx:=Pv (i+1),ct:=Pv (i+1),bk:=D.nx } σ2 H2) (hd:∀ σ H,Pv xs.length σ H→D.nx σ H) :
    ∃ W:Nat→Nat→St→Hp→Prop,(∃ m,W 0 m σ H)∧∀ i m σ H,W i m σ H→
      ((Itl K a).stop i H∧D.nx σ H)∨((Itl K a).go i H∧∃ N:St→Hp→Prop,(∀ σ' H',N σ' H'→∃ m',m'<m∧W (i+1) m' σ' H')∧∀ x H',(Itl K a).yld i H x H'→g x σ H' fun σ2 H2=>tb { D with nx:=N,ct:=N,bk:=D.nx } σ2 H2):=by
  refine ⟨fun i m σ H=>m=xs.length-i∧i≤xs.length∧Pv i σ H,⟨xs.length,by simp,Nat.zero_le _,h0⟩,?_⟩
  rintro i m σ H ⟨rfl,hi,p⟩
  have q:=hl i σ H hi p
  by_cases hlt:i<xs.length
  · refine .inr ⟨⟨xs,xs[i],q,by simp [hlt]⟩,Pv (i+1),fun σ' H' p'=>⟨xs.length-(i+1),by omega,rfl,hlt,p'⟩,fun x H' y=>?_⟩
    obtain ⟨e,y⟩:=y
    subst e
    exact hs i x σ _ (y xs q) p
  · have e:i=xs.length:=by omega
    subst e
    exact .inl ⟨⟨xs,q,Nat.le_refl _⟩,hd σ H p⟩
theorem zz4 {K:W.Frag} {a:Addr} {xs:List V} {g:TG} {tb:TS} {D:Ends} {σ:St} {H:Hp} (Pv:Nat→St→Hp→Prop) (h0:Pv 0 σ H) (hl:∀ i σ H,i≤xs.length→Pv i σ H→SqT K H a xs)
    (hs:∀ i x σ H,xs[i]? = some x→Pv i σ H→g x σ H fun σ2 H2=>tb { D with nx:=Pv (i+1),ct:=Pv (i+1),bk:=D.nx } σ2 H2) (hd:∀ σ H,Pv xs.length σ H→D.nx σ H) :
    ∃ W:Nat→Nat→St→Hp→Prop,(∃ m,W 0 m σ H)∧∀ i m σ H,W i m σ H→
      ((Itt K a).stop i H∧D.nx σ H)∨((Itt K a).go i H∧∃ N:St→Hp→Prop,(∀ σ' H',N σ' H'→∃ m',m'<m∧W (i+1) m' σ' H')∧∀ x H',(Itt K a).yld i H x H'→g x σ H' fun σ2 H2=>tb { D with nx:=N,ct:=N,bk:=D.nx } σ2 H2):=by
  refine ⟨fun i m σ H=>m=xs.length-i∧i≤xs.length∧Pv i σ H,⟨xs.length,by simp,Nat.zero_le _,h0⟩,?_⟩
  rintro i m σ H ⟨rfl,hi,p⟩
  have q:=hl i σ H hi p
  by_cases hlt:i<xs.length
  · refine .inr ⟨⟨xs,xs[i],q,by simp [hlt]⟩,Pv (i+1),fun σ' H' p'=>⟨xs.length-(i+1),by omega,rfl,hlt,p'⟩,fun x H' y=>?_⟩
    obtain ⟨e,y⟩:=y
    subst e
    exact hs i x σ _ (y xs q) p
  · have e:i=xs.length:=by omega
    subst e
    exact .inl ⟨⟨xs,q,Nat.le_refl _⟩,hd σ H p⟩
theorem zok {lo:Int} {n:Nat} {g:TG} {tb:TS} {D:Ends} {σ:St} {H:Hp} (Pv:Nat→St→Hp→Prop) (h0:Pv 0 σ H)
    (hs:∀ i σ H,i<n→Pv i σ H→g (.int (lo+i)) σ H fun σ2 H2=>tb { D with nx:=Pv (i+1),ct:=Pv (i+1),bk:=D.nx } σ2 H2) (hd:∀ σ H,Pv n σ H→D.nx σ H) :
    ∃ W:Nat→Nat→St→Hp→Prop,(∃ m,W 0 m σ H)∧∀ i m σ H,W i m σ H→
      ((Itr lo n).stop i H∧D.nx σ H)∨((Itr lo n).go i H∧∃ N:St→Hp→Prop,(∀ σ' H',N σ' H'→∃ m',m'<m∧W (i+1) m' σ' H')∧∀ x H',(Itr lo n).yld i H x H'→g x σ H' fun σ2 H2=>tb { D with nx:=N,ct:=N,bk:=D.nx } σ2 H2):=by
  refine ⟨fun i m σ H=>m=n-i∧i≤n∧Pv i σ H,⟨n,by simp,Nat.zero_le _,h0⟩,?_⟩
  rintro i m σ H ⟨rfl,hi,p⟩
  by_cases hlt:i<n
  · refine .inr ⟨hlt,Pv (i+1),fun σ' H' p'=>⟨n-(i+1),by omega,rfl,hlt,p'⟩,fun x H' y=>?_⟩
    obtain ⟨e,y⟩:=y
    subst e y
    exact hs i σ _ hlt p
  · have e:i=n:=by omega
    subst e
    exact .inl ⟨Nat.le_refl _,hd σ H p⟩
end L2
namespace L2
open PySem PySem.Spec PyProof.Rows
abbrev R2:=V→V→Hp→VK→Prop
def OpR (X:Cx) (f:Value→Value→Sem Value) (r:R2):Prop:=
  ∀ (pins:List (Addr×Obj)) (s:Shared) (σ:St) (H:Hp) (x y:V) (v u:Value) (Q:VK),Inv X pins σ H s→RelV x v→RelV y u→r x y H Q→
    wpAny (model X.prog X.w) X.A (f v u) (EP X pins σ Q) X.xe s
def UnR (X:Cx) (f:Value→Sem Value) (r:V→Hp→VK→Prop):Prop:=
  ∀ (pins:List (Addr×Obj)) (s:Shared) (σ:St) (H:Hp) (x:V) (v:Value) (Q:VK),Inv X pins σ H s→RelV x v→r x H Q→
    wpAny (model X.prog X.w) X.A (f v) (EP X pins σ Q) X.xe s
def znu (X:Cx) (f:Value) (r:List V→Hp→VK→Prop):Prop:=
  ∀ (pins:List (Addr×Obj)) (s:Shared) (σ:St) (H:Hp) (xs:List V) (us:List Value) (Q:VK),Inv X pins σ H s→Vals xs us→r xs H Q→
    wpAny (model X.prog X.w) X.A (call f us) (EP X pins σ Q) X.xe s
def tOp (r:R2) (ta tb:TE):TE:=fun σ H Q=>ta σ H fun x H1=>tb σ H1 fun y H2=>r x y H2 Q
def tUn (r:V→Hp→VK→Prop) (ta:TE):TE:=fun σ H Q=>ta σ H fun x H1=>r x H1 Q
def rI (C:Int→Int→Prop) (g:Int→Int→V):R2:=fun x y H Q=>E2 fun i j=>A4 (x = .int i) (y = .int j) (C i j) (Q (g i j) H)
def rI0 (g:Int→Int→V):R2:=fun x y H Q=>E2 fun i j=>A3 (x = .int i) (y = .int j) (Q (g i j) H)
def rU (g:Int→V):V→Hp→VK→Prop:=fun x H Q=>G1 (fun i=>x = .int i) fun i=>Q (g i) H
section
variable {X:Cx} {a b c:Expr} {ta tb tc:TE} {pos:Pos}
theorem binT (ha:PE X a ta) (hb:PE X b tb) {pins:List (Addr×Obj)} {s:Shared} {σ:St} {H:Hp} {R:V→V→Hp→Prop} (I:Inv X pins σ H s)
    (h:ta σ H fun x H1=>tb σ H1 fun y H2=>R x y H2) {Q:Value→Shared→Prop} {f:Value→Value→Sem Value}
    (hf:∀ v u s2 x y H2,Inv X pins σ H2 s2→RelV x v→RelV y u→R x y H2→wpAny (model X.prog X.w) X.A (f v u) Q X.xe s2) :
    wpAny (model X.prog X.w) X.A (eval a X.env) (fun v s₁=>wpAny (model X.prog X.w) X.A (eval b X.env) (fun u s₂=>wpAny (model X.prog X.w) X.A (f v u) Q X.xe s₂) X.xe s₁) X.xe s:=by
  refine thn (ha pins s σ H _ I h) fun v s1 ⟨x,H1,I1,r1,q1⟩=>?_
  refine thn (hb pins s1 σ H1 _ I1 q1) fun u s2 ⟨y,H2,I2,r2,q2⟩=>?_
  exact hf v u s2 x y H2 I2 r1 r2 q2
theorem zej {op:Operator} {r:R2} (ho:OpR X (binaryOp op) r) (ha:PE X a ta) (hb:PE X b tb):PE X (.BinOp a op b pos) (tOp r ta tb):=by
  intro pins s σ H Q I h
  exact wpAny_BinOp (binT ha hb I h fun v u s2 x y H2 I2 rx ry q=>ho pins s2 σ H2 x y v u Q I2 rx ry q)
theorem zyf {op:UnaryOp} {r:V→Hp→VK→Prop} (ho:UnR X (unaryOp op) r) (ha:PE X a ta):PE X (.UnaryOp op a pos) (tUn r ta):=by
  intro pins s σ H Q I h
  exact UnaryOp_ (thn (ha pins s σ H _ I h) fun v s1 ⟨x,H1,I1,r1,q1⟩=>ho pins s1 σ H1 x v Q I1 r1 q1)
theorem opI {f:Value→Value→Sem Value} {C:Int→Int→Prop} {g:Int→Int→Int}
    (rule:∀ (i j:Int) (t u:Tok) (s:Shared) (Q:Value→Shared→Prop) (E:Value→Shared→Prop),C i j→Q (.int (g i j) s.toks) { s with toks:=s.toks+1 }→wpAny (model X.prog X.w) X.A (f (.int i t) (.int j u)) Q E s) :
    OpR X f (rI C fun i j=>.int (g i j)):=by
  intro pins s σ H x y v u Q I rx ry h
  obtain ⟨i,j,rfl,rfl,hc,q⟩:=h
  obtain ⟨t,rfl⟩:=rx
  obtain ⟨t',rfl⟩:=ry
  exact rule i j t t' s _ _ hc ⟨.int (g i j),H,I.tok _,⟨_,rfl⟩,q⟩
theorem opI0 {f:Value→Value→Sem Value} {g:Int→Int→Int}
    (rule:∀ (i j:Int) (t u:Tok) (s:Shared) (Q:Value→Shared→Prop) (E:Value→Shared→Prop),Q (.int (g i j) s.toks) { s with toks:=s.toks+1 }→wpAny (model X.prog X.w) X.A (f (.int i t) (.int j u)) Q E s) :
    OpR X f (rI0 fun i j=>.int (g i j)):=by
  intro pins s σ H x y v u Q I rx ry h
  obtain ⟨i,j,rfl,rfl,q⟩:=h
  obtain ⟨t,rfl⟩:=rx
  obtain ⟨t',rfl⟩:=ry
  exact rule i j t t' s _ _ ⟨.int (g i j),H,I.tok _,⟨_,rfl⟩,q⟩
theorem opB0 {f:Value→Value→Sem Value} {g:Int→Int→Bool}
    (rule:∀ (i j:Int) (t u:Tok) (s:Shared) (Q:Value→Shared→Prop) (E:Value→Shared→Prop),Q (.bool (g i j)) s→wpAny (model X.prog X.w) X.A (f (.int i t) (.int j u)) Q E s) :
    OpR X f (rI0 fun i j=>.bl (g i j)):=by
  intro pins s σ H x y v u Q I rx ry h
  obtain ⟨i,j,rfl,rfl,q⟩:=h
  obtain ⟨t,rfl⟩:=rx
  obtain ⟨t',rfl⟩:=ry
  exact rule i j t t' s _ _ ⟨.bl (g i j),H,I,rfl,q⟩
def CPow (i j:Int):Prop:=0≤j∧j≤1000000∧i.natAbs<2 ^ 64
def CMul (i j:Int):Prop:=(-(2 ^ 64)<i∧i<2 ^ 64)∨(-(2 ^ 64)<j∧j<2 ^ 64)
theorem CMul.ok {i j:Int} (h:CMul i j):IntMulOk i j:=by
  rcases h with ⟨h1,h2⟩ | ⟨h1,h2⟩
  · exact .of_left (intBits_le_64 h1 h2)
  · exact .of_right (intBits_le_64 h1 h2)
theorem ze4:OpR X (binaryOp .Add) (rI0 fun i j=>.int (i+j)):=opI0 fun _ _ _ _ _ _ _ q=>add_int q
theorem zvm:OpR X (binaryOp .Sub) (rI0 fun i j=>.int (i-j)):=opI0 fun _ _ _ _ _ _ _ q=>sub_int q
theorem zvl:OpR X (binaryOp .Mult) (rI CMul fun i j=>.int (i*j)):=opI fun _ _ _ _ _ _ _ hc q=>mul_int q hc.ok
theorem zCz:OpR X (binaryOp .LShift) (rI CPow fun i j=>.int (i*2 ^ j.toNat)):=opI fun _ _ _ _ _ _ _ hc q=>lshift_int_small hc.1 hc.2.1 hc.2.2 q
theorem unI {f:Value→Sem Value} {g:Int→Int}
    (rule:∀ (i:Int) (t:Tok) (s:Shared) (Q:Value→Shared→Prop) (E:Value→Shared→Prop),Q (.int (g i) s.toks) { s with toks:=s.toks+1 }→wpAny (model X.prog X.w) X.A (f (.int i t)) Q E s) :
    UnR X f (rU fun i=>.int (g i)):=by
  intro pins s σ H x v Q I rx h
  obtain ⟨i,rfl,q⟩:=h
  obtain ⟨t,rfl⟩:=rx
  exact rule i t s _ _ ⟨.int (g i),H,I.tok _,⟨_,rfl⟩,q⟩
theorem zsl:UnR X (unaryOp .USub) (rU fun i=>.int (-i)):=unI fun _ _ _ _ _ q=>neg_int q
end
def scal:V→V→Bool
  | .non, .non=>true | .non, .int _=>true | .int _, .non=>true | .non, .bl _=>true | .bl _, .non=>true | .non, .str _=>true | .str _, .non=>true
  | .int _, .int _=>true | .bl _, .bl _=>true | .str _, .str _=>true | .byt _, .byt _=>true
  | .int _, .str _=>true | .str _, .int _=>true | .bl _, .str _=>true | .str _, .bl _=>true
  | _,_=>false
def rEq:R2:=fun x y H Q=>scal x y=true∧Q (.bl (decide (x=y))) H
def rNe:R2:=fun x y H Q=>scal x y=true∧Q (.bl (!decide (x=y))) H
theorem zuh {i j:Int}:decide (V.int i=V.int j)=(i == j):=by
  rw [Bool.eq_iff_iff]
  simp
theorem zy6 {i j:Bool}:decide (V.bl i=V.bl j)=(i == j):=by
  rw [Bool.eq_iff_iff]
  simp
theorem zui {i j:Str}:decide (V.str i=V.str j)=(i == j):=by
  rw [Bool.eq_iff_iff]
  simp
theorem zug {i j:Array UInt8}:decide (V.byt i=V.byt j)=(i.toList == j.toList):=by
  rw [Bool.eq_iff_iff]
  cases i
  cases j
  simp
section
variable {X:Cx} {a b c:Expr} {ta tb tc:TE} {pos:Pos}
theorem zbh {pins:List (Addr×Obj)} {σ:St} {H:Hp} {s:Shared} {Q:VK} {k k':Bool} (I:Inv X pins σ H s) (q:Q (.bl k) H) (e:k=k'):EP X pins σ Q (.bool k') s:=by
  subst e
  exact ⟨.bl k,H,I,rfl,q⟩
theorem zbg:OpR X (compareOp .Eq) rEq:=by
  intro pins s σ H x y v u Q I rx ry h
  obtain ⟨hs,q⟩:=h
  cases x with
  | non=>
    cases rx
    cases y with
    | non=>cases ry;exact PySem.EqNone.eq_none_none (zbh I q (by simp))
    | bl j=>cases ry;exact PySem.EqNone.eq_none_bool (zbh I q (by simp))
    | int j=>obtain ⟨t',rfl⟩:=ry;exact PySem.EqNone.eq_none_int (zbh I q (by simp))
    | str j=>obtain ⟨t',rfl⟩:=ry;exact PySem.EqNone.eq_none_str (zbh I q (by simp))
    | _=>exact absurd (show false=true from hs) Bool.false_ne_true
  | bl i=>
    cases rx
    cases y with
    | non=>cases ry;exact PySem.EqNone.eq_bool_none (zbh I q (by simp))
    | bl j=>cases ry;exact eq_bool (zbh I q zy6)
    | str j=>obtain ⟨t',rfl⟩:=ry;exact PySem.EqMixed.eq_bool_str (zbh I q (by simp))
    | _=>exact absurd (show false=true from hs) Bool.false_ne_true
  | int i=>
    obtain ⟨t,rfl⟩:=rx
    cases y with
    | non=>cases ry;exact PySem.EqNone.eq_int_none (zbh I q (by simp))
    | int j=>obtain ⟨t',rfl⟩:=ry;exact eq_int (zbh I q zuh)
    | str j=>obtain ⟨t',rfl⟩:=ry;exact PySem.EqMixed.eq_int_str (zbh I q (by simp))
    | _=>exact absurd (show false=true from hs) Bool.false_ne_true
  | str i=>
    obtain ⟨t,rfl⟩:=rx
    cases y with
    | non=>cases ry;exact PySem.EqNone.eq_str_none (zbh I q (by simp))
    | bl j=>cases ry;exact PySem.EqMixed.eq_str_bool (zbh I q (by simp))
    | int j=>obtain ⟨t',rfl⟩:=ry;exact PySem.EqMixed.eq_str_int (zbh I q (by simp))
    | str j=>obtain ⟨t',rfl⟩:=ry;exact eq_str (zbh I q zui)
    | _=>exact absurd (show false=true from hs) Bool.false_ne_true
  | byt i=>
    obtain ⟨t,rfl⟩:=rx
    cases y with
    | byt j=>obtain ⟨t',rfl⟩:=ry;exact W.eq_bytes (zbh I q zug)
    | _=>exact absurd (show false=true from hs) Bool.false_ne_true
  | _=>cases y<;>exact absurd (show false=true from hs) Bool.false_ne_true
theorem zqm:OpR X (compareOp .NotEq) rNe:=by
  intro pins s σ H x y v u Q I rx ry h
  obtain ⟨hs,q⟩:=h
  cases x with
  | non=>
    cases rx
    cases y with
    | non=>cases ry;exact PySem.EqNone.ne_none_none (zbh I q (by simp))
    | bl j=>cases ry;exact PySem.EqNone.ne_none_bool (zbh I q (by simp))
    | int j=>obtain ⟨t',rfl⟩:=ry;exact PySem.EqNone.ne_none_int (zbh I q (by simp))
    | str j=>obtain ⟨t',rfl⟩:=ry;exact PySem.EqNone.ne_none_str (zbh I q (by simp))
    | _=>exact absurd (show false=true from hs) Bool.false_ne_true
  | bl i=>
    cases rx
    cases y with
    | non=>cases ry;exact PySem.EqNone.ne_bool_none (zbh I q (by simp))
    | bl j=>cases ry;exact ne_bool (zbh I q (congrArg not zy6))
    | str j=>obtain ⟨t',rfl⟩:=ry;exact PySem.EqMixed.ne_bool_str (zbh I q (by simp))
    | _=>exact absurd (show false=true from hs) Bool.false_ne_true
  | int i=>
    obtain ⟨t,rfl⟩:=rx
    cases y with
    | non=>cases ry;exact PySem.EqNone.ne_int_none (zbh I q (by simp))
    | int j=>obtain ⟨t',rfl⟩:=ry;exact ne_int (zbh I q (congrArg not zuh))
    | str j=>obtain ⟨t',rfl⟩:=ry;exact PySem.EqMixed.ne_int_str (zbh I q (by simp))
    | _=>exact absurd (show false=true from hs) Bool.false_ne_true
  | str i=>
    obtain ⟨t,rfl⟩:=rx
    cases y with
    | non=>cases ry;exact PySem.EqNone.ne_str_none (zbh I q (by simp))
    | bl j=>cases ry;exact PySem.EqMixed.ne_str_bool (zbh I q (by simp))
    | int j=>obtain ⟨t',rfl⟩:=ry;exact PySem.EqMixed.ne_str_int (zbh I q (by simp))
    | str j=>obtain ⟨t',rfl⟩:=ry;exact ne_str (zbh I q (congrArg not zui))
    | _=>exact absurd (show false=true from hs) Bool.false_ne_true
  | byt i=>
    obtain ⟨t,rfl⟩:=rx
    cases y with
    | byt j=>obtain ⟨t',rfl⟩:=ry;exact W.ne_bytes (zbh I q (congrArg not zug))
    | _=>exact absurd (show false=true from hs) Bool.false_ne_true
  | _=>cases y<;>exact absurd (show false=true from hs) Bool.false_ne_true
theorem ziz:OpR X (compareOp .Lt) (rI0 fun i j=>.bl (decide (i<j))):=opB0 fun _ _ _ _ _ _ _ q=>lt_int q
theorem zju:OpR X (compareOp .LtE) (rI0 fun i j=>.bl (decide (i≤j))):=opB0 fun _ _ _ _ _ _ _ q=>le_int q
theorem zfm:OpR X (compareOp .Gt) (rI0 fun i j=>.bl (decide (j<i))):=opB0 fun _ _ _ _ _ _ _ q=>gt_int q
theorem zD1:OpR X (compareOp .GtE) (rI0 fun i j=>.bl (decide (j≤i))):=opB0 fun _ _ _ _ _ _ _ q=>ge_int q
theorem zvk:OpR X (compareOp .Is) (fun x y H Q=>y = .non∧Q (.bl (decide (x = .non))) H):=by
  intro pins s σ H x y v u Q I rx ry h
  obtain ⟨rfl,q⟩:=h
  cases ry
  refine is_none_gen (zbh I q ?_)
  cases x<;>first
    | (cases rx;rfl)
    | (obtain ⟨t,rfl⟩:=rx;rfl)
theorem zam (b:Expr) {op:CmpOp} (h:op≠.In:=by decide) (h2:op≠.NotIn:=by decide):behindInMarks op b=false:=by
  have e1:(op == CmpOp.In)=false:=by cases op<;>first | rfl | exact absurd rfl h
  have e2:(op == CmpOp.NotIn)=false:=by cases op<;>first | rfl | exact absurd rfl h2
  cases b<;>simp [behindInMarks,e1,e2]
theorem zba {op:CmpOp} {r:R2} (ho:OpR X (compareOp op) r) (ha:PE X a ta) (hb:PE X b tb) (hm:behindInMarks op b=false):PE X (.Compare a [op] [b] pos) (tOp r ta tb):=by
  intro pins s σ H Q I h
  exact wpAny_Compare1 (binT ha hb I h fun v u s2 x y H2 I2 rx ry q=>ho pins s2 σ H2 x y v u Q I2 rx ry q) hm
def zky (t:TE):TT:=fun σ H Q=>t σ H fun x H'=>G1 (fun k=>x = .bl k) fun k=>Q k H'
theorem zan {op:CmpOp} {r:R2} (ho:OpR X (compareOp op) r) (ha:PE X a ta) (hb:PE X b tb) (hm:behindInMarks op b=false):PT X (.Compare a [op] [b] pos) (zky (tOp r ta tb)):=by
  intro pins s σ H Q I h
  refine wpAny_isTrue_Compare1 (thn (ha pins s σ H _ I h) fun v s1 ⟨x,H1,I1,r1,q1⟩=>thn (hb pins s1 σ H1 _ I1 q1) fun u s2 ⟨y,H2,I2,r2,q2⟩=>
    thn (ho pins s2 σ H2 x y v u _ I2 r1 r2 q2) fun c s3 ⟨z,H3,I3,r3,k,e,q3⟩=>?_) hm
  subst e
  cases r3
  exact wpAny_truthy_bool ⟨H3,I3,q3⟩
def zzq (r r':R2) (ta tb tc:TE):TE:=fun σ H Q=>ta σ H fun x H1=>tb σ H1 fun y H2=>r x y H2 fun z H3=>∃ k,z = .bl k∧
  (if k=true then tc σ H3 fun w' H4=>r' y w' H4 Q else Q (.bl false) H3)
theorem zht {op op':CmpOp} {r r':R2} (ho:OpR X (compareOp op) r) (ho':OpR X (compareOp op') r') (ha:PE X a ta) (hb:PE X b tb) (hc:PE X c tc)
    (hm:lastMarks [op,op'] [b,c]=false:=by with_unfolding_all rfl):PE X (.Compare a [op,op'] [b,c] pos) (zzq r r' ta tb tc):=by
  intro pins s σ H Q I h
  refine Compare_chain (thn (ha pins s σ H _ I h) fun v s1 ⟨x,H1,I1,r1,q1⟩=>chain_link (thn (hb pins s1 σ H1 _ I1 q1) fun u s2 ⟨y,H2,I2,r2,q2⟩=>
    thn (ho pins s2 σ H2 x y v u _ I2 r1 r2 q2) fun d s3 ⟨z,H3,I3,r3,k,e,q3⟩=>?_)) hm
  subst e
  cases r3
  refine wpAny_truthy_bool ?_
  cases k with
  | false=>exact ite_ff ⟨.bl false,H3,I3,rfl,q3⟩
  | true=>exact ite_tt (chain_last (thn (hc pins s3 σ H3 _ I3 q3) fun w' s4 ⟨z',H4,I4,r4,q4⟩=>ho' pins s4 σ H4 y z' u w' Q I4 r2 r4 q4))
theorem zu2:(sizeLine:Nat)<2 ^ 63:=by rw [sizeLine_eq];decide
theorem ztr {x:V} {us:List Value} (r:Vals [x] us):∃ u,us=[u]∧RelV x u:=by
  cases r with
  | cons r1 r2=>cases r2;exact ⟨_,rfl,r1⟩
theorem zj5:znu X (.type "int") (fun xs H Q=>(∃ i,xs=[.int i]∧Q (.int i) H)∨∃ k,xs=[.bl k]∧Q (.int (if k then 1 else 0)) H):=by
  intro pins s σ H xs us Q I r h
  rcases h with ⟨i,rfl,q⟩ | ⟨k,rfl,q⟩
  · obtain ⟨u,rfl,t,rfl⟩:=ztr r
    exact call_int_int ⟨.int i,H,I,⟨_,rfl⟩,q⟩
  · obtain ⟨u,rfl,r1⟩:=ztr r
    cases r1
    exact call_int_bool ⟨.int (if k then 1 else 0),H,I.tok _,⟨_,rfl⟩,q⟩
theorem zxa:znu X (.builtin "ord") (fun xs H Q=>∃ x,xs=[.str x]∧x.length=1∧Q (.int (x.cps.getD 0 0:Nat)) H):=by
  intro pins s σ H xs us Q I r h
  obtain ⟨x,rfl,hz,q⟩:=h
  obtain ⟨u,rfl,t,rfl⟩:=ztr r
  exact ord_of_one hz ⟨.int _,H,I.tok _,⟨_,rfl⟩,q⟩
end
end L2
namespace L2
open PySem PySem.Spec PyProof.Rows
structure ObjM (h:Heap) (x dx C:Addr) (mA:Str→Option Value):Prop where
  obj:h.get? x=some (W.instObj C dx)
  ns:h.Ns1 dx mA
  ne:dx≠x
theorem zu7 {h:Heap} {dx:Addr} {mA:Str→Option Value} (n:h.Ns1 dx mA):∃ od,h.get? dx=some od∧∀ name,W.lookIn name od=some (mA name):=by
  obtain ⟨o,es,ep,ho,hd,hk,_,hm⟩:=n
  refine ⟨o,ho,fun name=>?_⟩
  have e:=hm name
  unfold nsFind findBy at e
  rw [← Array.find?_toList] at e
  unfold W.lookIn
  rw [hd]
  dsimp only
  split
  · rename_i y q
    rw [q] at e
    exact congrArg some e
  · rename_i q
    rw [q] at e
    have a:es.toList.any (·.refKey)=false:=by
      rw [List.any_eq_false]
      intro y hy
      obtain ⟨z,t,hkey⟩:=hk y (Array.mem_toList_iff.mp hy)
      simp [DictEntry.refKey,hkey]
    have a':¬es.toList.any (·.refKey)=true:=by rw [a];exact Bool.false_ne_true
    rw [if_neg a']
    exact congrArg some e
theorem ObjM.look {h:Heap} {x dx C:Addr} {mA:Str→Option Value} (I:ObjM h x dx C mA):∃ od,W.InstAt h x (W.instObj C dx) C (some od)∧∀ name,W.lookIn name od=some (mA name):=
  let ⟨od,ho,hl⟩:=zu7 I.ns
  ⟨od,⟨I.obj,rfl,rfl,ho⟩,hl⟩
section
variable {prog:Program} {w:World} {A:Around} {E:Value→Shared→Prop} {s:Shared} {K:W.Frag} {x dx C f:Addr} {mA:Str→Option Value} {name:Str} {v:Value}
theorem zmj {expr:Bool} {Q:Value→Shared→Prop} (X:K.In s.heap) (I:ObjM s.heap x dx C mA) (hg:W.plainGet K C name=true) (hh:W.hasDictIn K C=true)
    (ha:W.findIn K (.ref C) name=some none) (hv:mA name=some v) (hv':W.handedIn v=true) (h:Q v { s with toks:=s.toks+1 }) :
    wpAny (model prog w) A (getAttr (.ref x) name expr) Q E s:=by
  obtain ⟨od,J,hl⟩:=I.look
  exact W.get_value X J (W.plainGet_of hg).1 (W.findObj_own hh ha rfl (by rw [hl,hv])) hv' h
theorem zxl {pl:Sem Bool} {Q:Value×List Value→Shared→Prop} (X:K.In s.heap) (I:ObjM s.heap x dx C mA) (hg:W.plainGet K C name=true)
    (hf:W.findIn K (.ref C) name=some (some (.ref f))) (ht:W.isFn K (.ref f)=true) (hv:mA name=none) (h:Q (.ref f,[.ref x]) s) :
    wpAny (model prog w) A (getMethod (.ref x) name pl) Q E s:=by
  obtain ⟨od,J,hl⟩:=I.look
  exact W.method_fn X J (W.plainGet_of hg).1 (W.plainGet_of hg).2 hf (beq_iff_eq.mp ht) (by show (W.lookIn name od).map (·.isSome)=some false;rw [hl,hv];rfl) h
theorem zA7 {ns:List Str} {Q:Unit→Shared→Prop} (X:K.In s.heap) (I:ObjM s.heap x dx C mA)
    (hs:W.findIn K (.ref C) "__setattr__"=some (some (.builtin "object.__setattr__"))) (hp:W.plainOver K C=true) (ht:W.takerIn K C name=some none) (hh:W.hasDictIn K C=true)
    (hw:PySem.Within mA ns) (hsz:ns.length≤sizeLine)
    (h:∀ h',ObjM h' x dx C (fun y=>if y=name then some v else mA y)→Heap.SameBut dx s.heap h'→Q () { s with heap:=h',toks:=s.toks+2 }) :
    wpAny (model prog w) A (setAttr (.ref x) name v) Q E s:=by
  obtain ⟨od,J,hl⟩:=I.look
  refine W.set_plain X J hs (W.osa_open (s:={ s with toks:=s.toks+1 }) (r:=none) X J hp ht fun b=>?_)
  obtain ⟨cd,hc,hd'⟩:=W.any_some hh
  have hx:s.heap.get? x=some ⟨.ref C,some dx, .plain,#[]⟩:=I.obj
  refine wpAny_bind (wpAny_pure (wpAny_bind (wpAny_bind (wpAny_loadPart hx (wpAny_bind (W.Looks.here (s:={ s with toks:=s.toks+1 }) (W.looks_clsIn X hc) ?_))))))
  rw [hd']
  refine wpAny_pure (a:=some dx) (wpAny_bind (wpAny_pure (wpAny_bind ?_)))
  refine wpAny_nsSet1 (s:={ s with toks:=s.toks+1 }) I.ns fun h' hn2 hs2=>?_
  obtain ⟨oD,esD,epD,hoD,hdD,hcD⟩:=hn2.count (PySem.Within.cons name v hw)
  refine wpAny_bind (wpAny_lookBehind hoD (by rw [hdD];exact pastItsLine_dict (Nat.le_trans hcD (by rw [List.length_cons];omega))) ?_)
  exact wpAny_pure (h _ ⟨(hs2.2 _ (Ne.symm I.ne)).trans I.obj,hn2,I.ne⟩ hs2)
theorem zx1 {R:Result→Shared→Prop} {vs:List Value} {kw:List (Str×Value)} (X:K.In s.heap) (hm:W.makesIn K C=true)
    (hi:W.findIn K (.ref C) "__init__"=some (some (.ref f))) (hf:W.typeIn K (.ref f)=some (.type "function"))
    (h:codeAny (model prog w) (A.under (.builtin "type.__call__" ⟨.ref C :: vs,kw⟩)) (.call (.ref f) ⟨.ref (s.heap.objs.size+1) :: vs,kw⟩) (W.InitBack (s.heap.objs.size+1) R)
      { s with heap:=(s.heap.push W.emptyDict).push (W.instObj C s.heap.objs.size) }) :
    codeAny (model prog w) A (.call (.ref C) ⟨vs,kw⟩) R s:=by
  obtain ⟨hh,g,d,t,os⟩:=s
  exact W.make_core (W.makes_of X hm) (W.looks_findIn X hi) (fun self=>W.bind_fn X self hf) (.inl rfl) h
end
def putF (f:Str) (v:V):List (Str×V)→List (Str×V)
  | []=>[(f,v)]
  | (g,x) :: r=>if g=f then (g,v) :: r else (g,x) :: putF f v r
theorem zgr (f g:Str) (v:V):∀ fs:List (Str×V),(putF f v fs).lookup g=if g=f then some v else fs.lookup g
  | []=>by
    show List.lookup g [(f,v)]=_
    by_cases h:g=f
    · have hb:(g == f)=true:=beq_iff_eq.mpr h
      simp only [List.lookup,hb,if_pos h]
    · have hb:(g == f)=false:=beq_eq_false_iff_ne.mpr h
      simp only [List.lookup,hb,if_neg h]
  | (k,x) :: r=>by
    have ih:=zgr f g v r
    rw [show putF f v ((k,x) :: r)=(if k=f then (k,v) :: r else (k,x) :: putF f v r) from rfl]
    by_cases hk:k=f
    · rw [if_pos hk]
      by_cases h:g=k
      · have hb:(g == k)=true:=beq_iff_eq.mpr h
        simp only [List.lookup,hb,if_pos (h.trans hk)]
      · have hb:(g == k)=false:=beq_eq_false_iff_ne.mpr h
        simp only [List.lookup,hb,if_neg (fun e:g=f=>h (e.trans hk.symm))]
    · rw [if_neg hk]
      by_cases h:g=k
      · have hb:(g == k)=true:=beq_iff_eq.mpr h
        simp only [List.lookup,hb,if_neg (fun e:g=f=>hk (h.symm.trans e))]
      · have hb:(g == k)=false:=beq_eq_false_iff_ne.mpr h
        simp only [List.lookup,hb]
        exact ih
theorem zfi (f:Str) (v:V):∀ fs:List (Str×V),f∈(putF f v fs).map (·.1)∧∀ g,g∈fs.map (·.1)→g∈(putF f v fs).map (·.1)
  | []=>⟨by simp [putF],fun g h=>by simp at h⟩
  | (k,x) :: r=>by
    obtain ⟨i1,i2⟩:=zfi f v r
    rw [show putF f v ((k,x) :: r)=(if k=f then (k,v) :: r else (k,x) :: putF f v r) from rfl]
    by_cases hk:k=f
    · rw [if_pos hk]
      subst hk
      exact ⟨by simp,fun g h=>by simpa using h⟩
    · rw [if_neg hk]
      refine ⟨?_,fun g h=>?_⟩
      · rw [List.map_cons]
        exact List.mem_cons_of_mem _ i1
      · rw [List.map_cons] at h ⊢
        rcases List.mem_cons.mp h with e | e
        · exact List.mem_cons.mpr (.inl e)
        · exact List.mem_cons_of_mem _ (i2 g e)
theorem zkg (f:Str) (v:V):∀ fs:List (Str×V),(putF f v fs).length≤fs.length+1
  | []=>by simp [putF]
  | (k,x) :: r=>by
    have ih:=zkg f v r
    rw [show putF f v ((k,x) :: r)=(if k=f then (k,v) :: r else (k,x) :: putF f v r) from rfl]
    by_cases hk:k=f
    · rw [if_pos hk,List.length_cons,List.length_cons];omega
    · rw [if_neg hk,List.length_cons,List.length_cons];omega
theorem RelO.some_of {v:V} {o:Option Value} (r:RelO (some v) o):∃ u,o=some u∧RelV v u:=by
  cases o with
  | none=>exact (show False from r).elim
  | some u=>exact ⟨u,rfl,r⟩
theorem RelO.none_of {o:Option Value} (r:RelO none o):o=none:=by
  cases o with
  | none=>rfl
  | some u=>exact (show False from r).elim
theorem zur {v:V} {u:Value} (r:RelV v u):W.handedIn u=true:=by
  cases v with
  | non=>cases (show u=Value.none from r);rfl
  | bl b=>cases (show u=Value.bool b from r);rfl
  | int i=>obtain ⟨t,e⟩:=(show ∃ t,u=Value.int i t from r);cases e;rfl
  | str x=>obtain ⟨t,e⟩:=(show ∃ t,u=Value.str x t from r);cases e;rfl
  | byt b=>obtain ⟨t,e⟩:=(show ∃ t,u=Value.bytes b t from r);cases e;rfl
  | flt b=>obtain ⟨t,e⟩:=(show ∃ t,u=Value.float b t from r);cases e;rfl
  | ref a=>cases (show u=Value.ref a from r);rfl
  | ty n=>cases (show u=Value.type n from r);rfl
section
variable {P:Program} {w:World} {H H':Hp} {h h':Heap} {a C dx:Addr} {fs fs':List (Str×V)}
theorem zp6 (hok:HOk P w H h) (e:H a=some (.ins C dx fs)):∃ mA,ObjM h a dx C mA∧(∀ f,RelO (fs.lookup f) (mA f))∧PySem.Within mA (fs.map (·.1))∧fs.length≤1000∧H dx=some (.own a):=by
  obtain ⟨d,z,ne,ob,mA,n,r,q⟩:=(show ObjOk P w H h a (.ins C dx fs) from hok a _ e)
  exact ⟨mA,⟨ob,n,ne⟩,r,q,z,d⟩
end
structure Cls (K:W.Frag) (C:Addr):Prop where
  pg:W.plainGet K C Str.empty=true
  hd:W.hasDictIn K C=true
  po:W.plainOver K C=true
  sa:W.findIn K (.ref C) "__setattr__"=some (some (.builtin "object.__setattr__"))
theorem Cls.get {K:W.Frag} {C:Addr} (c:Cls K C) (f:Str):W.plainGet K C f=true:=c.pg
def NoAttr (K:W.Frag) (C:Addr) (f:Str):Prop:=W.findIn K (.ref C) f=some none
theorem NoAttr.taker {K:W.Frag} {C:Addr} {f:Str} (n:NoAttr K C f):W.takerIn K C f=some none:=by
  unfold W.takerIn
  rw [show W.findIn K (.ref C) f=some none from n]
  rfl
structure Meth (K:W.Frag) (C:Addr) (m:Str) (f:Addr):Prop where
  at_:W.findIn K (.ref C) m=some (some (.ref f))
  fn:W.isFn K (.ref f)=true
  kp:W.keepIn K (.ref f)=true
section
variable {X:Cx} {pins:List (Addr×Obj)} {σ:St} {H:Hp} {s:Shared} {a C dx:Addr} {fs:List (Str×V)} {f:Str} {v:V} {A:Around} {E:Value→Shared→Prop}
theorem zlr {b:Bool} {Q:Value→Shared→Prop} (I:Inv X pins σ H s) (e:H a=some (.ins C dx fs)) (c:Cls X.K C) (n:NoAttr X.K C f) (l:fs.lookup f=some v)
    (h:∀ u s',Inv X pins σ H s'→RelV v u→Q u s'):wpAny (model X.prog X.w) A (getAttr (.ref a) f b) Q E s:=by
  obtain ⟨mA,O,r,_,_,_⟩:=zp6 I.hok e
  obtain ⟨u,hu,ru⟩:=RelO.some_of (v:=v) (o:=mA f) (by rw [← l];exact r f)
  exact zmj I.kIn O (c.get f) c.hd n hu (zur ru) (h u _ (I.tok _) ru)
theorem zls {m:Str} {g:Addr} {pl:Sem Bool} {Q:Value×List Value→Shared→Prop} (I:Inv X pins σ H s) (e:H a=some (.ins C dx fs)) (c:Cls X.K C) (k:Meth X.K C m g) (l:fs.lookup m=none)
    (h:Q (.ref g,[.ref a]) s):wpAny (model X.prog X.w) A (getMethod (.ref a) m pl) Q E s:=by
  obtain ⟨mA,O,r,_,_,_⟩:=zp6 I.hok e
  have hn:mA m=none:=RelO.none_of (by rw [← l];exact r m)
  exact zxl I.kIn O (c.get m) k.at_ k.fn hn h
theorem zlz {y:V} {u:Value} {Q:Unit→Shared→Prop} (I:Inv X pins σ H s) (e:H a=some (.ins C dx fs)) (c:Cls X.K C) (n:NoAttr X.K C f) (hl:fs.length<1000) (ry:RelV y u)
    (h:∀ s',Inv X pins σ (upd H a (.ins C dx (putF f y fs))) s'→Q () s'):wpAny (model X.prog X.w) A (setAttr (.ref a) f u) Q E s:=by
  obtain ⟨mA,O,r,wi,_,ho⟩:=zp6 I.hok e
  have hz:(fs.map (·.1)).length≤sizeLine:=by rw [List.length_map,sizeLine_eq];omega
  refine zA7 I.kIn O c.sa c.po n.taker c.hd wi hz fun h' O' sb=>h _ ?_
  have hd:∃ o,h'.get? dx=some o:=let ⟨o,_,_,e',_⟩:=O'.ns; ⟨o,e'⟩
  refine I.write (x:=a) (e:=dx) (by rw [e];exact True.intro) (.inr ho) (fun b q hb z=>(sb.2 b hb).trans z) hd ?_
  refine ⟨by rw [zag O.ne];exact ho,?_,O.ne,O'.obj,_,O'.ns,fun g=>?_,fun g hg=>?_⟩
  · have:=zkg f y fs;omega
  · show RelO ((putF f y fs).lookup g) (if g=f then some u else mA g)
    rw [zgr]
    by_cases q:g=f
    · rw [if_pos q,if_pos q];exact ry
    · rw [if_neg q,if_neg q];exact r g
  · by_cases q:g=f
    · rw [q];exact (zfi f y fs).1
    · refine (zfi f y fs).2 g (wi g fun z=>hg ?_)
      show (if g=f then some u else mA g)=none
      rw [if_neg q];exact z
theorem Inv.made (I:Inv X pins σ H s):Inv X pins σ (upd (upd H s.heap.objs.size (.own (s.heap.objs.size+1))) (s.heap.objs.size+1) (.ins C s.heap.objs.size []))
    { s with heap:=(s.heap.push W.emptyDict).push (W.instObj C s.heap.objs.size) }:=by
  have e1:(s.heap.push W.emptyDict).get? s.heap.objs.size=some W.emptyDict:=Heap.get?_push_size s.heap rfl
  have e2:((s.heap.push W.emptyDict).push (W.instObj C s.heap.objs.size)).get? (s.heap.objs.size+1)=some (W.instObj C s.heap.objs.size):=by
    have:=Heap.get?_push_size (s.heap.push W.emptyDict) (o:=W.instObj C s.heap.objs.size) rfl
    rwa [Heap.size_push] at this
  have e3:(s.heap.push W.emptyDict).Ns s.heap.objs.size (fun _=>none):=⟨W.emptyDict,#[],_,e1,rfl,(fun e he=>absurd he (by simp)),fun _=>rfl⟩
  have I1:=I.laid (a:=s.heap.objs.size) (o:=.own (s.heap.objs.size+1)) (h':=s.heap.push W.emptyDict) (t':=s.toks) (fun b u q=>Heap.get?_push_of_some _ q) (Nat.le_refl _) ⟨_,e1⟩
  refine I1.laid (a:=s.heap.objs.size+1) (o:=.ins C s.heap.objs.size []) (t':=s.toks) (fun b u q=>Heap.get?_push_of_some _ q) (Nat.le_of_eq (Heap.size_push _ _)) ?_
  have ne:s.heap.objs.size≠s.heap.objs.size+1:=Nat.ne_of_lt (Nat.lt_succ_self _)
  refine ⟨by rw [zag ne,zaf],Nat.zero_le _,ne,e2,fun _=>none,(Heap.Ns1.of_empty e3).at fun o q=>Heap.get?_push_of_some _ q,fun _=>True.intro,fun y hy=>absurd rfl hy⟩
theorem zt3 {prog:Program} {w:World} {env:Env} {e:Expr} {f:Str} {pos:Pos} {s:Shared} {Q:Value→Shared→Prop} (hb:attributeBase e f env (eval e env)=eval e env)
    (h:wpAny (model prog w) A (eval e env) (fun o s₁=>wpAny (model prog w) A (getAttr o f true) Q E s₁) E s):wpAny (model prog w) A (eval (.Attribute e f pos) env) Q E s:=
  Attribute_any_ h (by rw [arm_eval_Attribute,hb])
end
def tFld (K:W.Frag) (ta:TE) (f:Str):TE:=fun σ H Q=>ta σ H fun x H1=>E5 fun a C dx fs v=>A6 (x = .ref a) (H1 a=some (.ins C dx fs)) (Cls K C) (NoAttr K C f) (fs.lookup f=some v) (Q v H1)
def sFld (K:W.Frag) (ta tv:TE) (f:Str):TS:=fun D σ H=>tv σ H fun y H1=>ta σ H1 fun x H2=>E4 fun a C dx fs=>A6 (x = .ref a) (H2 a=some (.ins C dx fs)) (Cls K C) (NoAttr K C f) (fs.length<1000) (D.nx σ (upd H2 a (.ins C dx (putF f y fs))))
def InOp (X:Cx) (op:Operator) (rd:V→V→Hp→VK→Prop):Prop:=
  ∀ (pins:List (Addr×Obj)) (s:Shared) (σ:St) (H:Hp) (x y:V) (u v:Value) (Q:VK),Inv X pins σ H s→RelV x u→RelV y v→rd x y H Q→wpAny (model X.prog X.w) X.A (inplaceOp op u v) (EP X pins σ Q) X.xe s
def zv4 (K:W.Frag) (ta tv:TE) (rd:V→V→Hp→VK→Prop) (f:Str):TS:=fun D σ H=>ta σ H fun x H1=>E5 fun a C dx fs v=>A6 (x = .ref a) (H1 a=some (.ins C dx fs)) (Cls K C) (NoAttr K C f) (fs.lookup f=some v) (tv σ H1 fun y H2=>rd v y H2 fun z H3=>E2 fun dx' fs'=>A3 (H3 a=some (.ins C dx' fs')) (fs'.length<1000) (D.nx σ (upd H3 a (.ins C dx' (putF f z fs')))))
section
variable {X:Cx} {o e value:Expr} {f:Str} {pos pos' tpos:Pos} {ta tv:TE}
theorem zah (he:PE X e ta) (hb:attributeBase e f X.env (eval e X.env)=eval e X.env):PE X (.Attribute e f pos) (tFld X.K ta f):=by
  intro pins s σ H Q I h
  refine zt3 hb (thn (he pins s σ H _ I h) fun u s1 ⟨x,H1,I1,rx,a,C,dx,fs,v,ex,ea,c,n,l,q⟩=>?_)
  subst ex
  obtain rfl:u=Value.ref a:=rx
  exact zlr I1 ea c n l fun u' s2 I2 ru=>⟨v,H1,I2,ru,q⟩
theorem zau (ha:PE X o ta) (hv:PE X value tv) (hs:swapsWith value (some (.Attribute o f pos')) pos.line X.env=pure false):PS X (.Assign [.Attribute o f pos'] value pos) (sFld X.K ta tv f):=by
  intro pins s σ H D I h
  refine plainObj_wpAny_Assign_Attribute (thn (hv pins s σ H _ I h) fun u s1 ⟨y,H1,I1,ry,q⟩=>thn (ha pins s1 σ H1 _ I1 q) fun ov s2 ⟨x,H2,I2,rx,a,C,dx,fs,ex,ea,c,n,l,q2⟩=>?_) hs
  subst ex
  obtain rfl:ov=Value.ref a:=rx
  exact zlz I2 ea c n l ry fun s3 I3=>⟨σ,_,I3,q2⟩
theorem zep {op:Operator} {rd:V→V→Hp→VK→Prop} (ha:PE X o ta) (hv:PE X value tv) (hop:InOp X op rd):PS X (.AugAssign (.Attribute o f tpos) op value pos) (zv4 X.K ta tv rd f):=by
  intro pins s σ H D I h
  refine wpAny_AugAssign_AttributeAny (thn (ha pins s σ H _ I h) fun ov s1 ⟨x,H1,I1,rx,a,C,dx,fs,v,ex,ea,c,n,l,q⟩=>?_)
  subst ex
  obtain rfl:ov=Value.ref a:=rx
  refine zlr I1 ea c n l fun u s2 I2 ru=>thn (hv pins s2 σ H1 _ I2 q) fun w3 s3 ⟨y,H2,I3,ry,q3⟩=>thn (hop pins s3 σ H2 v y u w3 _ I3 ru ry q3) fun w4 s4 ⟨z,H3,I4,rz,dx',fs',ea',l',q4⟩=>?_
  exact zlz I4 ea' c n l' rz fun s5 I5=>⟨σ,_,I5,q4⟩
def rAdd:V→V→Hp→VK→Prop:=fun x y H Q=>E2 fun i j=>A3 (x = .int i) (y = .int j) (Q (.int (i+j)) H)
def rSub:V→V→Hp→VK→Prop:=fun x y H Q=>E2 fun i j=>A3 (x = .int i) (y = .int j) (Q (.int (i-j)) H)
theorem zrr:InOp X .Add rAdd:=by
  rintro pins s σ H x y u v Q I rx ry ⟨i,j,rfl,rfl,q⟩
  obtain ⟨t,rfl⟩:=(show ∃ t,u=Value.int i t from rx)
  obtain ⟨t',rfl⟩:=(show ∃ t',v=Value.int j t' from ry)
  exact PyProof.Rows.iadd_int ⟨.int (i+j),H,I.tok _,⟨_,rfl⟩,q⟩
theorem zza:InOp X .Sub rSub:=by
  rintro pins s σ H x y u v Q I rx ry ⟨i,j,rfl,rfl,q⟩
  obtain ⟨t,rfl⟩:=(show ∃ t,u=Value.int i t from rx)
  obtain ⟨t',rfl⟩:=(show ∃ t',v=Value.int j t' from ry)
  exact PyProof.Rows.isub_int ⟨.int (i-j),H,I.tok _,⟨_,rfl⟩,q⟩
end
section
variable {X:Cx} {pins:List (Addr×Obj)} {σ:St} {H:Hp} {s:Shared} {A:Around} {E:Value→Shared→Prop} {Q:Value→Shared→Prop} {c:Value} {b:Bool}
end
end L2
namespace L2
open PySem PySem.Spec PyProof.Rows
structure Room (k:Nat) (A:Around):Prop where
  hd:A.handled=none
  dp:A.depth+3*k+5<recursionLimit
  un:A.units+16*k+200<cLine
theorem Room.mono {j k:Nat} {A:Around} (r:Room k A) (h:j≤k):Room j A:=⟨r.hd,by have:=r.dp;omega,by have:=r.un;omega⟩
theorem Room.deeper {k:Nat} {A:Around} (r:Room (k+1) A) (env:Env):Room k (A.deeper env):=
  ⟨r.hd,by have:=r.dp;show A.depth+1+3*k+5<_;omega,by have:=r.un;show A.units+3+16*k+200<_;omega⟩
theorem Room.in1 {k:Nat} {A:Around} (r:Room (k+1) A):Room k A.in1:=
  ⟨r.hd,by have:=r.dp;show A.depth+3*k+5<_;omega,by have:=r.un;show A.units+1+16*k+200<_;omega⟩
theorem zs3 {A:Around} {C:Addr} {us:List Value} {kw:List (Str×Value)}:(A.under (.builtin "type.__call__" ⟨.ref C :: us,kw⟩)).depth=A.depth+1:=by
  first | rfl | simp [Around.under,Code.weight,Code.isCreation,Code.isGuard,Code.isCaller,Code.frames,Code.isFrame,guardIds]
theorem zs4 {A:Around} {C:Addr} {us:List Value} {kw:List (Str×Value)}:(A.under (.builtin "type.__call__" ⟨.ref C :: us,kw⟩)).units=A.units+1:=by
  first | rfl | simp [Around.under,Code.cUnits,Code.frames,Code.isFrame]
theorem Room.make {k:Nat} {A:Around} (r:Room (k+1) A) (C:Addr) (us:List Value) (kw:List (Str×Value)):Room k (A.under (.builtin "type.__call__" ⟨.ref C :: us,kw⟩)):=
  ⟨r.hd,by have:=r.dp;rw [zs3];omega,by have:=r.un;rw [zs4];omega⟩
theorem Room.depth {k:Nat} {A:Around} (r:Room k A):A.depth<recursionLimit:=by have:=r.dp;omega
theorem Room.units {k:Nat} {A:Around} (r:Room k A):A.units+64<cLine:=by have:=r.un;omega
def tNil:TA:=fun _ H Q=>Q [] H
def zdk (ta:TE) (tr:TA):TA:=fun σ H Q=>ta σ H fun x H1=>tr σ H1 fun xs H2=>Q (x :: xs) H2
section
variable {X:Cx} {e:Expr} {es:List Expr} {te:TE} {t:TA} {pos:Pos}
theorem zad:PA X [] tNil:=fun _ _ _ _ H Q I h=>Calls.spliced_nil ⟨[],H,I, .nil,h⟩
theorem zaa (ha:PE X e te) (hr:PA X es t) (hs:starEach (e :: es) X.env=(false,eval e X.env) :: starEach es X.env:=by rfl):PA X (e :: es) (zdk te t):=by
  intro pos pins s σ H Q I h
  rw [hs]
  show wpAny _ _ (spliced ((false,eval e X.env) :: backTo pos (starEach es X.env))) _ _ s
  refine Calls.spliced_cons (thn (ha pins s σ H _ I h) fun u s1 ⟨x,H1,I1,r1,q1⟩=>?_)
  exact thn (hr pos pins s1 σ H1 _ I1 q1) fun us s2 ⟨xs,H2,I2,r2,q2⟩=>⟨x :: xs,H2,I2, .cons r1 r2,q2⟩
def tTup (t:TA):TE:=fun σ H Q=>t σ H fun xs H1=>xs.length≤sizeLine∧∀ p,H1 p=none→Q (.ref p) (upd H1 p (.tup xs))
def tLst (t:TA):TE:=fun σ H Q=>t σ H fun xs H1=>xs.length≤sizeLine∧∀ p,H1 p=none→Q (.ref p) (upd H1 p (.lst xs))
theorem zC5 {x1} (h:PA X es t):PE X (.Tuple es x1 pos) (tTup t):=by
  intro pins s σ H Q I hq
  refine wpAny_Tuple_spliced (thn (h pos pins s σ H _ I hq) fun us s1 ⟨xs,H1,I1,r,z,q⟩=>⟨by rw [← r.length];exact z,?_⟩)
  have hf:H1 s1.heap.objs.size=none:=I1.hok.fresh (Nat.le_refl _)
  refine ⟨.ref s1.heap.objs.size,upd H1 s1.heap.objs.size (.tup xs),I1.laid (t':=s1.toks) (fun b u e=>Heap.get?_push_of_some _ e) (Nat.le_refl _) ?_,rfl,q _ hf⟩
  exact ⟨z,us,r,⟨_,Heap.get?_push_size _ rfl,rfl,_,rfl⟩⟩
theorem zb5 (h:PA X es t):PE X (.List es pos) (tLst t):=by
  intro pins s σ H Q I hq
  refine wpAny_List_spliced (thn (h pos pins s σ H _ I hq) fun us s1 ⟨xs,H1,I1,r,z,q⟩=>⟨by rw [← r.length];exact z,?_⟩)
  have hf:H1 s1.heap.objs.size=none:=I1.hok.fresh (Nat.le_refl _)
  refine ⟨.ref s1.heap.objs.size,upd H1 s1.heap.objs.size (.lst xs),I1.laid (t':=s1.toks) (fun b u e=>Heap.get?_push_of_some _ e) (Nat.le_refl _) ?_,rfl,q _ hf⟩
  exact ⟨z,us,0,r,Heap.get?_push_size _ rfl⟩
end
abbrev Sp:=List V→Hp→VK→XK→Prop
abbrev CXT:=List Env→Hp→Shared→XK→Value→Shared→Prop
structure Env0 (P:Program) (w:World) (K:W.Frag) (mg:Str→Option Value) (base:Heap) (A:Around) (outer:List Env) (s:Shared) (H:Hp):Prop where
  frames:A.frames=some outer
  mod:Mod K mg base
  bs:∀ b o,base.get? b=some o→s.heap.get? b=some o∧H b=none
  bsz:base.objs.size≤s.heap.objs.size
  funs:s.heap.FunFrames base outer
  frf:∀ b∈frs outer,H b=none
  hok:HOk P w H s.heap
  bare:AllBare s.gens
def CE (outer:List Env) (P:Program) (w:World) (H:Hp) (s:Shared) (Q:VK) (u:Value) (s':Shared):Prop:=
  ∃ v H',s'.os=s.os∧AllBare s'.gens∧Un (frs outer) [] H H' s.heap s'.heap∧HOk P w H' s'.heap∧RelV v u∧Q v H'
def CR (CX:CXT) (outer:List Env) (P:Program) (w:World) (H:Hp) (s:Shared) (Q:VK) (E:XK) (r:Result) (s':Shared):Prop:=
  match r with
  | .ok (.ret u)=>CE outer P w H s Q u s'
  | .ok _=>False
  | .error e=>CX outer H s E e s'
structure FnOk (P:Program) (w:World) (K:W.Frag) (mg:Str→Option Value) (base:Heap) (CX:CXT) (k:Nat) (f:Addr) (fd:FuncData) (ps:List Str) (sp:Sp):Prop where
  len:∀ vs H Q E,sp vs H Q E→vs.length=ps.length
  run:∀ (A:Around) (outer:List Env) (s:Shared) (H:Hp) (args:Args) (us:List Value) (vs:List V) (Q:VK) (E:XK),Room k A→Env0 P w K mg base A outer s H→BindsTo s fd args (ps.zip us)→Vals vs us→sp vs H Q E→
    codeAny (model P w) A (.call (.ref f) args) (CR CX outer P w H s Q E) s
theorem Env0.make {P:Program} {w:World} {K:W.Frag} {mg:Str→Option Value} {base:Heap} {A:Around} {outer:List Env} {s:Shared} {H:Hp} (e:Env0 P w K mg base A outer s H) (C:Addr) (us:List Value) (kw:List (Str×Value)) :
    Env0 P w K mg base (A.under (.builtin "type.__call__" ⟨.ref C :: us,kw⟩)) outer s H:=⟨by first | exact e.frames | (simpa [Around.under,Code.envs,Code.isFrame,pushEnvs] using e.frames),e.mod,e.bs,e.bsz,e.funs,e.frf,e.hok,e.bare⟩
theorem Env0.in1 {P:Program} {w:World} {K:W.Frag} {mg:Str→Option Value} {base:Heap} {A:Around} {outer:List Env} {s:Shared} {H:Hp} (e:Env0 P w K mg base A outer s H) :
    Env0 P w K mg base A.in1 outer s H:=⟨e.frames,e.mod,e.bs,e.bsz,e.funs,e.frf,e.hok,e.bare⟩
section
variable {X:Cx} {pins:List (Addr×Obj)} {σ:St} {H:Hp} {s s':Shared}
theorem Inv.env0 (I:Inv X pins σ H s):Env0 X.prog X.w X.K X.mg X.base X.A X.stack s H:=
  ⟨I.ok.frames,I.ok.mod,I.bs,Nat.le_trans I.ok.bsz I.sz,I.stack,I.stkFree,I.hok,I.bare⟩
theorem Inv.after {Q:VK} {u:Value} (I:Inv X pins σ H s) (h:CE X.stack X.prog X.w H s Q u s'):EP X pins σ Q u s':=by
  obtain ⟨v,H',os,bare,un,hok,r,q⟩:=h
  obtain ⟨hh,g,d,t,os'⟩:=s'
  obtain rfl:os'=s.os:=os
  exact ⟨v,H',I.call (h':=hh) (g':=g) (d':=d) (t':=t) (ch:=[]) un hok bare (fun b z=>absurd z (by simp)),r,q⟩
end
def zq8 (sp:Sp) (dvs:List V) (E:XK) (t:TA):TE:=fun σ H Q=>t σ H fun vs H1=>sp (vs++dvs) H1 Q E
def zkx (C:Addr) (m:Str) (sp:Sp) (dvs:List V) (E:XK) (ta:TE) (t:TA):TE:=fun σ H Q=>ta σ H fun x H1=>E3 fun a dx fs=>A4 (x = .ref a) (H1 a=some (.ins C dx fs)) (fs.lookup m=none) (t σ H1 fun vs H2=>sp (x :: (vs++dvs)) H2 Q E)
def zpi (C:Addr) (sp:Sp) (dvs:List V) (E:XK) (t:TA):TE:=fun σ H Q=>t σ H fun vs H1=>∀ x dx,H1 x=none→H1 dx=none→dx≠x→
  sp (.ref x :: (vs++dvs)) (upd (upd H1 dx (.own x)) x (.ins C dx [])) (fun v H2=>v = .non∧Q (.ref x) H2) E
def Binds (K:W.Frag) (fd:FuncData) (ps:List Str) (ds:List Value):Prop:=
  ∀ (s:Shared) (us:List Value),K.In s.heap→(us++ds).length=ps.length→BindsTo s fd ⟨us,[]⟩ (ps.zip (us++ds))
theorem Binds.all {K:W.Frag} {fd:FuncData} {ps:List Str} (h:∀ us:List Value,us.length=ps.length→bindArgs fd ⟨us,[]⟩=pure (ps.zip us)):Binds K fd ps []:=fun s us _ hl=>by
  rw [List.append_nil] at hl ⊢
  exact .of_eq (h us hl)
def zdm (CX:CXT) (X:Cx) (E:XK):Prop:=∀ (pins:List (Addr×Obj)) (σ:St) (H:Hp) (s:Shared) (e:Value) (s':Shared),Inv X pins σ H s→CX X.stack H s E e s'→X.xe e s'
section
variable {X:Cx} {CX:CXT} {k:Nat} {f C:Addr} {fd:FuncData} {ps:List Str} {sp:Sp} {dvs:List V} {ds:List Value} {E:XK} {x m:Str} {p pos apos:Pos} {e o:Expr} {es:List Expr} {ta:TE} {t:TA}
theorem zv3 {pins:List (Addr×Obj)} {σ:St} {H:Hp} {s:Shared} {Q:VK} {us:List Value} {vs:List V} (F:FnOk X.prog X.w X.K X.mg X.base CX k f fd ps sp) (hr:Room k X.A) (hb:Binds X.K fd ps ds) (hd:Vals dvs ds) (hx:zdm CX X E)
    (I:Inv X pins σ H s) (r:Vals vs us) (h:sp (vs++dvs) H Q E):wpAny (model X.prog X.w) X.A (call (.ref f) us) (EP X pins σ Q) X.xe s:=by
  have r2:Vals (vs++dvs) (us++ds):=r.append hd
  have hl:(us++ds).length=ps.length:=by rw [← r2.length];exact F.len _ _ _ _ h
  refine wpAny_call (codeAny_mono (F.run X.A X.stack s H ⟨us,[]⟩ (us++ds) (vs++dvs) Q E hr I.env0 (hb s us I.kIn hl) r2 h) fun r s' hq=>?_)
  cases r with
  | error e=>exact hx pins σ H s e s' I hq
  | ok fl=>
    cases fl with
    | ret u=>exact I.after hq
    | next=>exact False.elim hq
    | brk=>exact False.elim hq
    | cont=>exact False.elim hq
theorem zAv (F:FnOk X.prog X.w X.K X.mg X.base CX k f fd ps sp) (hr:Room k X.A) (hg:Gl X x) (hm:X.mg x=some (.ref f)) (hk:W.keepIn X.K (.ref f)=true) (hb:Binds X.K fd ps ds) (hd:Vals dvs ds) (hx:zdm CX X E)
    (ha:PA X (e :: es) t) (hdb:(x == ("__debug__" : Str))=false:=by decide) (he:starEach (e :: es) X.env=(false,eval e X.env) :: starEach es X.env:=by rfl) (hpl:(backTo pos (starEach es X.env)).any (·.1)=false:=by rfl) :
    PE X (.Call (.Name x p) (e :: es) [] pos) (zq8 sp dvs E t):=by
  intro pins s σ H Q I h
  refine wpAny_Call_Name_kw (zik I hg hm ?_ hdb)
  refine W.callWith_K (h₀:=X.base) I.ok.mod.kin hk (thn (ha pos pins s σ H _ I h) fun us s1 ⟨vs,H1,I1,r,q⟩=>⟨I1.kIn,?_⟩) he hpl
  exact zv3 F hr hb hd hx I1 r q
theorem zAy {pl:Sem Bool} (he:PE X o ta) (c:Cls X.K C) (hm:Meth X.K C m f) (F:FnOk X.prog X.w X.K X.mg X.base CX k f fd ps sp) (hr:Room k X.A) (hb:Binds X.K fd ps ds) (hd:Vals dvs ds) (hx:zdm CX X E) (ha:PA X (e :: es) t)
    (hst:starEach (e :: es) X.env=(false,eval e X.env) :: starEach es X.env:=by rfl) (hpl:(backTo pos (starEach es X.env)).any (·.1)=false:=by rfl)
    (ht:eval (.Call (.Attribute o m apos) (e :: es) [] pos) X.env=(do
      let ov ← eval o X.env
      standAt apos.atName
      let (f,first) ← holding [ov] (getMethod ov m pl)
      callWith pos f first (backTo pos (starEach (e :: es) X.env)) (backToKw pos (keywordEach [] X.env))):=by rfl) :
    PE X (.Call (.Attribute o m apos) (e :: es) [] pos) (zkx C m sp dvs E ta t):=by
  intro pins s σ H Q I h
  refine W.methodCall_KW (pl:=pl) (thn (he pins s σ H _ I h) fun u s1 ⟨x,H1,I1,rx,a,dx,fs,ex,ea,l,q⟩=>?_) ht
  subst ex
  obtain rfl:u=Value.ref a:=rx
  refine zls I1 ea c hm l ?_
  refine W.callWith_K (first:=[.ref a]) (h₀:=X.base) I.ok.mod.kin hm.kp (thn (ha pos pins s1 σ H1 _ I1 q) fun us s2 ⟨vs,H2,I2,r,q2⟩=>⟨I2.kIn,?_⟩) hst hpl
  exact zv3 (us:=.ref a :: us) (vs:=.ref a :: vs) F hr hb hd hx I2 (.cons rfl r) q2
theorem zyd {pl:Sem Bool} (he:PE X o ta) (c:Cls X.K C) (hm:Meth X.K C m f) (F:FnOk X.prog X.w X.K X.mg X.base CX k f fd ps sp) (hr:Room k X.A) (hb:Binds X.K fd ps ds) (hd:Vals dvs ds) (hx:zdm CX X E)
    (ht:eval (.Call (.Attribute o m apos) [] [] pos) X.env=(do
      let ov ← eval o X.env
      standAt apos.atName
      let (f,first) ← holding [ov] (getMethod ov m pl)
      callWith pos f first (backTo pos (starEach [] X.env)) (backToKw pos (keywordEach [] X.env))):=by rfl) :
    PE X (.Call (.Attribute o m apos) [] [] pos) (zkx C m sp dvs E ta tNil):=by
  intro pins s σ H Q I h
  refine W.methodCall_KW (pl:=pl) (thn (he pins s σ H _ I h) fun u s1 ⟨x,H1,I1,rx,a,dx,fs,ex,ea,l,q⟩=>?_) ht
  subst ex
  obtain rfl:u=Value.ref a:=rx
  refine zls I1 ea c hm l ?_
  exact W.callWith_K0 (first:=[.ref a]) I1.kIn hm.kp (zv3 (us:=[.ref a]) (vs:=[.ref a]) F hr hb hd hx I1 (.cons rfl .nil) q)
structure Mk (K:W.Frag) (C f:Addr):Prop where
  makes:W.makesIn K C=true
  init:W.findIn K (.ref C) "__init__"=some (some (.ref f))
  fn:W.isFn K (.ref f)=true
  kp:W.keepIn K (.ref C)=true
theorem zsg {pins:List (Addr×Obj)} {σ:St} {H:Hp} {s:Shared} {Q:VK} {us:List Value} {vs:List V} (M:Mk X.K C f) (F:FnOk X.prog X.w X.K X.mg X.base CX k f fd ps sp) (hr:Room (k+1) X.A) (hb:Binds X.K fd ps ds) (hd:Vals dvs ds)
    (hx:zdm CX X E) (I:Inv X pins σ H s) (r:Vals vs us)
    (h:∀ x dx,H x=none→H dx=none→dx≠x→sp (.ref x :: (vs++dvs)) (upd (upd H dx (.own x)) x (.ins C dx [])) (fun v H2=>v = .non∧Q (.ref x) H2) E) :
    wpAny (model X.prog X.w) X.A (call (.ref C) us) (EP X pins σ Q) X.xe s:=by
  have hq:=h (s.heap.objs.size+1) s.heap.objs.size (I.hok.fresh (Nat.le_succ _)) (I.hok.fresh (Nat.le_refl _)) (Nat.ne_of_lt (Nat.lt_succ_self _))
  have I2:=Inv.made (C:=C) I
  have r2:Vals (V.ref (s.heap.objs.size+1) :: (vs++dvs)) (Value.ref (s.heap.objs.size+1) :: (us++ds)):=.cons rfl (r.append hd)
  have hl:(Value.ref (s.heap.objs.size+1) :: us++ds).length=ps.length:=by
    have e:=r2.length
    rw [F.len _ _ _ _ hq] at e
    exact e.symm
  refine wpAny_call (zx1 (f:=f) I.kIn M.makes M.init (beq_iff_eq.mp M.fn) (codeAny_mono (F.run _ X.stack _ _ ⟨Value.ref (s.heap.objs.size+1) :: us,[]⟩ (Value.ref (s.heap.objs.size+1) :: (us++ds)) _ _ E (hr.make C us [])
    (I2.env0.make C us []) (hb _ (Value.ref (s.heap.objs.size+1) :: us) I2.kIn hl) r2 hq) fun r s' hq'=>?_))
  cases r with
  | error e=>exact hx pins σ _ _ e s' I2 hq'
  | ok fl=>
    cases fl with
    | ret u=>
      obtain ⟨v,H',I3,rv,ev,q3⟩:=I2.after hq'
      subst ev
      exact ⟨rv,⟨V.ref (s.heap.objs.size+1),H',I3,rfl,q3⟩⟩
    | next=>exact False.elim hq'
    | brk=>exact False.elim hq'
    | cont=>exact False.elim hq'
theorem zAx (M:Mk X.K C f) (F:FnOk X.prog X.w X.K X.mg X.base CX k f fd ps sp) (hr:Room (k+1) X.A) (hg:Gl X x) (hm:X.mg x=some (.ref C)) (hb:Binds X.K fd ps ds) (hd:Vals dvs ds) (hx:zdm CX X E)
    (ha:PA X (e :: es) t) (hdb:(x == ("__debug__" : Str))=false:=by decide) (he:starEach (e :: es) X.env=(false,eval e X.env) :: starEach es X.env:=by rfl) (hpl:(backTo pos (starEach es X.env)).any (·.1)=false:=by rfl) :
    PE X (.Call (.Name x p) (e :: es) [] pos) (zpi C sp dvs E t):=by
  intro pins s σ H Q I h
  refine wpAny_Call_Name_kw (zik I hg hm ?_ hdb)
  refine W.callWith_K (h₀:=X.base) I.ok.mod.kin M.kp (thn (ha pos pins s σ H _ I h) fun us s1 ⟨vs,H1,I1,r,q⟩=>⟨I1.kIn,?_⟩) he hpl
  exact zsg M F hr hb hd hx I1 r q
theorem zyc (M:Mk X.K C f) (F:FnOk X.prog X.w X.K X.mg X.base CX k f fd ps sp) (hr:Room (k+1) X.A) (hg:Gl X x) (hm:X.mg x=some (.ref C)) (hb:Binds X.K fd ps ds) (hd:Vals dvs ds) (hx:zdm CX X E)
    (hdb:(x == ("__debug__" : Str))=false:=by decide):PE X (.Call (.Name x p) [] [] pos) (zpi C sp dvs E tNil):=by
  intro pins s σ H Q I h
  refine wpAny_Call_Name_kw (zik I hg hm ?_ hdb)
  exact W.callWith_K0 I.kIn M.kp (zsg (us:=[]) M F hr hb hd hx I .nil h)
end
def PK (X:Cx) (kws:List Keyword) (t:TA):Prop:=
  ∀ (pos:Pos) (pins:List (Addr×Obj)) (s:Shared) (σ:St) (H:Hp) (Q:List V→Hp→Prop),Inv X pins σ H s→t σ H Q→wpAny (model X.prog X.w) X.A (evalAll ((backToKw pos (keywordEach kws X.env)).map (·.2))) (AP X pins σ Q) X.xe s
section
variable {X:Cx} {CX:CXT} {k:Nat} {f C:Addr} {fd:FuncData} {ps ks:List Str} {sp:Sp} {E:XK} {x m:Str} {p pos apos kpos:Pos} {e o:Expr} {es:List Expr} {kws:List Keyword} {te ta:TE} {t tk:TA} {nm:Option Str}
theorem zC8:PK X [] tNil:=fun _ _ _ _ H Q I h=>wpAny_evalAll_nil ⟨[],H,I, .nil,h⟩
theorem zA1 (ha:PE X e te) (hr:PK X kws t):PK X (⟨nm,e,kpos⟩ :: kws) (zdk te t):=by
  intro pos pins s σ H Q I h
  show wpAny _ _ (evalAll ((do let v ← eval e X.env;standAt pos;pure v) :: (backToKw pos (keywordEach kws X.env)).map (·.2))) _ _ s
  refine wpAny_evalAll_cons (wpAny_bind (thn (ha pins s σ H _ I h) fun u s1 ⟨x,H1,I1,r1,q1⟩=>wpAny_bind (wpAny_standAt (wpAny_pure ?_))))
  exact thn (hr pos pins s1 σ H1 _ I1 q1) fun us s2 ⟨xs,H2,I2,r2,q2⟩=>⟨x :: xs,H2,I2, .cons r1 r2,q2⟩
variable {g:List Value→List Value→List Value} {gV:List V→List V→List V}
end
structure zai (N P:List Str) (sc:Scope):Prop where
  kind:sc.kind = .function
  co:sc.isCoroutine=false
  gen:sc.isGenerator=false
  nd:N.Nodup
  pre:N.take P.length=P
  par:∀ x∈P,sc.names.lookup x=some .local∨sc.names.lookup x=some .cell
  nofree:∀ y∈sc.names,y.2≠.free
theorem zn2 {kindOf:Str→Option NameKind} {x:Str}:∀ {binds:List (Str×Value)} {m:Str→Option Value},(∀ v,(x,v)∉binds)→bindL kindOf binds m x=m x
  | [],_,_=>rfl
  | (n,v) :: r,m,h=>by
    unfold bindL
    rw [zn2 fun w hw=>h w (List.mem_cons_of_mem _ hw)]
    split
    · have:x≠n:=by rintro rfl;exact h v List.mem_cons_self
      simp [this]
    · rfl
theorem zn0 {kindOf:Str→Option NameKind} {x:Str}:∀ {binds:List (Str×Value)} {m:Str→Option Value},(∀ v,(x,v)∉binds)→bindC kindOf binds m x=m x
  | [],_,_=>rfl
  | (n,v) :: r,m,h=>by
    unfold bindC
    rw [zn0 fun w hw=>h w (List.mem_cons_of_mem _ hw)]
    split
    · rfl
    · have:x≠n:=by rintro rfl;exact h v List.mem_cons_self
      simp [this]
theorem zn1 {kindOf:Str→Option NameKind} {x:Str} {v:Value}:∀ {P:List Str} {vs:List Value} {i:Nat} {m:Str→Option Value},P.Nodup→P[i]? = some x→vs[i]? = some v→kindOf x=some .local→
    bindL kindOf (P.zip vs) m x=some v
  | [],_,_,_,_,h,_,_=>by simp at h
  | _ :: _,[],_,_,_,_,h,_=>by simp at h
  | p :: P,w :: vs,0,m,nd,h1,h2,hk=>by
    simp at h1 h2;subst h1;subst h2
    show bindL kindOf ((p,w) :: P.zip vs) m p=_
    unfold bindL
    rw [zn2 fun v hv=>(List.nodup_cons.mp nd).1 (List.of_mem_zip hv).1,if_pos hk]
    simp
  | p :: P,w :: vs,i+1,m,nd,h1,h2,hk=>by
    show bindL kindOf ((p,w) :: P.zip vs) m x=_
    unfold bindL
    exact zn1 (i:=i) (List.nodup_cons.mp nd).2 (by simpa using h1) (by simpa using h2) hk
theorem znz {kindOf:Str→Option NameKind} {x:Str} {v:Value}:∀ {P:List Str} {vs:List Value} {i:Nat} {m:Str→Option Value},P.Nodup→P[i]? = some x→vs[i]? = some v→kindOf x≠some .local→
    bindC kindOf (P.zip vs) m x=some v
  | [],_,_,_,_,h,_,_=>by simp at h
  | _ :: _,[],_,_,_,_,h,_=>by simp at h
  | p :: P,w :: vs,0,m,nd,h1,h2,hk=>by
    simp at h1 h2;subst h1;subst h2
    show bindC kindOf ((p,w) :: P.zip vs) m p=_
    unfold bindC
    rw [zn0 fun v hv=>(List.nodup_cons.mp nd).1 (List.of_mem_zip hv).1,if_neg hk]
    simp
  | p :: P,w :: vs,i+1,m,nd,h1,h2,hk=>by
    show bindC kindOf ((p,w) :: P.zip vs) m x=_
    unfold bindC
    exact znz (i:=i) (List.nodup_cons.mp nd).2 (by simpa using h1) (by simpa using h2) hk
def start (N:List Str) (vs:List V):St:=vs.map some++List.replicate (N.length-vs.length) none
def cxOf (CX:CXT) (P:Program) (w:World) (K:W.Frag) (mg:Str→Option Value) (base:Heap) (N:List Str) (qual:Str) (scope:Scope) (f:Addr) (cd:Value) (A:Around) (outer:List Env) (s:Shared) (H:Hp) (E:XK):Cx where
  prog:=P
  w:=w
  K:=K
  mg:=mg
  base:=base
  A:=A.deeper (envOfC qual scope s.heap.objs.size f cd)
  N:=N
  s_0:=s
  H_0:=H
  env:=envOfC qual scope s.heap.objs.size f cd
  outer:=outer
  stack:=envOfC qual scope s.heap.objs.size f cd :: outer
  ex:=[]
  calm:=true
  fn:=fun _=>true
  pn:=[]
  xe:=fun e s'=>wpAny (model P w) (A.deeper (envOfC qual scope s.heap.objs.size f cd)) (leaving (envOfC qual scope s.heap.objs.size f cd) e) (fun _ s''=>CX outer H s E e s'') (fun e' s''=>CX outer H s E e' s'') s'
theorem zrj {sc:Scope} {n:Nat} {x:Str} (h:sc.names.lookup x=some .cell):∃ c,(cellsFrom n sc.names []).lookup x=some c:=by
  have q:=W.cellsFrom_some sc.names n [] (.inl h)
  exact Option.isSome_iff_exists.mp q
theorem zuv {CX:CXT} {P:Program} {w:World} {K:W.Frag} {mg:Str→Option Value} {base:Heap} {N ps:List Str} {qual:Str} {scope:Scope} {f:Addr} {cd:Value} {A:Around} {outer:List Env} {s s1:Shared} {H:Hp} {E:XK} {us:List Value} {vs:List V}
    (S:zai N ps scope) (hd:A.handled=none) (e0:Env0 P w K mg base A outer s H) (hl:vs.length=ps.length) (r:Vals vs us)
    (x:InCallC s s.heap.objs.size (bindL (envOfC qual scope s.heap.objs.size f cd).kindOf (ps.zip us) fun _=>none) (cellsFrom (s.heap.objs.size+1) scope.names []) (bindC (envOfC qual scope s.heap.objs.size f cd).kindOf (ps.zip us) fun _=>none) s1) :
    Inv (cxOf CX P w K mg base N qual scope f cd A outer s H E) [] (start N vs) H s1:=by
  have hpl:ps.length≤N.length:=by have:=congrArg List.length S.pre;rw [List.length_take] at this;omega
  obtain ⟨h1,tk,rfl,hk⟩:=x.done
  have noA:∀ b:Addr,b∉(cxOf CX P w K mg base N qual scope f cd A outer s H E).ex:=fun b z=>absurd (show b∈([]:List Addr) from z) (by simp)
  refine ⟨⟨e0.mod,S.kind,rfl,rfl,Nat.le_refl _,fun y z c h1 h2=>?_,fun y hy=>?_,fun y c _ h=>?_,fun _=>hd,Around.frames_deeper e0.frames, .inr ⟨rfl,rfl⟩,fun b z=>absurd z (noA b),e0.bs,e0.bsz,fun b _ _=>noA b,fun b z=>absurd z (noA b),e0.funs,e0.frf⟩,
    rfl,e0.bare,Un.kept hk,⟨_,x.toInCall.ns,fun i y v h1 h2 h3=>?_⟩,fun y c h=>⟨_,x.cell y c h⟩,e0.hok.fresh (Nat.le_refl _),fun y c h=>?_,fun p hp=>absurd (show p∈([]:List (Addr×Obj)) from hp) (by simp),e0.hok.kept hk,?_⟩
  · exact name_of_addr x.apart (PySem.mem_of_lookup h1) (PySem.mem_of_lookup h2)
  · have hy:scope.names.lookup y=some .cell∨scope.names.lookup y=some .free:=hy
    rcases hy with hy | hy
    · exact zrj hy
    · exact absurd rfl (S.nofree _ (PySem.mem_of_lookup hy))
  · exact Nat.le_of_lt (x.above y c (PySem.mem_of_lookup h))
  · have hi:i<vs.length:=by
      unfold start at h2
      by_cases hi:i<vs.length
      · exact hi
      · rw [List.getElem?_append_right (by simpa using hi)] at h2
        rw [List.getElem?_replicate] at h2
        split at h2<;>cases h2
    have ha:vs[i]? = some v:=by
      unfold start at h2
      rw [List.getElem?_append_left (by simpa using hi),List.getElem?_map] at h2
      cases e:vs[i]? with
      | none=>rw [e] at h2;cases h2
      | some a=>rw [e] at h2;cases h2;rfl
    obtain ⟨u,hu,rv⟩:=r.get ha
    have hp:ps[i]? = some y:=by
      rw [← S.pre,List.getElem?_take_of_lt (by omega)];exact h1
    have ndP:ps.Nodup:=by rw [← S.pre];exact S.nd.sublist (List.take_sublist _ _)
    refine ⟨u,rv,?_⟩
    rcases S.par y (List.mem_of_getElem? hp) with k | k
    · exact .inl ⟨k,zn1 ndP hp hu k⟩
    · obtain ⟨c,e⟩:=zrj (n:=s.heap.objs.size+1) k
      refine .inr ⟨.inl k,c,e,?_⟩
      have q:=x.cell y c e
      rw [znz ndP hp hu (by show scope.names.lookup y≠_;rw [k];decide)] at q
      exact q
  · exact e0.hok.fresh (Nat.le_of_lt (x.above y c (PySem.mem_of_lookup h)))
  · unfold start
    show _=N.length
    rw [List.length_append,List.length_map,List.length_replicate]
    omega
theorem zCg {CX:CXT} {P:Program} {w:World} {K:W.Frag} {mg:Str→Option Value} {base:Heap} {k:Nat} {f:Addr} {name qual:Str} {params:Arguments} {body:List Stmt} {scope:Scope} {dV kV doc pm cdv ct oc:Value} {an od:Option Addr}
    {osl:Array (Option Value)} {N ps:List Str} {sp:Sp} (lk:K.lookup f=some ⟨oc,od, .func (W.fnOf name qual params body scope dV kV doc pm an cdv ct),osl⟩) (hcd:W.codeIn K cdv qual=true) (S:zai N ps scope)
    (len:∀ vs H Q E,sp vs H Q E→vs.length=ps.length)
    (hbody:∀ (A:Around) (outer:List Env) (s:Shared) (H:Hp) (vs:List V) (Q:VK) (E:XK),Room k (A.deeper (envOfC qual scope s.heap.objs.size f cdv))→sp vs H Q E→
      ∃ t,PSs (cxOf CX P w K mg base N qual scope f cdv A outer s H E) body t∧t { nx:=fun _ H'=>Q .non H',rt:=Q } (start N vs) H) :
    FnOk P w K mg base CX (k+1) f (W.fnOf name qual params body scope dV kV doc pm an cdv ct) ps sp:=by
  refine ⟨len,fun A outer s H args us vs Q E hr e0 hb r hsp=>?_⟩
  have hl:=len _ _ _ _ hsp
  have KX:K.In s.heap:=e0.mod.kin.keeps fun b o e=>(e0.bs b o e).1
  have lim:s.heap.NoLimit:=e0.mod.nolimit.keeps fun b o e=>(e0.bs b o e).1
  have hkind:∀ y∈ps.zip us,scope.names.lookup y.1=some .local∨(scope.names.lookup y.1=some .cell∧((cellsFrom (s.heap.objs.size+1) scope.names []).lookup y.1).isSome=true):=fun ⟨n,v⟩ hy=>by
    rcases S.par n (List.of_mem_zip hy).1 with q | q
    · exact .inl q
    · exact .inr ⟨q,W.cellsFrom_some _ _ _ (.inl q)⟩
  refine codeAny_call_function hr.depth (KX _ _ lk) rfl S.co S.gen rfl (W.codeRec_of KX hcd) (hb _ _ _ _ ?_)
  refine wpAny_newFunctionEnv_cells S.kind hkind fun env he s1 x=>?_
  subst he
  refine ⟨lim.keeps x.toInCall.keep,codeAny_func ?_⟩
  obtain ⟨t,ht,hq⟩:=hbody A outer s H vs Q E (hr.deeper _) hsp
  have I:Inv (cxOf CX P w K mg base N qual scope f cdv A outer s H E) [] (start N vs) H s1:=zuv S hr.hd e0 hl r x
  refine wpAny_mono (ht [] s1 (start N vs) H _ I hq) (fun fl s' hs=>?_) fun e s' hs=>hs
  have fin:∀ {σ':St} {H':Hp} {v:V} {u:Value},Inv (cxOf CX P w K mg base N qual scope f cdv A outer s H E) [] σ' H' s'→RelV v u→Q v H'→CE outer P w H s Q u s':=
    fun {σ' H' v u} J rv q=>⟨v,H',J.os,J.bare,J.base,J.hok,rv,q⟩
  cases fl with
  | ret u=>
    obtain ⟨v,σ',H',J,rv,q⟩:=hs
    exact fin J rv q
  | next=>
    obtain ⟨σ',H',J,q⟩:=hs
    exact fin (v:=V.non) (u:=Value.none) J rfl q
  | brk=>
    obtain ⟨_,_,_,q⟩:=hs
    exact False.elim q
  | cont=>
    obtain ⟨_,_,_,q⟩:=hs
    exact False.elim q
end L2
namespace L2
open PySem PySem.Spec PyProof.Rows
section
variable {X:Cx} {x:Str} {p pos:Pos} {e:Expr} {es:List Expr} {t:TA} {id T:String} {r:List V→Hp→VK→Prop}
def tCB (r:List V→Hp→VK→Prop) (t:TA):TE:=fun σ H Q=>t σ H fun vs H1=>r vs H1 Q
theorem za7 (hc:znu X (.builtin id) r) (hg:Gl X x) (hm:X.mg x=none) (hv:bootBuiltins x=some (.builtin id)) (ha:PA X (e :: es) t) (hn:x≠"__name__":=by decide) (hdb:(x == ("__debug__" : Str))=false:=by decide)
    (he:starEach (e :: es) X.env=(false,eval e X.env) :: starEach es X.env:=by rfl) (hpl:(backTo pos (starEach es X.env)).any (·.1)=false:=by rfl):PE X (.Call (.Name x p) (e :: es) [] pos) (tCB r t):=by
  intro pins s σ H Q I h
  refine wpAny_Call_Name_kw (zkf I hg hm hv ?_ hn hdb)
  exact PyProof.Rows.callWith_builtin1 (thn (ha pos pins s σ H _ I h) fun us s1 ⟨vs,H1,I1,r1,q1⟩=>hc pins s1 σ H1 vs us Q I1 r1 q1) he hpl
theorem zfn (hc:znu X (.type T) r) (hg:Gl X x) (hm:X.mg x=none) (hv:bootBuiltins x=some (.type T)) (ha:PA X (e :: es) t) (hn:x≠"__name__":=by decide) (hdb:(x == ("__debug__" : Str))=false:=by decide)
    (he:starEach (e :: es) X.env=(false,eval e X.env) :: starEach es X.env:=by rfl) (hpl:(backTo pos (starEach es X.env)).any (·.1)=false:=by rfl):PE X (.Call (.Name x p) (e :: es) [] pos) (tCB r t):=by
  intro pins s σ H Q I h
  refine wpAny_Call_Name_kw (zkf I hg hm hv ?_ hn hdb)
  exact PyProof.Rows.callWith_type1 (thn (ha pos pins s σ H _ I h) fun us s1 ⟨vs,H1,I1,r1,q1⟩=>hc pins s1 σ H1 vs us Q I1 r1 q1) he hpl
end
end L2
namespace HT
open PySem PyProof.Rows
section
open PySem.SeqAt
open PySem.AutoSeq1 (wpAny_loadPart')
open PySem.MeetsSeq PySem.MeetsSeq2 PySem.MeetsSeq3
end
section
variable {prog:Program} {w:World} {A:Around} {E:Value→Shared→Prop} {s:Shared}
def sIx (n d:Nat):Option Int→Nat
  | none=>d
  | some v=>if v<0 then (v+(n:Int)).toNat else min v.toNat n
theorem sIx_nat (n d k:Nat):sIx n d (some (k:Int))=min k n:=by
  show (if (k:Int)<0 then ((k:Int)+(n:Int)).toNat else min (k:Int).toNat n)=min k n
  rw [if_neg (by omega),Int.toNat_natCast]
theorem zDc (n d:Nat) (hd:d≤n) (o:Option Int):sIx n d o≤n:=by
  cases o with
  | none=>exact hd
  | some v=>
    show (if v<0 then (v+(n:Int)).toNat else min v.toNat n)≤n
    by_cases hv:v<0
    · rw [if_pos hv];omega
    · rw [if_neg hv];exact Nat.min_le_right _ _
theorem zub (v:Int) (n d:Nat):(if v<0 then max (v+(n:Int)) 0 else min v (n:Int))=((sIx n d (some v):Nat):Int):=by
  show (if v<0 then max (v+(n:Int)) 0 else min v (n:Int))=(((if v<0 then (v+(n:Int)).toNat else min v.toNat n):Nat):Int)
  by_cases hv:v<0
  · simp only [if_pos hv];omega
  · simp only [if_neg hv];omega
theorem zsp (lo hi:Option Int) (n:Nat):Builtin.Slice.sliceAdjust lo hi 1 (n:Int)=(((sIx n 0 lo:Nat):Int),((sIx n n hi:Nat):Int)):=by
  have h1:¬((1:Int)<0):=by omega
  unfold Builtin.Slice.sliceAdjust
  simp only [h1,if_false]
  refine Prod.ext ?_ ?_
  · cases lo with
    | none=>rfl
    | some v=>exact zub v n 0
  · cases hi with
    | none=>rfl
    | some v=>exact zub v n n
theorem zti (i j:Nat):Builtin.Slice.slicePlaces (i:Int) (j:Int) 1=j-i:=by
  unfold Builtin.Slice.slicePlaces
  have h1:(1:Int) > 0:=by omega
  simp only [h1,if_true,Int.ediv_one]
  split<;>omega
theorem zl0 {v:Value} {o:Option Int} {Q:Option Int→Shared→Prop} (p:IsPart v o) (h:Q o s):wpAny (model prog w) A (Builtin.Slice.slicePartIndex v) Q E s:=by
  cases p with
  | none=>exact slicePart_none h
  | int i t=>exact slicePart_int h
theorem ze6 {sl:Addr} {vl vu:Value} {lo hi:Option Int} {n:Nat} {Q:Int×Int×Nat→Shared→Prop} (hs:s.heap.IsSliceOf sl vl vu .none) (pl:IsPart vl lo) (pu:IsPart vu hi)
    (h:Q (((sIx n 0 lo:Nat):Int),1,sIx n n hi-sIx n 0 lo) s):wpAny (model prog w) A (Builtin.Slice.sliceApplied (.ref sl) (pure (n:Int))) Q E s:=by
  obtain ⟨os,hos,hcs,hds⟩:=id hs
  unfold Builtin.Slice.sliceApplied Builtin.Slice.sliceFields
  refine wpAny_bind (wpAny_bind (wpAny_field hos hds (x:=vl) rfl (wpAny_bind (wpAny_field hos hds (x:=vu) rfl (wpAny_bind (wpAny_field hos hds (x:=.none) rfl (wpAny_pure ?_)))))))
  refine wpAny_bind (slicePart_none ?_)
  show wpAny _ _ (if ((1:Int) == 0)=true then _ else _) _ _ s
  rw [if_neg (by decide)]
  refine wpAny_bind (zl0 pl (wpAny_bind (zl0 pu (wpAny_bind (wpAny_pure ?_)))))
  show wpAny _ _ (match Builtin.Slice.sliceAdjust lo hi 1 (n:Int) with | (lo,hi)=>pure (lo,(1:Int),Builtin.Slice.slicePlaces lo hi 1)) _ _ s
  rw [zsp lo hi n]
  show wpAny _ _ (pure (((sIx n 0 lo:Nat):Int),(1:Int),Builtin.Slice.slicePlaces ((sIx n 0 lo:Nat):Int) ((sIx n n hi:Nat):Int) 1)) _ _ s
  rw [zti]
  exact wpAny_pure h
theorem zyj (xs:Array Value) (i k:Nat):((List.range k).filterMap fun (m:Nat)=>xs[((i:Int)+(m:Int)*1).toNat]?).toArray=((xs.toList.drop i).take k).toArray:=by
  have e:(fun (m:Nat)=>xs[((i:Int)+(m:Int)*1).toNat]?)=fun m=>xs[i+m]? := by
    funext m
    have:((i:Int)+(m:Int)*1).toNat=i+m:=by omega
    rw [this]
  rw [e]
  have:=pick_run xs i k
  rw [List.filterMap_map] at this
  have e2:((fun x=>xs[x]?) ∘ fun x=>i+x)=fun m=>xs[i+m]? := rfl
  rw [e2] at this
  rw [this]
theorem getItem_tuple_cut {t sl:Addr} {items:Array Value} {vl vu:Value} {lo hi:Option Int} {Q:Value→Shared→Prop} (ht:IsTup s.heap t items) (hs:s.heap.IsSliceOf sl vl vu .none) (pl:IsPart vl lo) (pu:IsPart vu hi)
    (hw:¬(sIx items.size 0 lo=0∧sIx items.size items.size hi=items.size))
    (h:Q (.ref s.heap.objs.size) { s with heap:=s.heap.push { cls:=.type "tuple",data:=.seq ((items.toList.drop (sIx items.size 0 lo)).take (sIx items.size items.size hi-sIx items.size 0 lo)).toArray } })
    (hsz:items.size≤sizeLine):wpAny (model prog w) A (getItem (.ref t) (.ref sl)) Q E s:=by
  have htake:sizeOk (.seq ((items.toList.drop (sIx items.size 0 lo)).take (sIx items.size items.size hi-sIx items.size 0 lo)).toArray):=by
    show ((items.toList.drop (sIx items.size 0 lo)).take (sIx items.size items.size hi-sIx items.size 0 lo)).toArray.size≤sizeLine
    rw [List.size_toArray,List.length_take,List.length_drop,Array.length_toList]
    omega
  have hj:sIx items.size items.size hi≤items.size:=zDc _ _ (Nat.le_refl _) hi
  obtain ⟨os,hos,hcs,hds⟩:=id hs
  have hTs:s.TypeIs (.ref sl) "slice":=⟨os,hos,hcs⟩
  unfold getItem
  try with_reducible refine wpAny_holding ?_
  first | refine wpAny_bind (wpAny_pure ?_) | skip
  refine wpAny_bind (wpAny_sequenceKey ht.typeIs (by decide) ?_)
  refine wpAny_bind (wpAny_callSpecial?_slot (name:=Str.ofString "__getitem__") ht.typeIs PyProof.Rows.slot_tuple_getitem
    (wpAny_call_entry PyProof.Rows.slot_tuple_getitem ht.typeIs entry_tuple_getitem ?_ (args_tuple_getitem _ _)))
  show wpAny _ _ (Builtin.Tuple.tupleItemsOf (.ref t) >>= _) _ _ s
  refine wpAny_bind (tupleItemsOf_ ht ?_)
  refine wpAny_bind (wpAny_typeOf hTs ?_)
  rw [if_pos (by decide)]
  refine wpAny_bind (ze6 hs pl pu ?_)
  have hno:¬((((sIx items.size 0 lo:Nat):Int) == 0&&(1:Int) == 1&&(sIx items.size items.size hi-sIx items.size 0 lo) == items.size)=true):=by
    intro q
    rw [Bool.and_eq_true,Bool.and_eq_true] at q
    have q1:((sIx items.size 0 lo:Nat):Int)=0:=eq_of_beq q.1.1
    have q2:sIx items.size items.size hi-sIx items.size 0 lo=items.size:=eq_of_beq q.2
    exact hw ⟨by omega,by omega⟩
  show wpAny _ _ (if (((sIx items.size 0 lo:Nat):Int) == 0&&(1:Int) == 1&&(sIx items.size items.size hi-sIx items.size 0 lo) == items.size)=true then _ else _) _ _ s
  rw [if_neg hno,zyj]
  first
    | exact wpAny_bind (m:=Builtin.Tuple.tupleExact _) (wpAny_newObj_type (wpAny_pure ⟨_,rfl,wpAny_pure h⟩) htake)
    | exact wpAny_bind (m:=Builtin.Tuple.tupleExact _) (wpAny_newObj_type (wpAny_bind (wpAny_pure (wpAny_pure ⟨_,rfl,wpAny_pure h⟩))) htake)
    | exact wpAny_bind (wpAny_bind (m:=Builtin.Tuple.tupleExact _) (wpAny_newObj_type (wpAny_pure (wpAny_pure ⟨_,rfl,wpAny_pure h⟩)) htake))
    | exact wpAny_bind (wpAny_bind (m:=Builtin.Tuple.tupleExact _) (wpAny_newObj_type (wpAny_pure ⟨_,rfl,wpAny_pure h⟩) htake))
end
end HT
namespace L2
open PySem PySem.Spec PyProof.Rows
abbrev TO:=St→Hp→(Option Int→Hp→Prop)→Prop
def PO (X:Cx) (e:Option Expr) (t:TO):Prop:=
  ∀ (pins:List (Addr×Obj)) (s:Shared) (σ:St) (H:Hp) (Q:Option Int→Hp→Prop),Inv X pins σ H s→t σ H Q→
    wpAny (model X.prog X.w) X.A (evalPart e X.env) (fun u s'=>∃ o H',Inv X pins σ H' s'∧IsPart u o∧Q o H') X.xe s
def zBm:TO:=fun _ H Q=>Q none H
def zwp (t:TE):TO:=fun σ H Q=>t σ H fun x H1=>G1 (fun i=>x = .int i) fun i=>Q (some i) H1
section
variable {X:Cx} {e:Expr} {te:TE} {lo hi:Option Expr} {tl th:TO} {pos p2:Pos}
theorem zvv:PO X none zBm:=by
  intro pins s σ H Q I h
  rw [evalPart_none]
  exact wpAny_pure ⟨none,H,I, .none,h⟩
theorem zfo (h:PE X e te):PO X (some e) (zwp te):=by
  intro pins s σ H Q I hw
  rw [evalPart_some]
  refine thn (h pins s σ H _ I hw) fun u s1 ⟨x,H1,I1,r1,q1⟩=>?_
  obtain ⟨i,rfl,q⟩:=q1
  obtain ⟨t,rfl⟩:=r1
  exact ⟨some i,H1,I1, .int i t,q⟩
def SlR (X:Cx) (r:V→Option Int→Option Int→Hp→VK→Prop):Prop:=
  ∀ (pins:List (Addr×Obj)) (s:Shared) (σ:St) (H:Hp) (x:V) (v vl vu:Value) (lo hi:Option Int) (sl:Addr) (Q:VK),Inv X pins σ H s→RelV x v→s.heap.IsSliceOf sl vl vu .none→IsPart vl lo→IsPart vu hi→r x lo hi H Q→
    ∃ T id,typeLookup (.type T) "__getitem__"=pure (some (.builtin id))∧s.TypeIs v T∧wpAny (model X.prog X.w) X.A (getItem v (.ref sl)) (EP X pins σ Q) X.xe s
def tSl (r:V→Option Int→Option Int→Hp→VK→Prop) (te:TE) (tl th:TO):TE:=fun σ H Q=>te σ H fun x H1=>tl σ H1 fun l H2=>th σ H2 fun u H3=>r x l u H3 Q
theorem zhu {r:V→Option Int→Option Int→Hp→VK→Prop} (hr:SlR X r) (he:PE X e te) (hl:PO X lo tl) (hu:PO X hi th):PE X (.Subscript e (.Slice lo hi none p2) pos) (tSl r te tl th):=by
  intro pins s σ H Q I h
  refine Subscript_ (thn (he pins s σ H _ I h) fun v s1 ⟨x,H1,I1,r1,q1⟩=>?_)
  refine wpAny_Slice (thn (hl pins s1 σ H1 _ I1 q1) fun vl s2 ⟨l,H2,I2,pl,q2⟩=>thn (hu pins s2 σ H2 _ I2 q2) fun vu s3 ⟨u,H3,I3,pu,q3⟩=>?_)
  rw [evalPart_none]
  refine wpAny_pure ?_
  have I4:Inv X pins σ H3 { s3 with heap:=s3.heap.push { cls:=.type "slice",data:=.fields #[vl,vu, .none] } }:=I3.kept (t':=s3.toks) fun b ob q=>Heap.get?_push_of_some _ q
  obtain ⟨T,id,hT,ht,hg⟩:=hr pins { s3 with heap:=s3.heap.push { cls:=.type "slice",data:=.fields #[vl,vu, .none] } } σ H3 x v vl vu l u s3.heap.objs.size Q I4 r1 (Heap.IsSliceOf.new ..) pl pu q3
  show wpAny (model X.prog X.w) X.A (subscriptTail e (.Slice lo hi none p2) v (.ref s3.heap.objs.size)) (EP X pins σ Q) X.xe { s3 with heap:=s3.heap.push { cls:=.type "slice",data:=.fields #[vl,vu, .none] } }
  exact tail_any (ops:=[.ref s3.heap.objs.size,v]) ht hT hg (by with_unfolding_all rfl)
def cutV (xs:List V) (lo hi:Option Int):List V:=(xs.drop (HT.sIx xs.length 0 lo)).take (HT.sIx xs.length xs.length hi-HT.sIx xs.length 0 lo)
theorem zj9 (xs:List V) (lo hi:Option Int):(cutV xs lo hi).length≤xs.length:=by
  unfold cutV
  rw [List.length_take,List.length_drop]
  omega
def rSlT (K:W.Frag):V→Option Int→Option Int→Hp→VK→Prop:=fun x lo hi H Q=>E2 fun a xs=>A4 (x = .ref a) (SqT K H a xs) (¬(HT.sIx xs.length 0 lo=0∧HT.sIx xs.length xs.length hi=xs.length)) (∀ p,H p=none→Q (.ref p) (upd H p (.tup (cutV xs lo hi))))
theorem zDd:SlR X (rSlT X.K):=by
  intro pins s σ H x v vl vu lo hi sl Q I rx hs pl pu h
  obtain ⟨a,xs,rfl,hx,hw,q⟩:=h
  cases rx
  obtain ⟨its,r,ht,hz⟩:=I.tuple hx
  have hlen:its.toArray.size=xs.length:=by rw [List.size_toArray];exact r.length.symm
  refine ⟨"tuple",_,PyProof.Rows.slot_tuple_getitem.lookup,ht.typeIs,?_⟩
  refine HT.getItem_tuple_cut ht hs pl pu (by rw [hlen];exact hw) ?_ (by rw [hlen];exact hz)
  rw [hlen]
  refine ⟨.ref s.heap.objs.size,_,I.laid (t':=s.toks) (o:=.tup (cutV xs lo hi)) (fun b ob q=>Heap.get?_push_of_some _ q) (Nat.le_refl _) ?_,rfl,q _ (I.hok.fresh (Nat.le_refl _))⟩
  exact ⟨Nat.le_trans (zj9 xs lo hi) hz,_,(r.drop (HT.sIx xs.length 0 lo)).take (HT.sIx xs.length xs.length hi-HT.sIx xs.length 0 lo),IsTup.new _ _⟩
end
end L2
namespace L2
open PySem PySem.Spec PyProof.Rows
def ixN (n:Nat) (i:Int):Option Nat:=if 0≤i then (if i<n then some i.toNat else none) else if -(n:Int)≤i then some (i+n).toNat else none
def atI {α:Type} (xs:List α) (i:Int):Option α:=(ixN xs.length i).bind fun j=>xs[j]?
theorem zAc {n:Nat} {i:Int} {j:Nat} (h:ixN n i=some j):seqIndex? i n=some j∧j<n∧-(n:Int)≤i∧i<n:=by
  unfold ixN at h
  by_cases h0:0≤i
  · rw [if_pos h0] at h
    by_cases h1:i<n
    · rw [if_pos h1] at h
      have e:i.toNat=j:=Option.some.inj h
      exact ⟨by rw [seqIndex_of h0 h1,e],by omega,by omega,h1⟩
    · rw [if_neg h1] at h;cases h
  · rw [if_neg h0] at h
    by_cases h1 : -(n:Int)≤i
    · rw [if_pos h1] at h
      have e:(i+n).toNat=j:=Option.some.inj h
      exact ⟨by rw [seqIndex_neg (by omega) h1,e],by omega,h1,by omega⟩
    · rw [if_neg h1] at h;cases h
theorem zt1 {α:Type} {xs:List α} {i:Int} {v:α} (h:atI xs i=some v):∃ j,seqIndex? i xs.length=some j∧xs[j]? = some v∧j<xs.length∧-(xs.length:Int)≤i∧i<xs.length:=by
  unfold atI at h
  cases e:ixN xs.length i with
  | none=>rw [e] at h;cases h
  | some j=>
    rw [e] at h
    obtain ⟨h1,h2,h3,h4⟩:=zAc e
    exact ⟨j,h1,h,h2,h3,h4⟩
theorem zh4 {α:Type} {xs:List α} {j:Nat} {v:α} (h:xs[j]? = some v):atI xs (j:Int)=some v:=by
  have hj:j<xs.length:=(List.getElem?_eq_some_iff.mp h).1
  have e:ixN xs.length (j:Int)=some j:=by
    unfold ixN
    rw [if_pos (by omega),if_pos (by omega)];simp
  unfold atI;rw [e];exact h
def zzu (b:Expr):Prop:=∀ o i,subscripted b false o i=operate [o,i] (getItem o i)
def IxR (X:Cx) (r:R2):Prop:=
  ∀ (value slice:Expr) (pins:List (Addr×Obj)) (s:Shared) (σ:St) (H:Hp) (x y:V) (v u:Value) (Q:VK),Inv X pins σ H s→RelV x v→RelV y u→r x y H Q→
    subscripted slice false v u=operate [v,u] (getItem v u)→wpAny (model X.prog X.w) X.A (subscriptTail value slice v u) (EP X pins σ Q) X.xe s
def MtR (X:Cx) (id:String) (r:V→List V→Hp→VK→Prop):Prop:=
  ∀ (pins:List (Addr×Obj)) (s:Shared) (σ:St) (H:Hp) (x:V) (xs:List V) (v:Value) (us:List Value) (Q:VK),Inv X pins σ H s→RelV x v→Vals xs us→r x xs H Q→
    wpAny (model X.prog X.w) X.A (call (.builtin id) (v :: us)) (EP X pins σ Q) X.xe s
section
variable {X:Cx} {a b:Expr} {ta tb:TE} {pos:Pos}
theorem zdy {r:R2} (hr:IxR X r) (ha:PE X a ta) (hb:PE X b tb) (hs:zzu b):PE X (.Subscript a b pos) (tOp r ta tb):=by
  intro pins s σ H Q I h
  exact Subscript_ (binT ha hb I h fun v u s2 x y H2 I2 rx ry q=>hr a b pins s2 σ H2 x y v u Q I2 rx ry q (hs _ _))
def rIxL (K:W.Frag):R2:=fun x y H Q=>E4 fun p xs i v=>A5 (x = .ref p) (y = .int i) (SqL K H p xs) (atI xs i=some v) (Q v H)
def rIxT (K:W.Frag):R2:=fun x y H Q=>E4 fun p xs i v=>A5 (x = .ref p) (y = .int i) (SqT K H p xs) (atI xs i=some v) (Q v H)
theorem zbu:IxR X (rIxL X.K):=by
  intro value slice pins s σ H x y v u Q I rx ry h hs
  obtain ⟨p,xs,i,z,rfl,rfl,hq,he,q⟩:=h
  cases rx
  obtain ⟨t,rfl⟩:=ry
  obtain ⟨its,r,pl,hz⟩:=I.list hq
  obtain ⟨j,h1,h2,h3,h4,h5⟩:=zt1 he
  obtain ⟨w,ew,rw'⟩:=r.get h2
  have hl:=r.length
  have hn:=zu2
  have fin:EP X pins σ Q w s:=⟨z,H,I,rw',q⟩
  by_cases h0:0≤i
  · have hj:i.toNat=j:=by
      rw [seqIndex_of h0 h5] at h1
      exact Option.some.inj h1
    exact item_listR pl.isList h0 (by omega) (by rw [hj];simpa using ew) fin hs
  · have hj:(i+(its.toArray.size:Int)).toNat=j:=by
      rw [seqIndex_neg (by omega) h4] at h1
      rw [List.size_toArray,← hl]
      exact Option.some.inj h1
    exact subscriptTail_builtinR (x:=w) pl.isList.typeIs slot_list_getitem.lookup
      (wpAny_getItem_list_neg (Q:=fun r s'=>r=w∧EP X pins σ Q r s') pl.isList (by omega) (by rw [List.size_toArray]<;>omega) (by omega) (by rw [hj];simpa using ew) ⟨rfl,fin⟩) hs
theorem zzc:IxR X (rIxT X.K):=by
  intro value slice pins s σ H x y v u Q I rx ry h hs
  obtain ⟨p,xs,i,z,rfl,rfl,hq,he,q⟩:=h
  cases rx
  obtain ⟨t,rfl⟩:=ry
  obtain ⟨its,r,pl,hz⟩:=I.tuple hq
  obtain ⟨j,h1,h2,h3,h4,h5⟩:=zt1 he
  obtain ⟨w,ew,rw'⟩:=r.get h2
  have hl:=r.length
  have hn:=zu2
  have fin:EP X pins σ Q w s:=⟨z,H,I,rw',q⟩
  exact subscriptTail_builtinR (x:=w) pl.typeIs slot_tuple_getitem.lookup
    (getItem_tuple (j:=j) (Q:=fun r s'=>r=w∧EP X pins σ Q r s') pl (by omega) (by omega) (by rw [List.size_toArray,← hl];exact h1) (by simpa using ew) ⟨rfl,fin⟩) hs
theorem zph (lo hi:Option Int) (n:Nat):(sliceBounds lo hi none n).1=((HT.sIx n 0 lo:Nat):Int)∧(sliceBounds lo hi none n).2.1=((HT.sIx n n hi:Nat):Int)∧(sliceBounds lo hi none n).2.2=1:=by
  refine ⟨?_,?_,rfl⟩
  · cases lo with
    | none=>simp [sliceBounds,HT.sIx]
    | some i=>
      simp only [sliceBounds,HT.sIx,Option.getD_none,show (1:Int) > 0 by decide,if_true]
      by_cases h:i<0
      · simp only [h,if_true]<;>omega
      · simp only [h,if_false]<;>omega
  · cases hi with
    | none=>simp [sliceBounds,HT.sIx]
    | some i=>
      simp only [sliceBounds,HT.sIx,Option.getD_none,show (1:Int) > 0 by decide,if_true]
      by_cases h:i<0
      · simp only [h,if_true]<;>omega
      · simp only [h,if_false]<;>omega
theorem zne (its:List Value) (lo hi:Option Int):slicePick its.toArray lo hi none=((its.drop (HT.sIx its.length 0 lo)).take (HT.sIx its.length its.length hi-HT.sIx its.length 0 lo)).toArray:=by
  obtain ⟨h1,h2,h3⟩:=zph lo hi its.toArray.size
  unfold slicePick
  rw [h1,h2,h3]
  simp only [sliceRange_one,pick_run,List.size_toArray]<;>rfl
def rSlL (K:W.Frag):V→Option Int→Option Int→Hp→VK→Prop:=fun x lo hi H Q=>E2 fun a xs=>A3 (x = .ref a) (SqL K H a xs) (∀ p,H p=none→Q (.ref p) (upd H p (.lst (cutV xs lo hi))))
theorem znd:SlR X (rSlL X.K):=by
  intro pins s σ H x v vl vu lo hi sl Q I rx hs pl pu h
  obtain ⟨a,xs,rfl,hx,q⟩:=h
  cases rx
  obtain ⟨its,r,ht,hz⟩:=I.list hx
  have hlen:=r.length
  refine ⟨"list",_,slot_list_getitem.lookup,ht.isList.typeIs,?_⟩
  refine wpAny_getItem_list_slice ht.isList hs pl pu .none (by simp) ?_ (by rw [List.size_toArray]<;>omega)
  rw [zne,← hlen]
  refine ⟨.ref s.heap.objs.size,_,I.laid (t':=s.toks) (o:=.lst (cutV xs lo hi)) (fun b ob q=>Heap.get?_push_of_some _ q) (Nat.le_refl _) ?_,rfl,q _ (I.hok.fresh (Nat.le_refl _))⟩
  exact ⟨Nat.le_trans (zj9 xs lo hi) hz,_,0,(r.drop (HT.sIx xs.length 0 lo)).take (HT.sIx xs.length xs.length hi-HT.sIx xs.length 0 lo),Heap.get?_push_size _ rfl⟩
def zmi:V→Bool
  | .non=>true
  | .bl _=>true
  | .int _=>true
  | .str _=>true
  | _=>false
def eqV:V→V→Bool
  | .non, .non=>true
  | .bl a, .bl b=>a == b
  | .bl a, .int b=>(if a then 1 else 0) == b
  | .int a, .bl b=>a == (if b then 1 else 0)
  | .int a, .int b=>a == b
  | .str a, .str b=>a == b
  | _,_=>false
theorem zCf {A:Around} {s:Shared} {y x:V} {u v:Value} (ry:RelV y u) (rx:RelV x v) (fy:zmi y=true) (fx:zmi x=true):SeqAt.EqAt A s u v (eqV y x):=by
  cases y with
  | non=>
    cases ry
    cases x with
    | non=>cases rx;exact SeqAt.EqAt.same _
    | bl b=>cases rx;exact SeqAt.EqAt.none_bool b
    | int b=>obtain ⟨t,rfl⟩:=rx;exact SeqAt.EqAt.none_int b t
    | str b=>obtain ⟨t,rfl⟩:=rx;exact SeqAt.EqAt.none_str b t
    | _=>exact absurd (show false=true from fx) Bool.false_ne_true
  | bl a=>
    cases ry
    cases x with
    | non=>cases rx;exact SeqAt.EqAt.bool_none a
    | bl b=>cases rx;exact SeqAt.EqAt.bool_bool a b
    | int b=>obtain ⟨t,rfl⟩:=rx;exact SeqAt.EqAt.bool_int a b t
    | str b=>obtain ⟨t,rfl⟩:=rx;exact SeqAt.EqAt.bool_str a b t
    | _=>exact absurd (show false=true from fx) Bool.false_ne_true
  | int a=>
    obtain ⟨t',rfl⟩:=ry
    cases x with
    | non=>cases rx;exact SeqAt.EqAt.int_none a t'
    | bl b=>cases rx;exact SeqAt.EqAt.int_bool a t' b
    | int b=>obtain ⟨t,rfl⟩:=rx;exact SeqAt.EqAt.int_int a t' b t
    | str b=>obtain ⟨t,rfl⟩:=rx;exact SeqAt.EqAt.int_str a t' b t
    | _=>exact absurd (show false=true from fx) Bool.false_ne_true
  | str a=>
    obtain ⟨t',rfl⟩:=ry
    cases x with
    | non=>cases rx;exact SeqAt.EqAt.str_none a t'
    | bl b=>cases rx;exact SeqAt.EqAt.str_bool a t' b
    | int b=>obtain ⟨t,rfl⟩:=rx;exact SeqAt.EqAt.str_int a t' b t
    | str b=>obtain ⟨t,rfl⟩:=rx;exact SeqAt.EqAt.str_str a t' b t
    | _=>exact absurd (show false=true from fx) Bool.false_ne_true
  | _=>exact absurd (show false=true from fy) Bool.false_ne_true
def eqU (x:V) (u:Value):Bool:=match u with
  | .none=>eqV .non x
  | .bool b=>eqV (.bl b) x
  | .int i _=>eqV (.int i) x
  | .str z _=>eqV (.str z) x
  | _=>false
theorem zuk {x y:V} {u:Value} (r:RelV y u) (f:zmi y=true):eqU x u=eqV y x:=by
  cases y with
  | non=>cases r;rfl
  | bl b=>cases r;rfl
  | int i=>obtain ⟨t,rfl⟩:=r;rfl
  | str z=>obtain ⟨t,rfl⟩:=r;rfl
  | _=>exact absurd (show false=true from f) Bool.false_ne_true
theorem zr0 {A:Around} {s:Shared} {x:V} {v:Value} (rx:RelV x v) (fx:zmi x=true):∀ {xs:List V} {us:List Value},Vals xs us→xs.all zmi=true→∀ u∈us,SeqAt.EqAt A s u v (eqU x u)
  | _,_, .nil,_=>fun u hu=>by cases hu
  | y :: xs,u :: us, .cons r t,f=>fun u' hu=>by
    rw [List.all_cons,Bool.and_eq_true] at f
    rcases List.mem_cons.mp hu with rfl | hu
    · rw [zuk r f.1];exact zCf r rx f.1 fx
    · exact zr0 rx fx t f.2 u' hu
theorem zav:znu X (.builtin "len") (fun xs H Q=>∃ p ys,xs=[.ref p]∧(SqL X.K H p ys∨SqT X.K H p ys)∧Q (.int ys.length) H):=by
  intro pins s σ H xs us Q I r h
  obtain ⟨p,ys,rfl,hq,q⟩:=h
  obtain ⟨u,rfl,rx⟩:=ztr r
  cases rx
  have hn:=zu2
  rcases hq with hq | hq
  · obtain ⟨its,r',pl,hz⟩:=I.list hq
    have hlen:=r'.length
    exact Calls.call_len_list pl.isList (by simp only [List.size_toArray]<;>omega) ⟨.int ys.length,H,I.tok _,⟨s.toks+1,by rw [List.size_toArray,hlen]⟩,q⟩
  · obtain ⟨its,r',pl,hz⟩:=I.tuple hq
    have hlen:=r'.length
    exact len_tuple pl (by simp only [List.size_toArray]<;>omega) ⟨.int ys.length,H,I.tok _,⟨s.toks+1,by rw [List.size_toArray,hlen]⟩,q⟩
theorem zhe:znu X (.type "tuple") (fun xs H Q=>∃ p ys,xs=[.ref p]∧((SqL X.K H p ys∧∀ l,H l=none→Q (.ref l) (upd H l (.tup ys)))∨(SqT X.K H p ys∧Q (.ref p) H))):=by
  intro pins s σ H xs us Q I r h
  obtain ⟨p,ys,rfl,h⟩:=h
  obtain ⟨u,rfl,rx⟩:=ztr r
  cases rx
  rcases h with ⟨hq,q⟩ | ⟨hq,q⟩
  · obtain ⟨its,r',pl,hz⟩:=I.list hq
    have hlen:=r'.length
    refine call_tuple_list pl.isList (fun h' kp=>?_) (by simp only [List.size_toArray]<;>omega)
    have I1:Inv X pins σ H { s with heap:=h' }:=I.kept (t':=s.toks) kp
    have I2:Inv X pins σ (upd H h'.objs.size (.tup ys)) { s with heap:=h'.push { cls:=.type "tuple",data:=.seq its.toArray } }:=
      I1.laid (t':=s.toks) (fun b o e=>Heap.get?_push_of_some _ e) (Nat.le_refl _) (show ObjOk X.prog X.w _ _ _ (.tup ys) from ⟨hz,its,r',IsTup.new _ _⟩)
    exact ⟨.ref h'.objs.size,_,I2,rfl,q _ (I1.hok.fresh (Nat.le_refl _))⟩
  · obtain ⟨its,r',pl,hz⟩:=I.tuple hq
    exact call_tuple_same pl ⟨.ref p,H,I,rfl,q⟩
def tyV (K:W.Frag) (T:String) (x:V) (H:Hp):Prop:=match x with
  | .str _=>T="str"
  | .int _=>T="int"
  | .ref p=>(T="list"∧∃ xs,SqL K H p xs)∨(T="tuple"∧∃ o,K.lookup p=some o∧o.cls = .type "tuple"∧o.dict=none)∨
      (T="dict"∧((∃ kvs,H p=some (.dK kvs))∨∃ kvs,H p=some (.dT kvs)))∨(T="set"∧∃ S n,H p=some (.set S n))
  | _=>False
theorem zDp {pins:List (Addr×Obj)} {σ:St} {H:Hp} {s:Shared} {T:String} {x:V} {v:Value} (I:Inv X pins σ H s) (r:RelV x v) (ty:tyV X.K T x H) :
    s.TypeIs v T∧∀ a,v = .ref a→∃ ob,s.heap.get? a=some ob∧ob.dict=none:=by
  cases x with
  | str z=>
    obtain ⟨t,rfl⟩:=r
    cases (show T="str" from ty)
    exact ⟨typeIs_str s z t,fun _ e=>nomatch e⟩
  | int i=>
    obtain ⟨t,rfl⟩:=r
    cases (show T="int" from ty)
    exact ⟨typeIs_int s i t,fun _ e=>nomatch e⟩
  | ref p=>
    cases r
    rcases ty with ⟨rfl,xs,hq⟩ | ⟨rfl,o,hk,hc,hd⟩ | ⟨rfl,hk⟩ | ⟨rfl,S,n,hk⟩
    · obtain ⟨its,_,pl,_⟩:=I.list hq
      refine ⟨pl.isList.typeIs,fun a e=>?_⟩
      cases e
      obtain ⟨o,n,e,c,hd,_⟩:=pl
      exact ⟨o,e,hd⟩
    · refine ⟨⟨o,I.kIn p o hk,hc⟩,fun a e=>?_⟩
      cases e
      exact ⟨o,I.kIn _ o hk,hd⟩
    · have z:∃ o,s.heap.get? p=some o∧o.ExactDict:=by
        rcases hk with ⟨kvs,hk⟩ | ⟨kvs,hk⟩
        · obtain ⟨_,_,_,_,o,_,_,e,ex,_⟩:=I.hok p _ hk
          exact ⟨o,e,ex⟩
        · obtain ⟨_,_,_,_,o,_,_,e,ex,_⟩:=I.hok p _ hk
          exact ⟨o,e,ex⟩
      obtain ⟨o,e,ex⟩:=z
      refine ⟨⟨o,e,ex.1⟩,fun a e2=>?_⟩
      cases e2
      exact ⟨o,e,ex.2.1⟩
    · obtain ⟨o,_,_,_,e,ex,_⟩:=I.hok p _ hk
      refine ⟨⟨o,e,ex.1⟩,fun a e2=>?_⟩
      cases e2
      exact ⟨o,e,ex.2.1⟩
  | _=>exact False.elim ty
def tBM (K:W.Frag) (T:String) (r:V→List V→Hp→VK→Prop) (to:TE) (t:TA):TE:=fun σ H Q=>to σ H fun x H1=>tyV K T x H1∧t σ H1 fun xs H2=>r x xs H2 Q
variable {o e:Expr} {es:List Expr} {to:TE} {t:TA} {name:Str} {apos cpos:Pos} {T id:String} {r:V→List V→Hp→VK→Prop}
theorem zte (pa:PlainAttrs T) (slot:Slot T name id) (hty:typeOf (.builtin id)=pure (.type "method_descriptor")) (hm:MtR X id r) (ho:PE X o to) (ha:PA X (e :: es) t)
    (hbase:attributeBase o name X.env (eval o X.env)=eval o X.env:=by rfl)
    (hfew:((backTo cpos (starEach (e :: es) X.env)).all (fun x=>!x.1)&&(backToKw cpos (keywordEach [] X.env)).all (fun x=>x.1.isSome)
      && decide ((e :: es).length+([]:List Keyword).length+(if ([]:List Keyword).isEmpty then 0 else 1)<30))=true:=by rfl)
    (hline:(apos.endLine == cpos.line)=true:=by rfl) (hs:starEach (e :: es) X.env=(false,eval e X.env) :: starEach es X.env:=by rfl) (hplain:(backTo cpos (starEach es X.env)).any (·.1)=false:=by rfl) :
    PE X (.Call (.Attribute o name apos) (e :: es) [] cpos) (tBM X.K T r to t):=by
  intro pins s σ H Q I h
  refine wpAny_Call_method_late hbase hfew hline rfl (thn (ho pins s σ H _ I h) fun v s1 ⟨x,H1,I1,r1,ty,q1⟩=>?_)
  obtain ⟨h1,h2⟩:=zDp I1 r1 ty
  refine ⟨T,id,pa,slot,hty,h1,h2,?_⟩
  have hA:=ha cpos pins s1 σ H1 _ I1 q1
  rw [hs] at hA ⊢
  refine Calls.callWith_builtin (by show (false || (backTo cpos (starEach es X.env)).any (·.1))=false;rw [hplain]<;>rfl) (Calls.evalArgs_plain ?_)
  exact thn hA fun us s2 ⟨vs,H2,I2,r2,q2⟩=>hm pins s2 σ H2 x vs v us Q I2 r1 r2 q2
end
end L2
namespace L2
open PySem PySem.Spec PyProof.Rows
def MtM (X:Cx) (id:String) (r:V→List V→Hp→VK→Prop):Prop:=
  ∀ (pins:List (Addr×Obj)) (s:Shared) (σ:St) (H:Hp) (x:V) (xs:List V) (v:Value) (us:List Value) (Q:VK),Inv X pins σ H s→RelV x v→Vals xs us→r x xs H Q→
    wpAny (model X.prog X.w) X.A (call (.builtin id) (v :: us)) (EP X pins σ Q) X.xe s
theorem Vals.one:∀ {x:V} {us:List Value},Vals [x] us→∃ u,us=[u]∧RelV x u
  | _,_, .cons r .nil=>⟨_,rfl,r⟩
section
variable {X:Cx} {pins:List (Addr×Obj)} {σ:St} {H:Hp} {s:Shared} {l b:Addr} {xs ys zs:List V}
theorem Inv.lset {its its':List Value} {n:Nat} {f:Array Value→Array Value} {t':Nat} (I:Inv X pins σ H s) (hH:H l=some (.lst xs))
    (e:s.heap.get? l=some { cls:=.type "list",data:=.seq its.toArray n }) (hf:f its.toArray=its'.toArray) (hv:Vals ys its') (hz:ys.length≤sizeLine) :
    Inv X pins σ (upd H l (.lst ys)) { s with heap:=s.heap.update l (Obj.mapSeq f),toks:=t' }:=by
  have q:=PySem.IsL.update e f
  rw [hf] at q
  refine I.write (x:=l) (e:=l) (by rw [hH];exact trivial) (.inl rfl) (fun b' u hb hu=>(Heap.get?_update_other s.heap (Obj.mapSeq f) (Ne.symm hb)).trans hu) ⟨_,q⟩ ?_
  exact ⟨hz,its',_,hv,q⟩
theorem Inv.lnew {its:List Value} {t':Nat} (I:Inv X pins σ H s) (hv:Vals ys its) (hz:ys.length≤sizeLine) :
    Inv X pins σ (upd H s.heap.objs.size (.lst ys)) { s with heap:=s.heap.push { cls:=.type "list",data:=.seq its.toArray },toks:=t' }:=
  I.laid (fun _ _ q=>Heap.get?_push_of_some _ q) (Nat.le_refl _) ⟨hz,its,0,hv,Heap.get?_push_size _ rfl⟩
theorem Inv.fresh (I:Inv X pins σ H s):H s.heap.objs.size=none:=I.hok.fresh (Nat.le_refl _)
theorem Inv.lstM (I:Inv X pins σ H s) (hH:H l=some (.lst xs)):xs.length≤sizeLine∧∃ (its:List Value) (n:Nat),Vals xs its∧xs.length=its.length∧s.heap.get? l=some { cls:=.type "list",data:=.seq its.toArray n }:=by
  obtain ⟨z,its,n,r,e⟩:=I.hok l _ hH
  exact ⟨z,its,n,r,r.length,e⟩
theorem zx7 {n:Nat} (h:n≤sizeLine):Builtin.List.listTooLong n=false:=by
  unfold Builtin.List.listTooLong
  exact decide_eq_false (by omega)
end
section
variable {X:Cx}
def zqr:V→List V→Hp→VK→Prop:=fun x vs H Q=>E3 fun l xs y=>A5 (x = .ref l) (vs=[y]) (H l=some (.lst xs)) (xs.length<sizeLine) (Q .non (upd H l (.lst (xs++[y]))))
theorem zhk:MtM X "list.append" zqr:=by
  intro pins s σ H x vs v us Q I rx rv h
  obtain ⟨l,xs,y,rfl,rfl,hH,hz,q⟩:=h
  cases rx
  obtain ⟨u,rfl,ru⟩:=rv.one
  obtain ⟨z,its,n,r,hl,e⟩:=I.lstM hH
  refine call_meets F.slot_list_append ⟨_,e,rfl⟩ F.entry_list_append (F.args_list_append_2 _ _) (PySem.list_append l its.toArray n u (by rw [List.size_toArray];omega)) ⟨e,?_⟩
  refine ⟨.non,_,I.lset (its':=its++[u]) hH e (by simp) (r.append (.cons ru .nil)) ?_,rfl,q⟩
  rw [List.length_append,List.length_singleton]
  omega
def zA4:V→List V→Hp→VK→Prop:=fun x vs H Q=>E4 fun l b xs zs=>A6 (x = .ref l) (vs=[.ref b]) (H l=some (.lst xs)) (H b=some (.lst zs)) (xs.length+zs.length≤sizeLine) (Q .non (upd H l (.lst (xs++zs))))
theorem zvb:MtM X "list.extend" zA4:=by
  intro pins s σ H x vs v us Q I rx rv h
  obtain ⟨l,b,xs,zs,rfl,rfl,hH,hB,hz,q⟩:=h
  cases rx
  obtain ⟨u,rfl,ru⟩:=rv.one
  cases ru
  obtain ⟨z,its,n,r,hl,e⟩:=I.lstM hH
  obtain ⟨z2,its2,n2,r2,hl2,e2⟩:=I.lstM hB
  have hsz:its.toArray.size+its2.toArray.size≤sizeLine:=by rw [List.size_toArray,List.size_toArray];omega
  have hlong:¬(!its.toArray.isEmpty&&Builtin.List.listTooLong (its.toArray.size+its2.toArray.size))=true:=by
    rw [zx7 hsz,Bool.and_false]
    exact Bool.false_ne_true
  refine call_meets F.slot_list_extend ⟨_,e,rfl⟩ F.entry_list_extend (F.args_list_extend_2 _ _)
    (AutoSeq1.list_extend_list_list_0 l its.toArray n b its2.toArray n2 hlong (by rw [List.size_toArray];omega) (by omega)) ⟨e,e2,?_⟩
  refine ⟨.non,_,I.lset (its':=its++its2) hH e (by simp) (r.append r2) ?_,rfl,q⟩
  rw [List.length_append]
  omega
def rCat:R2:=fun x y H Q=>E4 fun l b xs zs=>A6 (x = .ref l) (y = .ref b) (H l=some (.lst xs)) (H b=some (.lst zs)) (xs.length+zs.length≤sizeLine) (∀ p,H p=none→Q (.ref p) (upd H p (.lst (xs++zs))))
theorem zzj:OpR X (binaryOp .Add) rCat:=by
  intro pins s σ H x y v u Q I rx ry h
  obtain ⟨l,b,xs,zs,rfl,rfl,hH,hB,hz,q⟩:=h
  cases rx
  cases ry
  obtain ⟨z,its,n,r,hl,e⟩:=I.lstM hH
  obtain ⟨z2,its2,n2,r2,hl2,e2⟩:=I.lstM hB
  refine PySem.P.add_list e e2 ?_ (by rw [List.size_toArray,List.size_toArray];omega)
  have ea:its.toArray++its2.toArray=(its++its2).toArray:=by simp
  rw [ea]
  exact ⟨.ref _,_,I.lnew (t':=s.toks) (r.append r2) (by rw [List.length_append];omega),rfl,q _ I.fresh⟩
end
section
variable {prog:Program} {w:World} {A:Around} {E:Value→Shared→Prop} {s:Shared}
set_option maxRecDepth 100000 in
end
section
variable {X:Cx}
end
end L2
namespace L2
open PySem PySem.Spec PyProof.Rows
theorem Vals.bls:∀ {bs:List Bool} {us:List Value},Vals (bs.map V.bl) us→us=bs.map Value.bool
  | [],us,h=>by
    rw [List.map_nil] at h
    cases h
    rfl
  | b :: bs,us,h=>by
    rw [List.map_cons] at h
    cases h with
    | cons r t=>
      cases r
      rw [Vals.bls t,List.map_cons]
theorem Vals.ref1 {a:Addr} {us:List Value} (r:Vals [V.ref a] us):us=[Value.ref a]:=by
  cases r with
  | cons r t=>
    cases t
    cases r
    rfl
section
variable {prog:Program} {w:World} {A:Around} {E:Value→Shared→Prop} {s:Shared} {l:Addr} {its:List Value} {ns:List Int} {Q:Value→Shared→Prop}
end
section
variable {X:Cx}
end
section
variable {X:Cx}
theorem zun {ys:List V} (f:ys.all zmi=true) {j:Nat} {z:V} (h:ys[j]? = some z):zmi z=true:=List.all_eq_true.mp f z (List.mem_of_getElem? h)
end
section
variable {X:Cx}
end
theorem zxp {prog:Program} {w:World} {A:Around} {E:Value→Shared→Prop} {s:Shared} {l:Addr} {items:Array Value} {Q:Value→Shared→Prop} (hl:s.heap.IsList l items)
    (h:∀ s₂:Shared,s₂={ s with heap:=s.heap.push { cls:=.type "list_iterator",data:=.fields #[.ref l, .int 0 0] } }→
      (s₂.heap.IsListIter s.heap.objs.size l 0∧s₂.heap.IsList l items)→l≠s.heap.objs.size→Q (.ref s.heap.objs.size) s₂):wpAny (model prog w) A (pyIter (.ref l)) Q E s:=by
  have hlt:l<s.heap.objs.size:=by obtain ⟨_,e,_⟩:=hl;exact Heap.lt_size e
  exact wpAny_pyIter_list hl (h _ rfl ⟨⟨_,Heap.get?_push_size _ rfl,rfl,rfl⟩,hl.push _⟩ (Nat.ne_of_lt hlt))
theorem zq9 {prog:Program} {w:World} {A:Around} {bs:List Bool} {its:List Value} (e:its=bs.map Value.bool) :
    TruthOf prog w A (fun i v=>its.toArray[i]? = some v) (fun i=>bs.getD i false):=fun i v s Q E hv hq=>by
  have hv':its[i]? = some v:=by simpa using hv
  rw [e,List.getElem?_map] at hv'
  obtain ⟨b,hb,rfl⟩:=Option.map_eq_some_iff.mp hv'
  have hg:bs.getD i false=b:=by rw [List.getD_eq_getElem?_getD,hb]<;>rfl
  have hq':Q (bs.getD i false) s:=hq
  rw [hg] at hq'
  exact wpAny_truthy_bool hq'
theorem znv:∀ bs:List Bool,(List.range bs.length).all (fun i=>bs.getD i false)=bs.all id
  | []=>rfl
  | b :: bs=>by
    rw [List.length_cons,List.range_succ_eq_map,List.all_cons,List.all_map,List.all_cons,← znv bs]
    all_goals rfl
section
variable {X:Cx}
def rAll (K:W.Frag):List V→Hp→VK→Prop:=fun vs H Q=>E2 fun (a:Addr) (bs:List Bool)=>A3 (vs=[V.ref a]) (SqL K H a (bs.map V.bl)) (Q (.bl (bs.all id)) H)
theorem zud (hc:X.calm=true):znu X (.builtin "all") (rAll X.K):=by
  intro pins s σ H vs us Q I r h
  obtain ⟨a,bs,rfl,hs,q⟩:=h
  obtain ⟨its,rv,hl,_⟩:=I.list hs
  rw [Vals.ref1 r]
  have hb:=rv.bls
  refine call_all_walk (zxp hl.isList fun s₂ e2 st hne=>?_)
  subst e2
  refine ⟨_,_,_,_,_,_,_,rfl,Walks.list (A:=X.A.in1) (I.ok.hd hc) _ a hne its.toArray,st,zq9 hb,fun h' tk hk=>?_⟩
  refine ⟨.bl _,H,I.kept fun b o eo=>hk b o (fun hmem=>?_) (Heap.get?_push_of_some _ eo),?_,q⟩
  · rcases List.mem_cons.mp hmem with e1 | hmem
    · exact absurd (e1▸Heap.lt_size eo) (Nat.lt_irrefl _)
    · cases hmem
  · show Value.bool _=Value.bool _
    rw [← znv,hb,List.size_toArray,List.length_map]
end
mutual
inductive Dp (K:W.Frag) (H:Hp):V→PyData→Prop
  | non:Dp K H .non .none
  | bl (b:Bool):Dp K H (.bl b) (.bool b)
  | int (i:Int):Dp K H (.int i) (.int i)
  | str (x:Str):Dp K H (.str x) (.str x)
  | lst {a:Addr} {xs:List V} {ds:List PyData}:SqL K H a xs→zps K H xs ds→Dp K H (.ref a) (.list ds)
  | tup {a:Addr} {xs:List V} {ds:List PyData}:SqT K H a xs→zps K H xs ds→Dp K H (.ref a) (.tuple ds)
inductive zps (K:W.Frag) (H:Hp):List V→List PyData→Prop
  | nil:zps K H [] []
  | cons {v:V} {vs:List V} {d:PyData} {ds:List PyData}:Dp K H v d→zps K H vs ds→zps K H (v :: vs) (d :: ds)
end
section
variable {X:Cx} {pins:List (Addr×Obj)} {σ:St} {H:Hp} {s:Shared}
mutual
theorem Dp.reads (I:Inv X pins σ H s):∀ (d:PyData) (v:V) (u:Value),Dp X.K H v d→RelV v u→∃ as,Reads s.heap u d as
  | .none,_,_,h,r=>by
    cases h
    cases r
    exact ⟨_,Reads.none⟩
  | .bool b,_,_,h,r=>by
    cases h
    cases r
    exact ⟨_,Reads.bool b⟩
  | .int i,_,_,h,r=>by
    cases h
    obtain ⟨t,rfl⟩:=r
    exact ⟨_,Reads.int i t⟩
  | .str x,_,_,h,r=>by
    cases h
    obtain ⟨t,rfl⟩:=r
    exact ⟨_,Reads.str x t⟩
  | .list ds,_,_,h,r=>by
    cases h with
    | lst hs ha=>
      cases r
      obtain ⟨its,rv,⟨o,n,ho,hc,_,hd⟩,_⟩:=I.list hs
      obtain ⟨as,hr⟩:=Dp.readsAll I ds _ its ha rv
      exact ⟨_,Reads.list ho hc hd hr⟩
  | .tuple ds,_,_,h,r=>by
    cases h with
    | tup hs ha=>
      cases r
      obtain ⟨its,rv,⟨o,ho,hc,n,hd⟩,_⟩:=I.tuple hs
      obtain ⟨as,hr⟩:=Dp.readsAll I ds _ its ha rv
      exact ⟨_,Reads.tuple ho hc hd hr⟩
  | .dict _,_,_,h,_=>by cases h
theorem Dp.readsAll (I:Inv X pins σ H s):∀ (ds:List PyData) (vs:List V) (us:List Value),zps X.K H vs ds→Vals vs us→∃ as,ReadsAll s.heap us ds as
  | [],_,_,h,r=>by
    cases h
    cases r
    exact ⟨_,ReadsAll.nil⟩
  | d :: ds,_,_,h,r=>by
    cases h with
    | cons h1 h2=>
      cases r with
      | cons r1 r2=>
        obtain ⟨as,q1⟩:=Dp.reads I d _ _ h1 r1
        obtain ⟨bs,q2⟩:=Dp.readsAll I ds _ _ h2 r2
        exact ⟨_,ReadsAll.cons q1 q2⟩
end
end
section
variable {X:Cx}
def rEqD (K:W.Frag):R2:=fun x y H Q=>E2 fun d e=>A5 (Dp K H x d) (Dp K H y e) (SeqAt.shaped d=true) (SeqAt.shaped e=true) (Q (.bl (PyData.eqv d e)) H)
def rNeD (K:W.Frag):R2:=fun x y H Q=>E2 fun d e=>A5 (Dp K H x d) (Dp K H y e) (SeqAt.shaped d=true) (SeqAt.shaped e=true) (Q (.bl (!PyData.eqv d e)) H)
theorem zCw (hu:X.A.units+64<cLine):OpR X (compareOp .Eq) (rEqD X.K):=by
  intro pins s σ H x y v u Q I rx ry h
  obtain ⟨d,e,hd,he,sd,se,q⟩:=h
  obtain ⟨as,r1⟩:=Dp.reads I d x v hd rx
  obtain ⟨bs,r2⟩:=Dp.reads I e y u he ry
  exact SeqAt.compareEq_shaped r1 r2 sd se hu ⟨.bl _,H,I,rfl,q⟩
theorem zCx (hu:X.A.units+64<cLine):OpR X (compareOp .NotEq) (rNeD X.K):=by
  intro pins s σ H x y v u Q I rx ry h
  obtain ⟨d,e,hd,he,sd,se,q⟩:=h
  obtain ⟨as,r1⟩:=Dp.reads I d x v hd rx
  obtain ⟨bs,r2⟩:=Dp.reads I e y u he ry
  exact SeqAt.compareNe_shaped r1 r2 sd se hu ⟨.bl _,H,I,rfl,q⟩
end
end L2
namespace L2
open PySem PySem.Spec PyProof.Rows
abbrev zy3 (h:Heap) (c:Addr) (v:Option Value):Prop:=h.IsCell c v
def relS (scope sc:Scope):Scope:=
  { scope with names:=scope.names.map fun (n,k)=>if (k == .free&&sc.kind == .function&&sc.names.lookup n == some .cell) then (n, .cell) else (n,k) }
def zbo (cells:List (Str×Addr)):List (Str×NameKind)→List (Str×Addr)→List (Str×Addr)
  | [],acc=>acc
  | (n,k) :: r,acc=>if k == .free then zbo cells r ((n,(cells.lookup n).getD 0) :: acc) else zbo cells r acc
theorem zjc (env:Env) (f:Str×NameKind→List (Str×Addr)→Sem (ForInStep (List (Str×Addr))))
    (hf:∀ n k c,f (n,k) c=if k == .free then (do let a ← cellOf env n;pure (.yield ((n,a) :: c))) else pure (.yield c)) :
    ∀ (names:List (Str×NameKind)) (acc:List (Str×Addr)),(∀ y∈names,y.2 = .free→∃ c,env.cells.lookup y.1=some c)→forIn names acc f=pure (zbo env.cells names acc)
  | [],acc,_=>by rw [List.forIn_nil];rfl
  | (n,k) :: r,acc,h=>by
    rw [List.forIn_cons,hf]
    have ih:=fun acc=>zjc env f hf r acc fun y hy=>h y (List.mem_cons_of_mem _ hy)
    unfold zbo
    by_cases hk:(k == NameKind.free)=true
    · rw [if_pos hk,if_pos hk]
      obtain ⟨c,hc⟩:=h (n,k) List.mem_cons_self (by simpa using hk)
      have e:cellOf env n=pure c:=by unfold cellOf;rw [hc]
      rw [e]
      have e2:(env.cells.lookup n).getD 0=c:=by rw [hc];rfl
      rw [e2]
      exact ih _
    · rw [if_neg hk,if_neg hk]
      exact ih _
theorem zsw {scope:Scope} {env:Env} (h:∀ y∈scope.names,y.2 = .free→∃ c,env.cells.lookup y.1=some c):closureFor scope env=pure (zbo env.cells scope.names []):=by
  simp only [closureFor]
  rw [zjc env _ (fun n k c=>rfl) scope.names [] h]
  rfl
theorem zim {α:Type}:∀ {l:List (Str×α)} {n:Str} {c:α},(n,c)∈l→∃ c',l.lookup n=some c'
  | (k,v) :: r,n,c,h=>by
    rw [List.lookup_cons]
    cases hb:n == k with
    | true=>exact ⟨_,rfl⟩
    | false=>
      rcases List.mem_cons.mp h with e | h
      · cases e;simp at hb
      · exact zim h
theorem zer {cells:List (Str×Addr)}:∀ {names:List (Str×NameKind)} {acc:List (Str×Addr)} {n:Str} {c:Addr},(n,c)∈zbo cells names acc→(n,c)∈acc∨((n, .free)∈names∧c=(cells.lookup n).getD 0)
  | [],_,_,_,h=>.inl h
  | (m,k) :: r,acc,n,c,h=>by
    unfold zbo at h
    split at h
    · rename_i hk
      have hk:k = .free:=by simpa using hk
      rcases zer h with h | ⟨h1,h2⟩
      · rcases List.mem_cons.mp h with e | h
        · cases e;exact .inr ⟨hk▸List.mem_cons_self,rfl⟩
        · exact .inl h
      · exact .inr ⟨List.mem_cons_of_mem _ h1,h2⟩
    · rcases zer h with h | ⟨h1,h2⟩
      · exact .inl h
      · exact .inr ⟨List.mem_cons_of_mem _ h1,h2⟩
theorem zgn {cells:List (Str×Addr)}:∀ {names:List (Str×NameKind)} {acc:List (Str×Addr)} {p:Str×Addr},p∈acc→p∈zbo cells names acc
  | [],_,_,h=>h
  | (m,k) :: r,acc,p,h=>by
    unfold zbo
    split
    · exact zgn (List.mem_cons_of_mem _ h)
    · exact zgn h
theorem zgo {cells:List (Str×Addr)}:∀ {names:List (Str×NameKind)} {acc:List (Str×Addr)} {n:Str},(n, .free)∈names→(n,(cells.lookup n).getD 0)∈zbo cells names acc
  | (m,k) :: r,acc,n,h=>by
    unfold zbo
    rcases List.mem_cons.mp h with e | h
    · cases e
      exact zgn List.mem_cons_self
    · split
      · exact zgo h
      · exact zgo h
theorem zfg:∀ {names:List (Str×NameKind)} {h:Heap} {acc:List (Str×Addr)} {x:Str} {c:Addr},(x,c)∈cellsFrom h.objs.size names acc→
    (x,c)∈acc∨((x, .cell)∈names∧h.objs.size≤c∧zy3 (pushCells h names) c none)
  | [],_,_,_,_,h=>.inl h
  | (n,k) :: r,h,acc,x,c,hm=>by
    unfold cellsFrom at hm
    unfold pushCells
    split at hm
    · rename_i hk
      rw [if_pos hk]
      have hk:k = .cell:=by simpa using hk
      rw [← Heap.size_push h { cls:=.type "cell",data:=.cell none }] at hm
      rcases zfg hm with hm | ⟨h1,h2,h3⟩
      · rcases List.mem_cons.mp hm with e | hm
        · cases e
          exact .inr ⟨hk▸List.mem_cons_self,Nat.le_refl _,_,pushCells_keeps r _ _ _ (Heap.get?_push_size _ rfl),rfl⟩
        · exact .inl hm
      · rw [Heap.size_push] at h2
        exact .inr ⟨List.mem_cons_of_mem _ h1,Nat.le_of_succ_le h2,h3⟩
    · rename_i hk
      rw [if_neg hk]
      rcases zfg hm with hm | ⟨h1,h2,h3⟩
      · exact .inl hm
      · exact .inr ⟨List.mem_cons_of_mem _ h1,h2,h3⟩
theorem zhf:∀ {names:List (Str×NameKind)} {n:Nat} {acc:List (Str×Addr)} {p:Str×Addr},p∈acc→p∈cellsFrom n names acc
  | [],_,_,_,h=>h
  | (m,k) :: r,n,acc,p,h=>by
    unfold cellsFrom
    split
    · exact zhf (List.mem_cons_of_mem _ h)
    · exact zhf h
theorem zj6:∀ {names:List (Str×NameKind)} {n:Nat} {acc:List (Str×Addr)} {x:Str},(x, .cell)∈names→∃ c,(x,c)∈cellsFrom n names acc
  | (m,k) :: r,n,acc,x,h=>by
    unfold cellsFrom
    rcases List.mem_cons.mp h with e | h
    · cases e
      exact ⟨n,zhf List.mem_cons_self⟩
    · split
      · exact zj6 h
      · exact zj6 h
theorem zj7:∀ {names:List (Str×NameKind)} {h:Heap} {acc:List (Str×Addr)} {x y:Str} {c:Addr},(∀ p∈acc,p.2<h.objs.size)→(∀ x y c,(x,c)∈acc→(y,c)∈acc→x=y)→
    (x,c)∈cellsFrom h.objs.size names acc→(y,c)∈cellsFrom h.objs.size names acc→x=y
  | [],_,_,_,_,_,_,hi,h1,h2=>hi _ _ _ h1 h2
  | (n,k) :: r,h,acc,x,y,c,hl,hi,h1,h2=>by
    unfold cellsFrom at h1 h2
    split at h1
    · rename_i hk
      rw [if_pos hk] at h2
      rw [← Heap.size_push h { cls:=.type "cell",data:=.cell none }] at h1 h2
      refine zj7 (h:=h.push _) (fun p hp=>?_) (fun x y c a b=>?_) h1 h2
      · rw [Heap.size_push]
        rcases List.mem_cons.mp hp with rfl | hp
        · exact Nat.lt_succ_self _
        · exact Nat.lt_succ_of_lt (hl p hp)
      · rcases List.mem_cons.mp a with e | a<;>rcases List.mem_cons.mp b with e' | b
        · cases e;cases e';rfl
        · cases e;exact absurd (hl _ b) (Nat.lt_irrefl _)
        · cases e';exact absurd (hl _ a) (Nat.lt_irrefl _)
        · exact hi _ _ _ a b
    · rename_i hk
      rw [if_neg hk] at h2
      exact zj7 hl hi h1 h2
theorem zqd {M:Model} {A:Around} {E:Value→Shared→Prop} {s:Shared} {scope:Scope} {globals:Addr} {closure:List (Str×Addr)} {qual:Str} {func:Option Addr} {code:Value} {around:Env} {builtins:Addr} {Q:Env→Shared→Prop}
    (h:Q (newEnv scope s.heap.objs.size globals (cellsFrom (s.heap.objs.size+1) scope.names closure) qual func code (some around) builtins)
      { s with heap:=pushCells (s.heap.push { cls:=.type "dict",data:=.dict #[] }) scope.names }) :
    wpAny M A (newFunctionEnv scope globals closure [] qual func code (some around) builtins) Q E s:=by
  simp only [newFunctionEnv,Option.isSome_some,if_true]
  refine wpAny_bind (wpAny_alloc ?_)
  refine wpAny_bind (wpAny_layCells _ (fun n k c=>rfl) scope.names closure _ _ ?_)
  rw [show ({ s with heap:=s.heap.push { cls:=.type "dict",data:=.dict #[] } }:Shared).heap.objs.size=s.heap.objs.size+1 from Heap.size_push ..]
  rw [List.forIn_nil]
  exact wpAny_bind (wpAny_pure (wpAny_pure h))
theorem zgs {sc:Scope}:∀ {names:List (Str×NameKind)} {x:Str} {k:NameKind},
    (names.map fun (n,k)=>if (k == NameKind.free&&sc.kind == .function&&sc.names.lookup n == some .cell) then (n,NameKind.cell) else (n,k)).lookup x=some k→
    ∃ k',names.lookup x=some k'∧(k=k'∨(k' = .free∧k = .cell))
  | [],_,_,h=>by simp at h
  | (n,k₀) :: r,x,k,h=>by
    have ih:=@zgs sc r x k
    have h':List.lookup x ((if (k₀ == NameKind.free&&sc.kind == .function&&sc.names.lookup n == some .cell)=true then (n,NameKind.cell) else (n,k₀)) :: (r.map _))=some k:=h
    cases hx:x == n with
    | true=>
      simp only [List.lookup_cons,hx]
      by_cases hc:(k₀ == NameKind.free&&sc.kind == .function&&sc.names.lookup n == some .cell)=true
      · rw [if_pos hc] at h'
        simp only [List.lookup_cons,hx] at h'
        cases h'
        simp only [Bool.and_eq_true,beq_iff_eq] at hc
        exact ⟨k₀,rfl, .inr ⟨hc.1.1,rfl⟩⟩
      · rw [if_neg hc] at h'
        simp only [List.lookup_cons,hx] at h'
        cases h'
        exact ⟨_,rfl, .inl rfl⟩
    | false=>
      simp only [List.lookup_cons,hx]
      by_cases hc:(k₀ == NameKind.free&&sc.kind == .function&&sc.names.lookup n == some .cell)=true
      · rw [if_pos hc] at h'
        simp only [List.lookup_cons,hx] at h'
        exact ih h'
      · rw [if_neg hc] at h'
        simp only [List.lookup_cons,hx] at h'
        exact ih h'
structure ztu (N:List Str) (sc scope:Scope) (own:List (Str×Nat)):Prop where
  kind:scope.kind = .function
  uniq:∀ y∈scope.names,scope.names.lookup y.1=some y.2
  ix:∀ p∈own,N[p.2]? = some p.1
  free:∀ y∈scope.names,y.2 = .free→sc.names.lookup y.1=some .cell∨sc.names.lookup y.1=some .free
  own:∀ y∈scope.names,y.2 = .local∨y.2 = .cell→y.1∈own.map (·.1)∨y.1∉N
def wipe (σ:St):List Nat→St
  | []=>σ
  | v :: vs=>(wipe σ vs).set v none
theorem zg5 (σ:St):∀ vs:List Nat,(wipe σ vs).length=σ.length
  | []=>rfl
  | v :: vs=>by unfold wipe;rw [List.length_set,zg5 σ vs]
theorem zk2 {σ:St} {i:Nat} {x:V}:∀ {vs:List Nat},(wipe σ vs)[i]? = some (some x)→σ[i]? = some (some x)∧i∉vs
  | [],h=>⟨h,by simp⟩
  | v :: vs,h=>by
    unfold wipe at h
    by_cases hi:v=i
    · subst hi
      by_cases hv:v<(wipe σ vs).length
      · rw [List.getElem?_set_self hv] at h;cases h
      · rw [List.getElem?_eq_none (by simpa using hv)] at h;cases h
    · rw [List.getElem?_set_ne hi] at h
      obtain ⟨h1,h2⟩:=zk2 h
      exact ⟨h1,by simp only [List.mem_cons,not_or];exact ⟨fun e=>hi e.symm,h2⟩⟩
abbrev Cx.blk (X:Cx) (s:Shared) (H:Hp) (scope:Scope) (cenv:Env) (fp:List Addr):Cx:={ X with s_0:=s,H_0:=H,env:=cenv,outer:=X.stack,ex:=fp,fn:=fun x=>scope.names.lookup x == some .cell,pn:=[],xe:=fun _ _=>False }
section
variable {X:Cx} {pins:List (Addr×Obj)} {σ:St} {H:Hp} {s:Shared}
theorem zpt {scope:Scope} {own:List (Str×Nat)} {fp:List Addr} (I:Inv X pins σ H s) (ok:ztu X.N X.env.scope scope own) (hN:X.N.Nodup) (hfp:∀ b∈fp,FpOk X pins H b∧b<s.heap.objs.size) :
    Inv (X.blk s H scope (compEnvC scope (cellsFrom (s.heap.objs.size+1) scope.names (zbo X.env.cells scope.names [])) s.heap.objs.size X.env) fp) [] (wipe σ (own.map (·.2))) H { s with heap:=pushCells (s.heap.push { cls:=.type "dict",data:=.dict #[] }) scope.names }:=by
  have hfree:∀ y∈scope.names,y.2 = .free→∃ c,X.env.cells.lookup y.1=some c:=fun y hy e=>by
    rcases ok.free y hy e with k | k
    · exact I.ok.has _ (.inl k)
    · exact I.ok.has _ (.inr k)
  generalize hcenv:compEnvC scope (cellsFrom (s.heap.objs.size+1) scope.names (zbo X.env.cells scope.names [])) s.heap.objs.size X.env=cenv
  have kp:∀ b o,s.heap.get? b=some o→(pushCells (s.heap.push { cls:=.type "dict",data:=.dict #[] }) scope.names).get? b=some o:=fun b o e=>pushCells_keeps _ _ _ _ (Heap.get?_push_of_some _ e)
  have hL:cenv.locals=s.heap.objs.size:=by rw [← hcenv];rfl
  have hcl:cenv.cells=cellsFrom (s.heap.objs.size+1) scope.names (zbo X.env.cells scope.names []):=by rw [← hcenv];rfl
  have hsc:cenv.scope=relS scope X.env.scope:=by rw [← hcenv];rfl
  rw [← Heap.size_push s.heap { cls:=.type "dict",data:=.dict #[] }] at hcl
  have cm:∀ {y c},(y,c)∈zbo X.env.cells scope.names []→X.env.cells.lookup y=some c∧c<s.heap.objs.size:=fun {y c} hm=>by
    rcases zer hm with hm | ⟨h1,rfl⟩
    · cases hm
    · obtain ⟨c,hc⟩:=hfree _ h1 rfl
      rw [hc]
      obtain ⟨w,z⟩:=I.cell _ _ hc
      exact ⟨rfl,z.lt⟩
  have mem:∀ {y c},cenv.cells.lookup y=some c→(X.env.cells.lookup y=some c∧c<s.heap.objs.size)∨(s.heap.objs.size+1≤c∧zy3 (pushCells (s.heap.push { cls:=.type "dict",data:=.dict #[] }) scope.names) c none):=fun {y c} e=>by
    rw [hcl] at e
    rcases zfg (PySem.mem_of_lookup e) with hm | ⟨_,h2,h3⟩
    · exact .inl (cm hm)
    · rw [Heap.size_push] at h2;exact .inr ⟨h2,h3⟩
  have look:∀ {y},scope.names.lookup y=some .free→∃ c,cenv.cells.lookup y=some c∧X.env.cells.lookup y=some c:=fun {y} hl=>by
    have hy:(y,NameKind.free)∈scope.names:=PySem.mem_of_lookup hl
    obtain ⟨c',e'⟩:=zim (zhf (names:=scope.names) (n:=(s.heap.push { cls:=.type "dict",data:=.dict #[] }).objs.size) (zgo (cells:=X.env.cells) (acc:=[]) hy))
    rw [← hcl] at e'
    refine ⟨c',e',?_⟩
    rw [hcl] at e'
    rcases zfg (PySem.mem_of_lookup e') with hm | ⟨h1,_,_⟩
    · exact (cm hm).1
    · have:=ok.uniq _ h1
      rw [hl] at this;cases this
  have okB:(X.blk s H scope cenv fp).Ok:=by
    refine ⟨I.ok.mod,by show cenv.scope.kind=_;rw [hsc];exact ok.kind,by show cenv.globals=_;rw [← hcenv];exact I.ok.glob,by show cenv.builtins=_;rw [← hcenv];exact I.ok.blt,by show s.heap.objs.size≤cenv.locals;rw [hL];exact Nat.le_refl _,
      fun y z c e1 e2=>?_,fun y hy=>?_,fun y c z e=>?_,I.ok.hd,I.ok.frames, .inl rfl,fun b hb=>⟨?_,fun y c e z=>?_⟩,I.bs,Nat.le_trans I.ok.bsz I.sz,fun b o e hb=>?_,fun b hb z=>?_,I.stack,I.stkFree⟩
    · have e1:cenv.cells.lookup y=some c:=e1
      have e2:cenv.cells.lookup z=some c:=e2
      rw [hcl] at e1 e2
      refine zj7 (fun p hp=>?_) (fun y z c a b=>I.ok.inj y z c (cm a).1 (cm b).1) (PySem.mem_of_lookup e1) (PySem.mem_of_lookup e2)
      rw [Heap.size_push]
      exact Nat.lt_succ_of_lt (cm (y:=p.1) (c:=p.2) hp).2
    · show ∃ c,cenv.cells.lookup y=some c
      have key:∀ k,cenv.kindOf y=some k→(k = .cell∨k = .free)→∃ c,cenv.cells.lookup y=some c:=fun k hk hk'=>by
        unfold Env.kindOf at hk
        rw [hsc] at hk
        obtain ⟨k',e,r⟩:=zgs hk
        have:k' = .cell∨k' = .free:=by
          rcases r with rfl | ⟨rfl,_⟩
          · exact hk'
          · exact .inr rfl
        rcases this with rfl | rfl
        · obtain ⟨c,hm⟩:=zj6 (n:=(s.heap.push { cls:=.type "dict",data:=.dict #[] }).objs.size) (acc:=zbo X.env.cells scope.names []) (PySem.mem_of_lookup e)
          obtain ⟨c',e'⟩:=zim hm
          exact ⟨c',by rw [hcl];exact e'⟩
        · obtain ⟨c,h1,_⟩:=look e
          exact ⟨c,h1⟩
      rcases hy with hy | hy
      · exact key _ hy (.inl rfl)
      · exact key _ hy (.inr rfl)
    · have z:(scope.names.lookup y == some NameKind.cell)=true:=z
      have z:scope.names.lookup y=some .cell:=by simpa using z
      have e:cenv.cells.lookup y=some c:=e
      rw [hcl] at e
      rcases zfg (PySem.mem_of_lookup e) with hm | ⟨_,h2,_⟩
      · rcases zer hm with hm | ⟨h1,_⟩
        · cases hm
        · have q:=ok.uniq _ h1
          rw [z] at q;cases q
      · rw [Heap.size_push] at h2
        exact Nat.le_of_succ_le h2
    · show b≠cenv.locals
      rw [hL];exact Nat.ne_of_lt (hfp b hb).2
    · have e:cenv.cells.lookup y=some c:=e
      rcases mem e with ⟨h1,_⟩ | ⟨h1,_⟩
      · exact (hfp b hb).1.2.2.2.2.1 y c h1 z
      · have h2:s.heap.objs.size+1≤b:=by rw [← z];exact h1
        exact absurd (Nat.lt_of_lt_of_le (hfp b hb).2 (Nat.le_of_succ_le h2)) (Nat.lt_irrefl _)
    · rcases (hfp b hb).1.2.2.2.1 with z | z
      · exact I.ok.noex b o e z
      · exact absurd (Nat.lt_of_lt_of_le (Heap.lt_size e) (Nat.le_trans I.ok.bsz z)) (Nat.lt_irrefl _)
    · rcases List.mem_cons.mp (I.stkSub b z) with z | z
      · exact (hfp b hb).1.2.1 z
      · exact (hfp b hb).1.2.2.1 z
  refine ⟨okB,rfl,I.bare,Un.kept kp,⟨fun _=>none,?_,fun i y av e1 e2 e3=>?_⟩,fun y c e=>?_,?_,fun y c e=>?_,fun p hp=>?_,I.hok.kept kp,by rw [zg5];exact I.len⟩
  · show Heap.Ns _ cenv.locals _
    rw [hL]
    exact Heap.Ns.keeps (Heap.Ns.new ..) fun b o e=>pushCells_keeps _ _ _ _ e
  · obtain ⟨e2,hne⟩:=zk2 e2
    have hfr:scope.names.lookup y=some .free∧(cenv.kindOf y=some .cell∨cenv.kindOf y=some .free):=by
      have key:∀ k,cenv.scope.names.lookup y=some k→k = .local∨k = .cell∨k = .free→scope.names.lookup y=some .free∧(cenv.kindOf y=some .cell∨cenv.kindOf y=some .free):=fun k hk hk'=>by
        have hk0:=hk
        rw [hsc] at hk
        obtain ⟨k',e,r⟩:=zgs hk
        have no:¬(k' = .local∨k' = .cell):=fun hh=>by
          rcases ok.own _ (PySem.mem_of_lookup e) hh with e' | e'
          · obtain ⟨p,hp,hpy⟩:=List.mem_map.mp e'
            have e3:=ok.ix p hp
            have:p.1=y:=hpy
            rw [this] at e3
            exact hne (List.mem_map.mpr ⟨p,hp,zmv hN e3 e1⟩)
          · exact e' (List.mem_of_getElem? e1)
        rcases r with rfl | ⟨rfl,rfl⟩
        · rcases hk' with rfl | rfl | rfl
          · exact absurd (.inl rfl) no
          · exact absurd (.inr rfl) no
          · exact ⟨e, .inr hk0⟩
        · exact ⟨e, .inl hk0⟩
      have e3:Vis cenv.scope y:=e3
      rcases e3 with e3 | e3 | e3
      · exact key _ e3 (.inl rfl)
      · exact key _ e3 (.inr (.inl rfl))
      · exact key _ e3 (.inr (.inr rfl))
    obtain ⟨m,hn,hl⟩:=I.loc
    have hvis:Vis X.env.scope y:=(ok.free _ (PySem.mem_of_lookup hfr.1) rfl).elim (fun k=>.inr (.inl k)) (fun k=>.inr (.inr k))
    obtain ⟨w,r,q⟩:=hl i y av e1 e2 hvis
    refine ⟨w,r, .inr ⟨hfr.2,?_⟩⟩
    obtain ⟨c,h1,h2⟩:=look hfr.1
    rcases q with ⟨k,_⟩ | ⟨_,c',e',z⟩
    · have k:X.env.scope.names.lookup y=some .local:=k
      rcases ok.free _ (PySem.mem_of_lookup hfr.1) rfl with k' | k'<;>rw [show X.env.scope.names.lookup y=_ from k'] at k<;>cases k
    · rw [h2] at e';cases e'
      exact ⟨c,h1,z.keeps kp⟩
  · have e:cenv.cells.lookup y=some c:=e
    rcases mem e with ⟨h1,_⟩ | ⟨_,z⟩
    · obtain ⟨w,z⟩:=I.cell y c h1
      exact ⟨w,z.keeps kp⟩
    · exact ⟨_,z⟩
  · show H cenv.locals=none
    rw [hL];exact I.hok.fresh (Nat.le_refl _)
  · have e:cenv.cells.lookup y=some c:=e
    rcases mem e with ⟨h1,_⟩ | ⟨h1,_⟩
    · exact I.freeC y c h1
    · exact I.hok.fresh (Nat.le_of_succ_le h1)
  · exact absurd (show p∈([]:List (Addr×Obj))++[] from hp) (by simp)
theorem zB6 {E:Value→Shared→Prop} {D:Addr} {xs:List V} {y:V} {v:Value} {Q:Value→Shared→Prop} (I:Inv X pins σ H s) (hD:H D=some (.lst xs)) (hz:xs.length<sizeLine) (r:RelV y v)
    (h:∀ s',Inv X pins σ (upd H D (.lst (xs++[y]))) s'→Q .none s'):wpAny (model X.prog X.w) X.A (call (.builtin "list.append") [.ref D,v]) Q E s:=by
  obtain ⟨hz',its,n,ri,e⟩:=I.hok D _ hD
  have hl:=ri.length
  refine append_at (hsz:=by rw [List.size_toArray];omega) e fun h' sb ho'=>?_
  refine h { s with heap:=h' } (I.write (t':=s.toks) (by rw [hD];trivial) (.inl rfl) (fun b u hb q=>(sb.2 b hb).trans q) ⟨_,ho'⟩ ⟨by rw [List.length_append];exact hz,its++[v],n+1,ri.append (.cons r .nil),?_⟩)
  rw [ho']
  simp
def PTs (X:Cx) (ifs:List Expr) (t:TT):Prop:=
  ∀ (pins:List (Addr×Obj)) (s:Shared) (σ:St) (H:Hp) (Q:Bool→Hp→Prop),Inv X pins σ H s→t σ H Q→
    wpAny (model X.prog X.w) X.A (forIn ifs true fun c r=>if r=true then do let ok ← isTrue c X.env (eval c X.env);pure (ForInStep.yield ok) else pure (ForInStep.yield r)) (TP X pins σ Q) X.xe s
def tYes:TT:=fun _ H Q=>Q true H
theorem zm6:PTs X [] tYes:=fun _ _ _ H _ I h=>wpAny_tests_nil ⟨H,I,h⟩
theorem zqq {c:Expr} {t:TT} (h:PT X c t):PTs X [c] t:=fun pins s σ H Q I hw=>wpAny_tests_one (h pins s σ H Q I hw)
end
theorem thnF {α:Type} {t:Sem α} {Q Q':α→Shared→Prop} {M:Model} {A:Around} {E:Value→Shared→Prop} {s:Shared} (h:wpAny M A t Q (fun _ _=>False) s) (hQ:∀ a s,Q a s→Q' a s):wpAny M A t Q' E s:=wpAny_mono h hQ fun _ _ z=>False.elim z
theorem zoe {prog:Program} {w:World} {A:Around} {R:Result→Shared→Prop} {s:Shared} {elt target iter:Expr} {ifs:List Expr} {scope:Scope} {pos:Pos} {it acc:Value} {env:Env} (I:Nat→Shared→Prop)
    (turn:∀ n s,I n s→wpAny (model prog w) A (pyNext it) (fun r s₁=>match r with
      | none=>R (.ok .next) s₁
      | some v=>wpAny (model prog w) A (letOwnedTupleGo target it v) (fun _ s₁'=>wpAny (model prog w) A (assign target env v) (fun _ s₂=>
          wpAny (model prog w) A (forIn ifs true fun c r=>if r=true then do let ok ← isTrue c env (eval c env);pure (ForInStep.yield ok) else pure (ForInStep.yield r)) (fun ok s₃=>
            if ok=true then wpAny (model prog w) A (eval elt env) (fun x s₄=>
              wpAny (model prog w) A (call (.builtin "list.append") [acc,x]) (fun _ s₅=>∃ m,m<n∧I m s₅) (notedBy (model prog w) A env fun e s'=>R (.error e) s') s₄) (notedBy (model prog w) A env fun e s'=>R (.error e) s') s₃
            else ∃ m,m<n∧I m s₃) (notedBy (model prog w) A env fun e s'=>R (.error e) s') s₂) (notedBy (model prog w) A env fun e s'=>R (.error e) s') s₁') (notedBy (model prog w) A env fun e s'=>R (.error e) s') s₁) (notedBy (model prog w) A env fun e s'=>R (.error e) s') s)
    (n:Nat) (h:I n s) :
    codeAny (model prog w) A (.compLoop (.ListComp elt [⟨target,iter,ifs,0⟩] scope pos) 0 it acc env) R s:=by
  refine codeAny_loop rfl I (fun n s hI=>?_) n h
  show wpAny _ A ((compTurn (.ListComp elt [⟨target,iter,ifs,0⟩] scope pos) 0 it acc env).onRaise (fun x=>do noteFrame x env;theTreesLotGoes x)) _ _ s
  refine wpAny_noted ?_
  rw [compTurn_list]
  refine wpAny_bind (wpAny_standAt (wpAny_bind (wpAny_mono (turn n s hI) (fun r s₁ h₁=>?_) fun _ _ h'=>h')))
  cases r with
  | none=>exact wpAny_pure h₁
  | some v=>
    refine wpAny_bind (wpAny_mono h₁ (fun _ s₁' h₁'=>?_) fun _ _ h'=>h')
    refine wpAny_bind (wpAny_mono h₁' (fun _ s₂ h₂=>wpAny_bind (wpAny_mono h₂ (fun ok s₃ h₃=>?_) fun _ _ h'=>h')) fun _ _ h'=>h')
    cases ok with
    | false=>exact wpAny_pure ⟨rfl,h₃⟩
    | true=>
      exact wpAny_bind (wpAny_bind (wpAny_mono h₃ (fun x s₄ h₄=>wpAny_bind (wpAny_mono h₄ (fun _ s₅ h₅=>wpAny_pure (wpAny_pure ⟨rfl,h₅⟩)) fun _ _ h'=>h')) fun _ _ h'=>h'))
section
variable {X:Cx}
def tLc (wi:TI) (g:TG) (tt:TT) (te:TE) (vs:List Nat):TE:=fun σ H Q=>wi σ H fun J H1=>∀ D,H1 D=none→∃ W:Nat→Nat→Hp→Prop,(∃ m,W 0 m (upd H1 D (.lst [])))∧∀ i m H,W i m H→
  (J.stop i H∧Q (.ref D) H)∨(J.go i H∧∃ Nx:Hp→Prop,(∀ H',Nx H'→∃ m',m'<m∧W (i+1) m' H')∧∀ x H',J.yld i H x H'→g x (wipe σ vs) H' fun σ2 H2=>wipe σ2 vs=wipe σ vs∧tt σ2 H2 fun b H3=>
    if b=true then te σ2 H3 fun y H4=>∃ acc,H4 D=some (.lst acc)∧acc.length<sizeLine∧Nx (upd H4 D (.lst (acc++[y]))) else Nx H3)
theorem zu0 {pins:List (Addr×Obj)} {s:Shared} {σ:St} {H:Hp} {Q:VK} {elt tg iter:Expr} {ifs:List Expr} {scope:Scope} {own:List (Str×Nat)} {pos pos':Pos} {wi:TI} {g:TG} {tt:TT} {te:TE} {use:Option (Value→Sem Unit)} {Qf:Value→Shared→Prop}
    (hc:X.calm=true) (hN:X.N.Nodup) (I:Inv X pins σ H s) (hi:PI X tg iter wi) (ok:ztu X.N X.env.scope scope own)
    (hg:∀ (s:Shared) (H:Hp) (C:Addr) (cl:List (Str×Addr)) (fp:List Addr),PG (X.blk s H scope (compEnvC scope cl C X.env) fp) tg g) (ht:∀ (s:Shared) (H:Hp) (C:Addr) (cl:List (Str×Addr)) (fp:List Addr),PTs (X.blk s H scope (compEnvC scope cl C X.env) fp) ifs tt)
    (he:∀ (s:Shared) (H:Hp) (C:Addr) (cl:List (Str×Addr)) (fp:List Addr),PE (X.blk s H scope (compEnvC scope cl C X.env) fp) elt te) (hs:∀ x,foldedSetIterable iter X.env x=pure x)
    (h:tLc wi g tt te (own.map (·.2)) σ H Q)
    (hRR:∀ D C s' m H',Inv X pins σ H' s'→Q (.ref D) H'→s'.heap.Ns C m→FpOk X pins H' C→compPost (model X.prog X.w) X.A X.xe use Qf (.ref D) C (.ok .next) s') :
    wpAny (model X.prog X.w) X.A (comprehension (.ListComp elt [⟨tg,iter,ifs,0⟩] scope pos) scope X.env pos' (newList []) false (eval iter X.env) use) Qf X.xe s:=by
  have hfree:∀ y∈scope.names,y.2 = .free→∃ c,X.env.cells.lookup y.1=some c:=fun y hy e=>by
    rcases ok.free y hy e with k | k
    · exact I.ok.has _ (.inl k)
    · exact I.ok.has _ (.inr k)
  refine wpAny_comprehension_free (use:=use) rfl hs (zsw hfree) ok.kind (fun y hy e=>by rw [ok.uniq y hy,e])
    (thn (hi pins s σ H _ I h) fun xv s1 hx=>thn hx fun itv s2 h2=>?_)
  obtain ⟨it,fp,tn,J,H2,e,I2,T,st2,f2,q⟩:=h2
  subst e
  refine wpAny_newObj_type (zqd ?_) (by show 0≤sizeLine;decide)
  generalize hD:s2.heap.objs.size=D
  have hDn:H2 D=none:=I2.hok.fresh (Nat.le_of_eq hD)
  obtain ⟨W,⟨m0,w0⟩,turn⟩:=q D hDn
  generalize hs3:({ s2 with heap:=s2.heap.push { cls:=.type "list",data:=.seq ([]:List Value).toArray } }:Shared)=s3
  have I3:Inv X pins σ (upd H2 D (.lst [])) s3:=by
    rw [← hs3]
    refine I2.laid (t':=s2.toks) (fun b o e=>Heap.get?_push_of_some _ e) (Nat.le_of_eq hD) ⟨Nat.zero_le _,[],0, .nil,?_⟩
    rw [← hD]
    exact Heap.get?_push_size _ rfl
  have h3:s3.heap=s2.heap.push { cls:=.type "list",data:=.seq ([]:List Value).toArray }:=by rw [← hs3]
  have sz:∀ b∈fp,b<s2.heap.objs.size:=fun b hb=>by
    obtain ⟨o,e,_⟩:=T.obj _ _ st2 b hb
    exact Heap.lt_size e
  have f3:∀ b∈fp,FpOk X pins (upd H2 D (.lst [])) b∧b<s3.heap.objs.size:=fun b hb=>by
    have hlt:=sz b hb
    refine ⟨⟨?_,(f2 b hb).2⟩,by rw [h3,Heap.size_push];exact Nat.lt_succ_of_lt hlt⟩
    rw [zag (by rw [← hD];exact Nat.ne_of_lt hlt)]
    exact (f2 b hb).1
  have st3:tn 0 s3.heap:=T.keep _ _ _ st2 fun b _ o e=>by rw [h3];exact Heap.get?_push_of_some _ e
  have I4:=zpt I3 ok hN f3
  have pg:=hg s3 (upd H2 D (.lst [])) s3.heap.objs.size (cellsFrom (s3.heap.objs.size+1) scope.names (zbo X.env.cells scope.names [])) fp
  have pt:=ht s3 (upd H2 D (.lst [])) s3.heap.objs.size (cellsFrom (s3.heap.objs.size+1) scope.names (zbo X.env.cells scope.names [])) fp
  have pe:=he s3 (upd H2 D (.lst [])) s3.heap.objs.size (cellsFrom (s3.heap.objs.size+1) scope.names (zbo X.env.cells scope.names [])) fp
  show codeAny _ _ (.compStart (.ListComp elt [⟨tg,iter,ifs,0⟩] scope pos) 0 (.ref it) (.ref D) (compEnvC scope (cellsFrom (s3.heap.objs.size+1) scope.names (zbo X.env.cells scope.names [])) s3.heap.objs.size X.env)) (compPost (model X.prog X.w) X.A X.xe use Qf (.ref D) s3.heap.objs.size) { s3 with heap:=pushCells (s3.heap.push { cls:=.type "dict",data:=.dict #[] }) scope.names }
  have nfp:∀ b∈fp,(upd H2 D (.lst [])) b=none:=fun b hb=>(f3 b hb).1.1
  generalize hce:compEnvC scope (cellsFrom (s3.heap.objs.size+1) scope.names (zbo X.env.cells scope.names [])) s3.heap.objs.size X.env=ce at I4 pg pt pe ⊢
  have cL:ce.locals=s3.heap.objs.size:=by subst hce;rfl
  generalize hH3:upd H2 D (.lst [])=H3 at I3 I4 pg pt pe w0 nfp f3
  generalize hs4:({ s3 with heap:=pushCells (s3.heap.push { cls:=.type "dict",data:=.dict #[] }) scope.names }:Shared)=s4 at I4 ⊢
  have st4:tn 0 s4.heap:=T.keep _ _ _ st3 fun b _ o e=>by rw [← hs4];exact pushCells_keeps _ _ _ _ (Heap.get?_push_of_some _ e)
  have stat:∀ {σ':St} {H':Hp} {s':Shared},Inv (X.blk s3 H3 scope ce fp) [] σ' H' s'→(∀ b∈fp,H' b=none)→∀ b∈fp,FpOk (X.blk s3 H3 scope ce fp) [] H' b:=fun {σ' H' s'} I' hn b hb=>
    ⟨hn b hb,(I'.ok.exf b hb).1,I'.ok.exfs b hb, .inl hb,fun x c e=>(I'.ok.exf b hb).2 x c e,fun p hp=>absurd (show p∈([]:List (Addr×Obj))++[] from hp) (by simp)⟩
  have loop:codeAny (model X.prog X.w) X.A (.compLoop (.ListComp elt [⟨tg,iter,ifs,0⟩] scope pos) 0 (.ref it) (.ref D) ce) (compPost (model X.prog X.w) X.A X.xe use Qf (.ref D) s3.heap.objs.size) s4:=by
    refine zoe (fun n s'=>∃ i H',Inv (X.blk s3 H3 scope ce fp) [] (wipe σ (own.map (·.2))) H' s'∧tn i s'.heap∧(∀ b∈fp,H' b=none)∧W i n H') ?_ m0 ⟨0,H3,I4,st4,nfp,w0⟩
    rintro n s5 ⟨i,H5,I5,st5,n5,w5⟩
    rcases turn i n H5 w5 with ⟨stop,qq⟩ | ⟨go,Nx,hNx,step⟩
    · have td:=T.done (X.blk s3 H3 scope ce fp) rfl rfl rfl hc i [] s5 _ H5 (fun _ _=>False) I5 (stat I5 n5) st5 stop
      refine thnF td fun r s6 ⟨hr,I6⟩=>?_
      subst hr
      have I7:Inv X pins σ H5 s6:=I3.call' (ch:=fp) I6.os I6.base I6.hok I6.bare fun b hb=>⟨(f3 b hb).1.2.2.2.1,(f3 b hb).1.2.1,(f3 b hb).1.2.2.2.2.1,(f3 b hb).1.2.2.2.2.2⟩
      have nC:H5 s3.heap.objs.size=none:=by
        have z:H5 ce.locals=none:=I6.free
        rw [cL] at z
        exact z
      obtain ⟨m,hn,_⟩:=I6.loc
      have hn:s6.heap.Ns ce.locals m:=hn
      rw [cL] at hn
      exact hRR D s3.heap.objs.size s6 m H5 I7 qq hn (I3.fpOk (Nat.le_refl _) nC)
    · have ti:=T.item (X.blk s3 H3 scope ce fp) rfl rfl rfl hc i [] s5 _ H5 (fun _ _=>False) I5 (stat I5 n5) st5 go
      refine thnF ti fun r s6 ⟨u,hr,h6⟩=>?_
      subst hr
      refine thnF h6 fun _ s7 ⟨x,H7,I7,r7,y7,st7,n7⟩=>?_
      have I7':=I7.pinned (stat I7 n7) (T.obj _ _ st7)
      refine thnF (pg _ s7 _ H7 x u _ I7' r7 (step x H7 y7)) fun _ s8 ⟨σ8,H8,I8,hw8,q8⟩=>?_
      refine thnF (pt _ s8 σ8 H8 _ I8 q8) fun b s9 ⟨H9,I9,q9⟩=>?_
      have fin:∀ {s':Shared} {H':Hp},Inv (X.blk s3 H3 scope ce fp) ([]++zpa fp s7.heap) σ8 H' s'→Nx H'→∃ m,m<n∧∃ i H',Inv (X.blk s3 H3 scope ce fp) [] (wipe σ (own.map (·.2))) H' s'∧tn i s'.heap∧(∀ b∈fp,H' b=none)∧W i m H':=fun {s' H'} I' nx=>by
        obtain ⟨m',hm,w'⟩:=hNx H' nx
        have pin':∀ b∈fp,∀ o,s7.heap.get? b=some o→s'.heap.get? b=some o∧H' b=none:=fun b hb o e=>
          let z:=I'.pin (b,o) (List.mem_append_right _ (List.mem_append_right _ (zin hb e)))
          ⟨z.1,z.2.1⟩
        have hl:(wipe σ (own.map (·.2))).length=σ8.length:=by rw [← hw8,zg5]
        refine ⟨m',hm,i+1,H',(I'.unpinned (pins:=[])).weak hl (fun j v e=>?_),T.keep _ _ _ st7 fun b hb o e=>(pin' b hb o e).1,fun b hb=>?_,w'⟩
        · rw [← hw8] at e
          exact (zk2 e).1
        · obtain ⟨o,e,_⟩:=T.obj _ _ st7 b hb
          exact (pin' b hb o e).2
      cases b with
      | false=>
        simp only [Bool.false_eq_true,if_false] at q9 ⊢
        exact fin I9 q9
      | true=>
        simp only [if_true] at q9 ⊢
        refine thnF (pe _ s9 σ8 H9 _ I9 q9) fun z s10 ⟨yv,H10,I10,r10,acc,hD10,hz10,nx⟩=>?_
        exact zB6 (X:=X.blk s3 H3 scope ce fp) I10 hD10 hz10 r10 fun s11 I11=>fin I11 nx
  exact codeAny_compStart_list loop (T.self X.A 0 _ _ _ st4 loop)
theorem zyb {elt tg iter:Expr} {ifs:List Expr} {scope:Scope} {own:List (Str×Nat)} {pos:Pos} {wi:TI} {g:TG} {tt:TT} {te:TE} (hc:X.calm=true) (hN:X.N.Nodup) (hi:PI X tg iter wi) (ok:ztu X.N X.env.scope scope own)
    (hg:∀ (s:Shared) (H:Hp) (C:Addr) (cl:List (Str×Addr)) (fp:List Addr),PG (X.blk s H scope (compEnvC scope cl C X.env) fp) tg g) (ht:∀ (s:Shared) (H:Hp) (C:Addr) (cl:List (Str×Addr)) (fp:List Addr),PTs (X.blk s H scope (compEnvC scope cl C X.env) fp) ifs tt)
    (he:∀ (s:Shared) (H:Hp) (C:Addr) (cl:List (Str×Addr)) (fp:List Addr),PE (X.blk s H scope (compEnvC scope cl C X.env) fp) elt te) (hs:∀ x,foldedSetIterable iter X.env x=pure x:=by intro _;rfl) :
    PE X (.ListComp elt [⟨tg,iter,ifs,0⟩] scope pos) (tLc wi g tt te (own.map (·.2))):=by
  intro pins s σ H Q I h
  rw [eval_ListComp]
  refine zu0 hc hN I hi ok hg ht he hs h fun D C s' m H' I' q hn f=>⟨m,hn,fun h'' sb=>?_⟩
  obtain ⟨f0,f1,f2,f3,f4,f5⟩:=f
  exact ⟨.ref D,H',I'.turned (t':=s'.toks) (fun b o hb e=>(sb.2 b hb).trans e) f0 f1 f3 f4 f5,rfl,q⟩
theorem zm5 {i:Nat} {y:Str} {py:Pos} {elt tg iter:Expr} {ifs:List Expr} {scope:Scope} {own:List (Str×Nat)} {pos spos:Pos} {wi:TI} {g:TG} {tt:TT} {te:TE} (hc:X.calm=true) (hN:X.N.Nodup) (hy:X.N[i]? = some y) (hyl:X.env.scope.names.lookup y=some .local)
    (hsw:swapsWith (.ListComp elt [⟨tg,iter,ifs,0⟩] scope pos) (some (.Name y py)) spos.line X.env=pure true) (hi:PI X tg iter wi) (ok:ztu X.N X.env.scope scope own)
    (hg:∀ (s:Shared) (H:Hp) (C:Addr) (cl:List (Str×Addr)) (fp:List Addr),PG (X.blk s H scope (compEnvC scope cl C X.env) fp) tg g) (ht:∀ (s:Shared) (H:Hp) (C:Addr) (cl:List (Str×Addr)) (fp:List Addr),PTs (X.blk s H scope (compEnvC scope cl C X.env) fp) ifs tt)
    (he:∀ (s:Shared) (H:Hp) (C:Addr) (cl:List (Str×Addr)) (fp:List Addr),PE (X.blk s H scope (compEnvC scope cl C X.env) fp) elt te) (hs:∀ x,foldedSetIterable iter X.env x=pure x:=by intro _;rfl) :
    PS X (.Assign [.Name y py] (.ListComp elt [⟨tg,iter,ifs,0⟩] scope pos) spos) (tAsg (tLc wi g tt te (own.map (·.2))) (zke i)):=by
  intro pins s σ H D I h
  rw [exec_Assign_Name_used _ _ _ _ hsw]
  refine wpAny_bind (wpAny_standAt (wpAny_bind ?_))
  show wpAny _ X.A (do let _ ← comprehension (.ListComp elt [⟨tg,iter,ifs,0⟩] scope pos) scope X.env (firstIterPos [⟨tg,iter,ifs,0⟩] pos) (newList []) false (eval iter X.env) (some (assign (.Name y py) X.env))) _ _ s
  have h:tLc wi g tt te (own.map (·.2)) σ H (fun x H1=>zke i x σ H1 D.nx):=h
  refine wpAny_bind (thn (zu0 (Qf:=fun _ s'=>SP X pins D .next s') hc hN I hi ok hg ht he hs h fun L C s' m H' I' q hn f=>?_) fun _ s' hq=>wpAny_pure (wpAny_pure hq))
  show wpAny _ _ (assign (.Name y py) X.env (.ref L)) _ _ _
  refine wpAny_assign_Name (zkw (v:=V.ref L) I' hN hy (.inl hyl) rfl (fun s2 I2 ⟨a,sb,ha⟩=>?_) (.inr hyl))
  obtain ⟨f0,f1,f2,f3,f4,f5⟩:=f
  have haC:C≠a:=by
    rcases ha with z | z
    · rw [z];exact f1
    · exact fun e=>f4 y a z e.symm
  refine ⟨m,hn.sameBut sb haC,fun h3 sb3=>?_⟩
  exact ⟨_,H',I2.turned (t':=s2.toks) (fun b o hb e=>(sb3.2 b hb).trans e) f0 f1 f3 f4 f5,q⟩
theorem zq7 {elt:Expr} {gs:List Comprehension} {scope:Scope} {pos py:Pos} {y:Str} {l:Nat} {env:Env} (hk:env.scope.kind = .function) (hy:env.scope.names.lookup y=some .local) (hl:(py.line == pos.line)=true)
    (ha:(scope.names.any fun (n,k)=>n == y&&(k == .local || k == .cell))=false):swapsWith (.ListComp elt gs scope pos) (some (.Name y py)) l env=pure true:=by
  have ky:env.kindOf y=some .local:=hy
  have hb:env.blockKind = .function:=by unfold Env.blockKind;rw [hk];rfl
  unfold swapsWith
  simp only [hb,ky,ha,Expr.pos,hl]
  rfl
end
def blkC (N:List Str) (sc scope:Scope) (own:List (Str×Nat)):Bool:=
  (match scope.kind with | .function=>true | _=>false)&&(scope.names.all fun y=>decide (scope.names.lookup y.1=some y.2))&&(own.all fun p=>decide (N[p.2]? = some p.1)) &&
    (scope.names.all fun y=>match y.2 with
      | .free=>(match sc.names.lookup y.1 with | some .cell=>true | some .free=>true | _=>false)
      | .local=>decide (y.1∈own.map (·.1)) || decide (y.1∉N)
      | .cell=>decide (y.1∈own.map (·.1)) || decide (y.1∉N)
      | _=>true)
theorem zeq {N:List Str} {sc scope:Scope} {own:List (Str×Nat)} (h:blkC N sc scope own=true):ztu N sc scope own:=by
  unfold blkC at h
  simp only [Bool.and_eq_true,List.all_eq_true,decide_eq_true_eq] at h
  obtain ⟨⟨⟨h1,h2⟩,h3⟩,h4⟩:=h
  refine ⟨?_,h2,h3,fun y hy e=>?_,fun y hy e=>?_⟩
  · split at h1
    · assumption
    · cases h1
  · have q:=h4 y hy
    simp only [e] at q
    split at q<;>first | exact .inl (by assumption) | exact .inr (by assumption) | cases q
  · have q:=h4 y hy
    rcases e with e | e<;>(simp only [e,Bool.or_eq_true,decide_eq_true_eq] at q;exact q)
end L2
namespace L2
open PySem PySem.Spec PyProof.Rows
section
variable {prog:Program} {w:World} {A:Around} {R:Result→Shared→Prop} {s:Shared} {elt t0 i0 t1 i1:Expr} {ifs0 ifs1:List Expr} {scope:Scope} {pos:Pos} {it acc:Value} {env:Env}
end
section
variable {X:Cx}
end
end L2
namespace L2
open PySem PySem.Spec PyProof.Rows
section
variable {κ:Type} [DecidableEq κ]
def valV (kvs:List (κ×V)) (k:κ):Option V:=(kvs.find? fun kv=>decide (kv.1=k)).map (·.2)
def putK (kvs:List (κ×V)) (k:κ) (v:V):List (κ×V):=
  if (kvs.any fun kv=>decide (kv.1=k))=true then kvs.map (fun kv=>if kv.1=k then (kv.1,v) else kv) else kvs++[(k,v)]
theorem zb4 {p:κ×V} {r:List (κ×V)} {k:κ} (e:p.1=k):valV (p :: r) k=some p.2:=by simp [valV,List.find?_cons,e]
theorem zb3 {p:κ×V} {r:List (κ×V)} {k:κ} (e:¬p.1=k):valV (p :: r) k=valV r k:=by simp [valV,List.find?_cons,e]
theorem zh2 (k:κ):∀ kvs:List (κ×V),(kvs.any fun kv=>decide (kv.1=k))=(valV kvs k).isSome
  | []=>rfl
  | p :: r=>by
    rw [List.any_cons]
    by_cases e:p.1=k
    · simp only [zb4 e,decide_eq_true e,Bool.true_or,Option.isSome_some]
    · rw [zb3 e,decide_eq_false e,Bool.false_or];exact zh2 k r
theorem zsn (k j:κ) (y:V):∀ kvs:List (κ×V),valV (kvs.map fun kv=>if kv.1=k then (kv.1,y) else kv) j=(valV kvs j).map fun x=>if j=k then y else x
  | []=>rfl
  | p :: r=>by
    have ih:=zsn k j y r
    rw [List.map_cons]
    by_cases h:p.1=k
    · rw [if_pos h]
      by_cases e:p.1=j
      · rw [zb4 (p:=(p.1,y)) e,zb4 e,Option.map_some,if_pos (e.symm.trans h)]
      · rw [zb3 (p:=(p.1,y)) e,zb3 e,ih]
    · rw [if_neg h]
      by_cases e:p.1=j
      · rw [zb4 (p:=p) e,zb4 e,Option.map_some,if_neg (fun z=>h (e.trans z))]
      · rw [zb3 (p:=p) e,zb3 e,ih]
theorem zpk (k j:κ) (y:V):∀ kvs:List (κ×V),valV kvs k=none→valV (kvs++[(k,y)]) j=if j=k then some y else valV kvs j
  | [],_=>by
    by_cases e:k=j
    · rw [if_pos e.symm];exact zb4 (p:=(k,y)) e
    · rw [if_neg (fun z=>e z.symm)];exact zb3 (p:=(k,y)) e
  | p :: r,hn=>by
    rw [List.cons_append]
    have hk:¬p.1=k:=fun z=>by rw [zb4 z] at hn;cases hn
    rw [zb3 hk] at hn
    have ih:=zpk k j y r hn
    by_cases e:p.1=j
    · rw [zb4 e,zb4 e,if_neg (fun z=>hk (e.trans z))]
    · rw [zb3 e,zb3 e,ih]
theorem zyx (kvs:List (κ×V)) (k j:κ) (y:V):valV (putK kvs k y) j=if j=k then some y else valV kvs j:=by
  unfold putK
  by_cases a:(kvs.any fun kv=>decide (kv.1=k))=true
  · rw [if_pos a,zsn]
    rw [zh2] at a
    by_cases e:j=k
    · obtain ⟨x,hx⟩:=Option.isSome_iff_exists.mp a
      rw [if_pos e,e,hx,Option.map_some,if_pos rfl]
    · rw [if_neg e]
      cases valV kvs j with
      | none=>rfl
      | some x=>rw [Option.map_some,if_neg e]
  · rw [if_neg a]
    refine zpk k j y kvs ?_
    rw [zh2] at a
    cases q:valV kvs k with
    | none=>rfl
    | some x=>rw [q] at a;exact (a rfl).elim
theorem zdu (kvs:List (κ×V)) (k:κ) (v:V):(putK kvs k v).length≤kvs.length+1:=by
  unfold putK
  split
  · rw [List.length_map];omega
  · rw [List.length_append,List.length_cons,List.length_nil];omega
theorem zm7 {kvs:List (κ×V)} {k:κ} (v:V) (h:valV kvs k=none):putK kvs k v=kvs++[(k,v)]:=by
  unfold putK
  rw [zh2,h]
  exact if_neg (by decide)
theorem RelO.isSome_eq {o:Option V} {u:Option Value} (r:RelO o u):o.isSome=u.isSome:=by
  cases o with
  | none=>cases u with
    | none=>rfl
    | some _=>exact (show False from r).elim
  | some _=>cases u with
    | none=>exact (show False from r).elim
    | some _=>rfl
theorem RelO.getD {o:Option V} {u:Option Value} {d:V} {d':Value} (r:RelO o u) (rd:RelV d d'):RelV (o.getD d) (u.getD d'):=by
  cases o with
  | none=>cases u with
    | none=>exact rd
    | some _=>exact (show False from r).elim
  | some _=>cases u with
    | none=>exact (show False from r).elim
    | some _=>exact r
theorem KV.val {kvs:List (κ×V)} {vs:List (κ×Value)} (r:KV kvs vs) (k:κ):RelO (valV kvs k) (valueAt vs k):=by
  unfold KV at r
  induction r with
  | nil=>exact True.intro
  | @cons p q ps qs h t ih=>
    obtain ⟨h1,h2⟩:=h
    by_cases e:p.1=k
    · have e':q.1=k:=h1.symm.trans e
      have b:valueAt (q :: qs) k=some q.2:=by simp [valueAt,List.find?_cons,e']
      rw [zb4 e,b];exact h2
    · have e':¬q.1=k:=fun z=>e (h1.trans z)
      have b:valueAt (q :: qs) k=valueAt qs k:=by simp [valueAt,List.find?_cons,e']
      rw [zb3 e,b];exact ih
theorem KV.any {kvs:List (κ×V)} {vs:List (κ×Value)} (r:KV kvs vs) (k:κ):(kvs.any fun kv=>decide (kv.1=k))=vs.any fun kv=>decide (kv.1=k):=by
  unfold KV at r
  induction r with
  | nil=>rfl
  | cons h t ih=>rw [List.any_cons,List.any_cons,ih,h.1]
theorem KV.repl {kvs:List (κ×V)} {vs:List (κ×Value)} (r:KV kvs vs) (k:κ) {y:V} {u:Value} (ry:RelV y u) :
    KV (kvs.map fun kv=>if kv.1=k then (kv.1,y) else kv) (vs.map fun kv=>if kv.1=k then (kv.1,u) else kv):=by
  unfold KV at r ⊢
  induction r with
  | nil=>exact .nil
  | @cons p q ps qs h t ih=>
    rw [List.map_cons,List.map_cons]
    refine .cons ?_ ih
    obtain ⟨h1,h2⟩:=h
    by_cases e:p.1=k
    · rw [if_pos e,if_pos (h1.symm.trans e)];exact ⟨h1,ry⟩
    · rw [if_neg e,if_neg (fun z=>e (h1.trans z))];exact ⟨h1,h2⟩
theorem KV.put {kvs:List (κ×V)} {vs:List (κ×Value)} (r:KV kvs vs) (k:κ) {y:V} {u:Value} (ry:RelV y u):KV (putK kvs k y) (stored vs k u):=by
  unfold putK stored
  rw [r.any k]
  by_cases e:(vs.any fun kv=>decide (kv.1=k))=true
  · rw [if_pos e,if_pos e];exact r.repl k ry
  · rw [if_neg e,if_neg e];exact Paired.snoc r ⟨rfl,ry⟩
theorem KV.length {kvs:List (κ×V)} {vs:List (κ×Value)} (r:KV kvs vs):kvs.length=vs.length:=Paired.length r
end
theorem zp7 {P:Program} {w:World} {k:Key} {u:Value} (r:RelV (kV k) u):(zb7 P w).is k u=true:=by
  cases k with
  | inl i=>obtain ⟨t,e⟩:=(show ∃ t,u=Value.int i t from r);subst e;exact zqb P w i t
  | inr x=>obtain ⟨t,e⟩:=(show ∃ t,u=Value.str x t from r);subst e;exact zqc P w x t
theorem zom {P:Program} {w:World}:∀ {ks:List Key} {us:List Value},Vals (ks.map kV) us→ItemsAre (zb7 P w) ks us
  | [],_,r=>by rw [List.map_nil] at r;cases r;exact .nil
  | k :: ks,_,r=>by
    rw [List.map_cons] at r
    cases r with
    | cons h t=>exact .cons (zp7 h) (zom t)
abbrev KT (H:Hp):List (List Key×V)→List (List Key×Addr×Value)→Prop:=Paired fun p q=>p.1=q.1∧H q.2.1=some (.tup (p.1.map kV))∧RelV p.2 q.2.2
theorem KT.val {H:Hp} {kvs:List (List Key×V)} {xs:List (List Key×Addr×Value)} (r:KT H kvs xs) (k:List Key):RelO (valV kvs k) ((atKey xs k).map (·.2)):=by
  induction r with
  | nil=>exact True.intro
  | @cons p q ps qs h t ih=>
    obtain ⟨h1,_,h2⟩:=h
    by_cases e:p.1=k
    · have e':q.1=k:=h1.symm.trans e
      have b:atKey (q :: qs) k=some q.2:=by simp [atKey,List.find?_cons,e']
      rw [zb4 e,b];exact h2
    · have e':¬q.1=k:=fun z=>e (h1.trans z)
      have b:atKey (q :: qs) k=atKey qs k:=by simp [atKey,List.find?_cons,e']
      rw [zb3 e,b];exact ih
theorem KT.repl {H:Hp} {kvs:List (List Key×V)} {xs:List (List Key×Addr×Value)} (r:KT H kvs xs) (k:List Key) {y:V} {u:Value} (ry:RelV y u) :
    KT H (kvs.map fun kv=>if kv.1=k then (kv.1,y) else kv) (xs.map (putAt k u)):=by
  induction r with
  | nil=>exact .nil
  | @cons p q ps qs h t ih=>
    rw [List.map_cons,List.map_cons]
    refine .cons ?_ ih
    obtain ⟨h1,h2,h3⟩:=h
    unfold putAt
    by_cases e:p.1=k
    · rw [if_pos e,if_pos (h1.symm.trans e)];exact ⟨h1,h2,ry⟩
    · rw [if_neg e,if_neg (fun z=>e (h1.trans z))];exact ⟨h1,h2,h3⟩
theorem KT.put {H:Hp} {kvs:List (List Key×V)} {xs:List (List Key×Addr×Value)} (r:KT H kvs xs) (k:List Key) {b:Addr} {y:V} {u:Value} (hb:H b=some (.tup (k.map kV))) (ry:RelV y u) :
    KT H (putK kvs k y) (storedH xs k b u):=by
  have e:(kvs.any fun kv=>decide (kv.1=k))=(atKey xs k).isSome:=by
    rw [zh2,(r.val k).isSome_eq,Option.isSome_map]
  unfold putK storedH
  rw [e]
  by_cases q:(atKey xs k).isSome=true
  · rw [if_pos q,if_pos q];exact r.repl k ry
  · rw [if_neg q,if_neg q];exact Paired.snoc r ⟨rfl,hb,ry⟩
theorem KT.keeps {H H':Hp} {kvs:List (List Key×V)} {xs:List (List Key×Addr×Value)} (r:KT H kvs xs) (ht:∀ b ys,H b=some (.tup ys)→H' b=some (.tup ys)):KT H' kvs xs:=
  Paired.mapP r fun _ _ z=>⟨z.1,ht _ _ z.2.1,z.2.2⟩
section
variable {P:Program} {w:World} {H:Hp} {h:Heap} {a:Addr}
theorem zC9 {u:HO} (ok:HOk P w H h) (e:Rd H a u):ObjOk P w H h a u:=e.ok ok
theorem zp2 {kvs:List (Key×V)} (ok:HOk P w H h) (e:Rd H a (.dK kvs)):kvs.length≤sizeLine∧(a == sysModules)=false∧∃ vs,KV kvs vs∧h.DictOf (zb7 P w) a vs:=
  show ObjOk P w H h a (.dK kvs) from zC9 ok e
theorem zCb {kvs:List (Key×V)} (ok:HOk P w H h) (e:H a=some (.dK kvs)):kvs.length≤sizeLine∧(a == sysModules)=false∧∃ vs,KV kvs vs∧h.DictOf (zb7 P w) a vs:=zp2 ok (.inl e)
theorem zlu {ks:List Key} (ok:HOk P w H h) (e:H a=some (.tup (ks.map kV))):(tupleKind (zb7 P w)).is h ks a:=by
  obtain ⟨_,its,r,o,h1,h2,n,h3⟩:=(show ObjOk P w H h a (.tup (ks.map kV)) from ok a _ e)
  exact ⟨o,its.toArray,n,h1,h2,h3,by simpa using zom r⟩
theorem zp3 {kvs:List (List Key×V)} (ok:HOk P w H h) (e:Rd H a (.dT kvs)):kvs.length≤sizeLine∧(a == sysModules)=false∧
    ∃ xs,KT H kvs xs∧h.DictOfH (tupleKind (zb7 P w)) a xs:=by
  obtain ⟨z,y,xs,r,o,es,ep,h1,h2,h3,h4,h5⟩:=(show ObjOk P w H h a (.dT kvs) from zC9 ok e)
  refine ⟨z,y,xs,r,o,es,ep,h1,h2,h3,h4,fun x hx=>?_,h5⟩
  have all:∀ {l:List (List Key×V)} {m:List (List Key×Addr×Value)},KT H l m→∀ x∈m,(tupleKind (zb7 P w)).is h x.1 x.2.1:=by
    intro l m q
    induction q with
    | nil=>intro x hx;exact nomatch hx
    | @cons p q ps qs hq t ih=>
      intro x hx
      rcases List.mem_cons.mp hx with e | hx
      · subst e
        exact zlu ok (by rw [← hq.1];exact hq.2.1)
      · exact ih x hx
  exact all r x hx
theorem zCc {kvs:List (List Key×V)} (ok:HOk P w H h) (e:H a=some (.dT kvs)):kvs.length≤sizeLine∧(a == sysModules)=false∧
    ∃ xs,KT H kvs xs∧h.DictOfH (tupleKind (zb7 P w)) a xs:=zp3 ok (.inl e)
end
def DGet (H:Hp) (a:Addr) (y:V) (r:Option V):Prop:=
  (∃ kvs k,Rd H a (.dK kvs)∧y=kV k∧r=valV kvs k)∨∃ kvs k b,Rd H a (.dT kvs)∧y = .ref b∧H b=some (.tup (k.map kV))∧r=valV kvs k
def DPut (H:Hp) (a:Addr) (y v:V) (H':Hp):Prop:=
  (∃ kvs k,H a=some (.dK kvs)∧y=kV k∧kvs.length<sizeLine∧H'=upd H a (.dK (putK kvs k v)))∨
  ∃ kvs k b,H a=some (.dT kvs)∧y = .ref b∧H b=some (.tup (k.map kV))∧kvs.length<sizeLine∧H'=upd H a (.dT (putK kvs k v))
theorem DGet.k {H:Hp} {a:Addr} {kvs:List (Key×V)} {k:Key} (e:H a=some (.dK kvs)):DGet H a (kV k) (valV kvs k):=.inl ⟨kvs,k, .inl e,rfl,rfl⟩
theorem DGet.t {H:Hp} {a b:Addr} {kvs:List (List Key×V)} {k:List Key} (e:H a=some (.dT kvs)) (eb:H b=some (.tup (k.map kV))):DGet H a (.ref b) (valV kvs k):=.inr ⟨kvs,k,b, .inl e,rfl,eb,rfl⟩
theorem DPut.k {H:Hp} {a:Addr} {kvs:List (Key×V)} {k:Key} {v:V} (e:H a=some (.dK kvs)) (hl:kvs.length<sizeLine):DPut H a (kV k) v (upd H a (.dK (putK kvs k v))):=.inl ⟨kvs,k,e,rfl,hl,rfl⟩
theorem DPut.t {H:Hp} {a b:Addr} {kvs:List (List Key×V)} {k:List Key} {v:V} (e:H a=some (.dT kvs)) (eb:H b=some (.tup (k.map kV))) (hl:kvs.length<sizeLine) :
    DPut H a (.ref b) v (upd H a (.dT (putK kvs k v))):=.inr ⟨kvs,k,b,e,rfl,eb,hl,rfl⟩
section
variable {X:Cx} {pins:List (Addr×Obj)} {σ:St} {H:Hp} {s:Shared} {a:Addr} {y v:V} {u r:Value} {o:Option V} {A:Around} {E:Value→Shared→Prop}
theorem Inv.big (I:Inv X pins σ H s):sysModules<s.heap.objs.size:=by
  have h:mainGlobals<s.heap.objs.size:=(I.mod.glob.keeps I.bk).lt
  exact Nat.lt_trans (by decide) h
theorem zue {Q:Value→Shared→Prop} (hu:A.units+1<cLine) (I:Inv X pins σ H s) (g:DGet H a y (some v)) (ry:RelV y u) (h:∀ w' s',Inv X pins σ H s'→RelV v w'→Q w' s') :
    wpAny (model X.prog X.w) A (getItem (.ref a) u) Q E s:=by
  rcases g with ⟨kvs,k,e,ey,l⟩ | ⟨kvs,k,b,e,ey,eb,l⟩
  · subst ey
    obtain ⟨z,hd,vs,rel,dd⟩:=zp2 I.hok e
    obtain ⟨w',hw,rw'⟩:=RelO.some_of (v:=v) (o:=valueAt vs k) (by rw [l];exact rel.val k)
    exact wpAny_getItem_of (zp7 ry) dd.mapOf hw (h w' _ (I.tok _) rw')
  · subst ey
    cases (show u=Value.ref b from ry)
    obtain ⟨z,hd,xs,rel,dd⟩:=zp3 I.hok e
    obtain ⟨w',hw,rw'⟩:=RelO.some_of (v:=v) (o:=(atKey xs k).map (·.2)) (by rw [l];exact rel.val k)
    obtain ⟨p,hp,hp2⟩:=Option.map_eq_some_iff.mp hw
    refine wpAny_getItem_heap (tupleKind_room_in1 hu) (zlu I.hok eb) dd hp ?_
    rw [hp2]
    exact h w' _ (I.tok _) rw'
theorem d_in {Q:Value→Shared→Prop} (hu:A.units+1<cLine) (I:Inv X pins σ H s) (g:DGet H a y o) (ry:RelV y u) (h:∀ s',Inv X pins σ H s'→Q (.bool o.isSome) s') :
    wpAny (model X.prog X.w) A (compareOp .In u (.ref a)) Q E s:=by
  rcases g with ⟨kvs,k,e,ey,l⟩ | ⟨kvs,k,b,e,ey,eb,l⟩
  · subst ey
    obtain ⟨z,hd,vs,rel,dd⟩:=zp2 I.hok e
    refine wpAny_in_of (zp7 ry) hd dd.mapOf ?_
    rw [← (rel.val k).isSome_eq,← l]
    exact h _ (I.tok _)
  · subst ey
    cases (show u=Value.ref b from ry)
    obtain ⟨z,hd,xs,rel,dd⟩:=zp3 I.hok e
    refine wpAny_in_heap (tupleKind_room_in1 hu) (zlu I.hok eb) hd dd ?_
    have q:=(rel.val k).isSome_eq
    rw [Option.isSome_map] at q
    rw [← q,← l]
    exact h _ (I.tok _)
theorem zz2 {Q:Value→Shared→Prop} (hu:A.units+1<cLine) (I:Inv X pins σ H s) (g:DGet H a y o) (ry:RelV y u) (h:∀ s',Inv X pins σ H s'→Q (.bool (!o.isSome)) s') :
    wpAny (model X.prog X.w) A (compareOp .NotIn u (.ref a)) Q E s:=by
  rcases g with ⟨kvs,k,e,ey,l⟩ | ⟨kvs,k,b,e,ey,eb,l⟩
  · subst ey
    obtain ⟨z,hd,vs,rel,dd⟩:=zp2 I.hok e
    refine wpAny_notIn_of (zp7 ry) hd dd.mapOf ?_
    rw [← (rel.val k).isSome_eq,← l]
    exact h _ (I.tok _)
  · subst ey
    cases (show u=Value.ref b from ry)
    obtain ⟨z,hd,xs,rel,dd⟩:=zp3 I.hok e
    refine wpAny_notIn_heap (tupleKind_room_in1 hu) (zlu I.hok eb) hd dd ?_
    have q:=(rel.val k).isSome_eq
    rw [Option.isSome_map] at q
    rw [← q,← l]
    exact h _ (I.tok _)
theorem zpy {h':Heap} {t':Nat} {ob:HO} (I:Inv X pins σ H s) (mu:Mut (H a)) (hs:Heap.SameBut a s.heap h') (he:∃ q,h'.get? a=some q) (new:ObjOk X.prog X.w (upd H a ob) h' a ob) :
    Inv X pins σ (upd H a ob) { s with heap:=h',toks:=t' }:=
  I.write (x:=a) (e:=a) mu (.inl rfl) (fun b q hb z=>(hs.2 b hb).trans z) he new
theorem zy8 {P:Program} {w:World} {H':Hp} {h':Heap} {kvs:List (Key×V)} {vs:List (Key×Value)} (z:kvs.length≤sizeLine) (hd:(a == sysModules)=false) (rel:KV kvs vs) (dd:h'.DictOf (zb7 P w) a vs) :
    ObjOk P w H' h' a (.dK kvs):=⟨z,hd,vs,rel,dd⟩
theorem zuf {H':Hp} {Q:Unit→Shared→Prop} (hu:A.units+1<cLine) (I:Inv X pins σ H s) (g:DPut H a y v H') (ry:RelV y u) (rv:RelV v r) (h:∀ s',Inv X pins σ H' s'→Q () s') :
    wpAny (model X.prog X.w) A (setItem (.ref a) u r) Q E s:=by
  rcases g with ⟨kvs,k,e,ey,l,eH⟩ | ⟨kvs,k,b,e,ey,eb,l,eH⟩
  · subst ey eH
    obtain ⟨z,hd,vs,rel,dd⟩:=zCb I.hok e
    have hz:vs.length≤sizeLine:=by rw [← rel.length];exact z
    have hl:(putK kvs k v).length≤sizeLine:=by have:=zdu kvs k v;omega
    refine wpAny_setItem_pairs (hsz:=hz) (zp7 ry) dd fun h' dd' hs=>h _ ?_
    have he:∃ q,h'.get? a=some q:=let ⟨q,_,_,hq,_⟩:=dd'; ⟨q,hq⟩
    exact zpy I (by rw [e];exact True.intro) hs he (zy8 hl hd (rel.put k rv) dd')
  · subst ey eH
    cases (show u=Value.ref b from ry)
    obtain ⟨z,hd,xs,rel,dd⟩:=zCc I.hok e
    have hz:xs.length≤sizeLine:=by rw [← Paired.length rel];exact z
    have hl:(putK kvs k v).length≤sizeLine:=by have:=zdu kvs k v;omega
    refine wpAny_setItem_heap (hsz:=hz) (tupleKind_room_in1 hu) (zlu I.hok eb) dd fun h' dd' hs=>h _ ?_
    obtain ⟨q,es,ep,hq,h2,h3,h4,_,h5⟩:=dd'
    refine zpy I (by rw [e];exact True.intro) hs ⟨q,hq⟩ ⟨hl,hd,_,(rel.put k eb rv).keeps fun c ys ec=>?_,q,es,ep,hq,h2,h3,h4,h5⟩
    rw [zag (zD0 ec e (fun z=>nomatch z))]
    exact ec
end
section
variable {X:Cx} {pins:List (Addr×Obj)} {σ:St} {H:Hp} {s:Shared} {a:Addr} {kvs:List (Key×V)} {k:Key} {u:Value} {A:Around} {E:Value→Shared→Prop}
end
def NoSl (i:Expr):Prop:=∀ ov iv,subscripted i false ov iv=operate [ov,iv] (getItem ov iv)
theorem zBk {prog:Program} {w:World} {A:Around} {E:Value→Shared→Prop} {s:Shared} {env:Env} {value slice:Expr} {pos:Pos} {T id:String} {Q:Value→Shared→Prop}
    (hl:typeLookup (.type T) "__getitem__"=pure (some (.builtin id))) (hs:NoSl slice)
    (h:wpAny (model prog w) A (eval value env) (fun o s₁=>wpAny (model prog w) A (eval slice env) (fun i s₂=>s₂.TypeIs o T∧wpAny (model prog w) A (getItem o i) Q E s₂) E s₁) E s) :
    wpAny (model prog w) A (eval (.Subscript value slice pos) env) Q E s:=by
  refine Subscript_ (wpAny_mono h (fun o s₁ h₁=>wpAny_mono h₁ (fun i s₂ h₂=>?_) fun _ _ x=>x) fun _ _ x=>x)
  obtain ⟨hT,h₂⟩:=h₂
  unfold subscriptTail
  refine wpAny_bind ?_
  rw [getitemInPython_of_ne hT.not_modules]
  refine wpAny_bind (wpAny_specialOf hT hl ?_)
  have fin:wpAny (model prog w) A (subscripted slice false o i) (fun r s₃=>wpAny (model prog w) A (letTemporaryGo value o r >>= fun _=>pure r) Q E s₃) E s₂:=by
    rw [hs o i]
    exact wpAny_operating (wpAny_mono h₂ (fun r s₃ h₃=>wpAny_bind (wpAny_letTemporaryGo (wpAny_pure h₃))) fun _ _ x=>x)
  first
    | exact wpAny_pure (wpAny_bind fin)
    | exact wpAny_bind (wpAny_pure (wpAny_bind fin))
    | exact wpAny_bind fin
theorem zp1 {X:Cx} {pins:List (Addr×Obj)} {σ:St} {H:Hp} {s:Shared} {a:Addr} {y:V} {o:Option V} (I:Inv X pins σ H s) (g:DGet H a y o):s.TypeIs (.ref a) "dict":=by
  rcases g with ⟨kvs,k,e,_,_⟩ | ⟨kvs,k,b,e,_,_,_⟩
  · obtain ⟨_,_,vs,_,dd⟩:=zp2 I.hok e
    exact dd.typeIs
  · obtain ⟨_,_,xs,_,dd⟩:=zp3 I.hok e
    exact dd.typeIs
def zD8 (td ty:TE):TE:=fun σ H Q=>td σ H fun x H1=>ty σ H1 fun y H2=>E2 fun a v=>A3 (x = .ref a) (DGet H2 a y (some v)) (Q v H2)
def tDIn (ty td:TE):TE:=fun σ H Q=>ty σ H fun y H1=>td σ H1 fun x H2=>E2 fun a o=>A3 (x = .ref a) (DGet H2 a y o) (Q (.bl o.isSome) H2)
def zBl (ty td:TE):TE:=fun σ H Q=>ty σ H fun y H1=>td σ H1 fun x H2=>E2 fun a o=>A3 (x = .ref a) (DGet H2 a y o) (Q (.bl (!o.isSome)) H2)
def zA6 (td ty tv:TE):TS:=fun D σ H=>tv σ H fun v H1=>td σ H1 fun x H2=>ty σ H2 fun y H3=>E2 fun a H4=>A3 (x = .ref a) (DPut H3 a y v H4) (D.nx σ H4)
section
variable {X:Cx} {o i e value:Expr} {pos pos' tpos:Pos} {td ty tv:TE}
theorem zdl (hu:X.A.units+1<cLine) (ho:PE X o td) (hi:PE X i ty) (hs:NoSl i):PE X (.Subscript o i pos) (zD8 td ty):=by
  intro pins s σ H Q I h
  refine zBk PySem.F.slot_dict_getitem.lookup hs (thn (ho pins s σ H _ I h) fun u s1 ⟨x,H1,I1,rx,q1⟩=>thn (hi pins s1 σ H1 _ I1 q1) fun iv s2 ⟨y,H2,I2,ry,a,v,ex,g,q2⟩=>?_)
  subst ex
  obtain rfl:u=Value.ref a:=rx
  exact ⟨zp1 I2 g,zue hu I2 g ry fun w' s3 I3 rw'=>⟨v,H2,I3,rw',q2⟩⟩
theorem zC2 (hu:X.A.units+1<cLine) (hi:PE X i ty) (ho:PE X o td):PC X .In i o (tDIn ty td):=by
  intro pins s σ H Q I h
  refine thn (hi pins s σ H _ I h) fun iv s1 ⟨y,H1,I1,ry,q1⟩=>thn (ho pins s1 σ H1 _ I1 q1) fun u s2 ⟨x,H2,I2,rx,a,ov,ex,g,q2⟩=>?_
  subst ex
  obtain rfl:u=Value.ref a:=rx
  exact d_in hu I2 g ry fun s3 I3=>⟨.bl ov.isSome,H2,I3,rfl,q2⟩
theorem zeo (hu:X.A.units+1<cLine) (hi:PE X i ty) (ho:PE X o td):PC X .NotIn i o (zBl ty td):=by
  intro pins s σ H Q I h
  refine thn (hi pins s σ H _ I h) fun iv s1 ⟨y,H1,I1,ry,q1⟩=>thn (ho pins s1 σ H1 _ I1 q1) fun u s2 ⟨x,H2,I2,rx,a,ov,ex,g,q2⟩=>?_
  subst ex
  obtain rfl:u=Value.ref a:=rx
  exact zz2 hu I2 g ry fun s3 I3=>⟨.bl (!ov.isSome),H2,I3,rfl,q2⟩
theorem zg1 (hu:X.A.units+1<cLine) (ho:PE X o td) (hi:PE X i ty) (hv:PE X value tv) (hs:swapsWith value (some (.Subscript o i pos')) pos.line X.env=pure false) :
    PS X (.Assign [.Subscript o i pos'] value pos) (zA6 td ty tv):=by
  intro pins s σ H D I h
  refine wpAny_Assign_Subscript (thn (hv pins s σ H _ I h) fun r s1 ⟨v,H1,I1,rv,q1⟩=>thn (ho pins s1 σ H1 _ I1 q1) fun u s2 ⟨x,H2,I2,rx,q2⟩=>thn (hi pins s2 σ H2 _ I2 q2) fun iv s3 ⟨y,H3,I3,ry,a,H4,ex,g,q3⟩=>?_) hs
  subst ex
  obtain rfl:u=Value.ref a:=rx
  exact zuf hu I3 g ry rv fun s4 I4=>⟨σ,H4,I4,q3⟩
end
theorem zxd {P:Program} {w:World} {H:Hp} (h:Heap) (hb:sysModules<h.objs.size):ObjOk P w H (h.push { cls:=.type "dict",data:=.dict #[] }) h.objs.size (.dK []):=
  ⟨Nat.zero_le _,beq_eq_false_iff_ne.mpr (Ne.symm (Nat.ne_of_lt hb)),[], .nil,Heap.DictOf.new h⟩
theorem zxe {P:Program} {w:World} {H:Hp} (h:Heap) (hb:sysModules<h.objs.size):ObjOk P w H (h.push { cls:=.type "dict",data:=.dict #[] }) h.objs.size (.dT []):=
  ⟨Nat.zero_le _,beq_eq_false_iff_ne.mpr (Ne.symm (Nat.ne_of_lt hb)),[], .nil,_,#[],0,Heap.get?_push_size _ rfl,⟨rfl,rfl,rfl⟩,rfl,rfl,List.nodup_nil⟩
def zDi:TE:=fun _ H Q=>∀ p,H p=none→Q (.ref p) (upd H p (.dK []))
def zDj:TE:=fun _ H Q=>∀ p,H p=none→Q (.ref p) (upd H p (.dT []))
section
variable {X:Cx} {pos:Pos}
theorem zr9:PE X (.Dict [] [] pos) zDi:=fun pins s σ H Q I h=>
  wpAny_Dict_empty ⟨.ref s.heap.objs.size,_,I.laid (a:=s.heap.objs.size) (o:=.dK []) (t':=s.toks) (fun _ _ q=>Heap.get?_push_of_some _ q) (Nat.le_refl _) (zxd s.heap I.big),rfl,h _ (I.hok.fresh (Nat.le_refl _))⟩
theorem zft:PE X (.Dict [] [] pos) zDj:=fun pins s σ H Q I h=>
  wpAny_Dict_empty ⟨.ref s.heap.objs.size,_,I.laid (a:=s.heap.objs.size) (o:=.dT []) (t':=s.toks) (fun _ _ q=>Heap.get?_push_of_some _ q) (Nat.le_refl _) (zxe s.heap I.big),rfl,h _ (I.hok.fresh (Nat.le_refl _))⟩
end
structure M2 (X:Cx) (o:Expr) (m:Str) (apos:Pos) (e f:Expr) (cpos:Pos):Prop where
  base:attributeBase o m X.env (eval o X.env)=eval o X.env
  few:((backTo cpos (starEach [e,f] X.env)).all (fun x=>!x.1)&&(backToKw cpos (keywordEach [] X.env)).all (fun x=>x.1.isSome)
    && decide (([e,f]:List Expr).length+([]:List Keyword).length+(if ([]:List Keyword).isEmpty then 0 else 1)<30))=true
  line:(apos.endLine == cpos.line)=true
  trees:backTo cpos (starEach [e,f] X.env)=[(false,eval e X.env),(false,eval f X.env)]
def IsD (H:Hp) (a:Addr):Prop:=(∃ kvs,Rd H a (.dK kvs))∨∃ kvs,Rd H a (.dT kvs)
theorem zzb {X:Cx} {pins:List (Addr×Obj)} {σ:St} {H:Hp} {s:Shared} {a:Addr} (I:Inv X pins σ H s) (d:IsD H a) :
    s.TypeIs (.ref a) "dict"∧(∀ b,Value.ref a = .ref b→∃ ob,s.heap.get? b=some ob∧ob.dict=none)∧(a == sysModules)=false:=by
  rcases d with ⟨kvs,e⟩ | ⟨kvs,e⟩
  · obtain ⟨_,hd,vs,_,dd⟩:=zp2 I.hok e
    refine ⟨dd.typeIs,fun b q=>?_,hd⟩
    cases q
    obtain ⟨ob,_,_,h1,h2,_⟩:=dd
    exact ⟨ob,h1,h2.2.1⟩
  · obtain ⟨_,hd,xs,_,dd⟩:=zp3 I.hok e
    refine ⟨dd.typeIs,fun b q=>?_,hd⟩
    cases q
    obtain ⟨ob,_,_,h1,h2,_⟩:=dd
    exact ⟨ob,h1,h2.2.1⟩
section
variable {X:Cx} {pins:List (Addr×Obj)} {σ:St} {H:Hp} {s:Shared} {a:Addr} {y d:V} {u r:Value} {o:Option V} {A:Around} {E:Value→Shared→Prop}
theorem zCa {Q:Value→Shared→Prop} (hu:A.units+1<cLine) (I:Inv X pins σ H s) (g:DGet H a y o) (ry:RelV y u) (rd:RelV d r) (h:∀ w' s',Inv X pins σ H s'→RelV (o.getD d) w'→Q w' s') :
    wpAny (model X.prog X.w) A (call (.builtin "dict.get") [.ref a,u,r]) Q E s:=by
  rcases g with ⟨kvs,k,e,ey,l⟩ | ⟨kvs,k,b,e,ey,eb,l⟩
  · subst ey
    obtain ⟨z,hd,vs,rel,dd⟩:=zp2 I.hok e
    refine call_meetsIn PySem.F.slot_dict_get dd.typeIs PySem.F.entry_dict_get (PySem.F.args_dict_get_3 _ _ _) (meets_dict_get_default (zb7 X.prog X.w) a (zp7 ry) hd r) ⟨_,dd.mapOf,h _ _ (I.tok _) ?_⟩
    rw [l]
    exact (rel.val k).getD rd
  · subst ey
    cases (show u=Value.ref b from ry)
    obtain ⟨z,hd,xs,rel,dd⟩:=zp3 I.hok e
    refine call_meetsIn PySem.F.slot_dict_get dd.typeIs PySem.F.entry_dict_get (PySem.F.args_dict_get_3 _ _ _) (meetsH_dict_get_default (tupleKind (zb7 X.prog X.w)) a b hd r) ⟨tupleKind_room_in1 hu,k,xs,zlu I.hok eb,dd,h _ _ (I.tok _) ?_⟩
    rw [l]
    exact (rel.val k).getD rd
end
def zDh (td ty tx:TE):TE:=fun σ H Q=>td σ H fun x H1=>∃ a,A3 (x = .ref a) (IsD H1 a) (ty σ H1 fun y H2=>tx σ H2 fun z H3=>G1 (fun o=>DGet H3 a y o) fun o=>Q (o.getD z) H3)
section
variable {X:Cx} {o e f:Expr} {apos cpos:Pos} {td ty tx:TE}
theorem zr8 (hu:X.A.units+1<cLine) (ho:PE X o td) (he:PE X e ty) (hf:PE X f tx) (m:M2 X o "get" apos e f cpos):PE X (.Call (.Attribute o "get" apos) [e,f] [] cpos) (zDh td ty tx):=by
  intro pins s σ H Q I h
  refine wpAny_Call_method m.base m.few m.line PySem.F.plainAttrs_dict PySem.F.slot_dict_get PySem.F.type_dict_get (thn (ho pins s σ H _ I h) fun u s1 ⟨x,H1,I1,rx,a,ex,d,q1⟩=>?_)
  subst ex
  obtain rfl:u=Value.ref a:=rx
  obtain ⟨t1,t2,_⟩:=zzb I1 d
  refine ⟨t1,t2,?_⟩
  rw [m.trees]
  refine Calls.callWith_builtin rfl (Calls.evalArgs_plain (Calls.spliced_cons (thn (he pins s1 σ H1 _ I1 q1) fun iv s2 ⟨y,H2,I2,ry,q2⟩=>
    Calls.spliced_cons (thn (hf pins s2 σ H2 _ I2 q2) fun fv s3 ⟨z,H3,I3,rz,ov,g,q3⟩=>Calls.spliced_nil ?_))))
  exact zCa hu I3 g ry rz fun w' s4 I4 rw'=>⟨_,H3,I4,rw',q3⟩
end
section
variable {X:Cx} {pins:List (Addr×Obj)} {σ:St} {H:Hp} {s:Shared} {a:Addr} {kvs:List (Key×V)} {A:Around} {E:Value→Shared→Prop}
end
section
variable {X:Cx} {pins:List (Addr×Obj)} {σ:St} {H:Hp} {s:Shared} {a:Addr} {y:V} {u:Value} {A:Around} {E:Value→Shared→Prop}
end
end L2
namespace L2
open PySem PySem.Spec PyProof.Rows
section
variable {prog:Program} {w:World} {A:Around} {E:Value→Shared→Prop}
end
section
variable {X:Cx}
end
end L2
namespace L2
open PySem PySem.Spec PyProof.Rows
section
variable {X:Cx} {pins:List (Addr×Obj)} {σ:St} {H:Hp} {s:Shared} {h':Heap}
theorem Inv.lock {d:Addr} {u:HO} (I:Inv X pins σ H s) (h:H d=some u) (mu:Mut (some u)):∃ od,Inv X pins σ (upd H d (.frz od u)) s:=by
  have x:=I.hok d u h
  have ex:∃ od,s.heap.get? d=some od:=by
    cases u with
    | lst xs=>obtain ⟨_,_,_,_,e⟩:=x;exact ⟨_,e⟩
    | dK kvs=>obtain ⟨_,_,_,_,o,_,_,e,_⟩:=x;exact ⟨o,e⟩
    | dT kvs=>obtain ⟨_,_,_,_,o,_,_,e,_⟩:=x;exact ⟨o,e⟩
    | set S n=>obtain ⟨o,_,_,_,e,_⟩:=x;exact ⟨o,e⟩
    | ins C dx fs=>obtain ⟨_,_,_,e,_⟩:=x;exact ⟨_,e⟩
    | ext φ=>obtain ⟨_,⟨_,e⟩,_⟩:=x;exact ⟨_,e⟩
    | _=>exact False.elim mu
  obtain ⟨od,e⟩:=ex
  have new:ObjOk X.prog X.w (upd H d (.frz od u)) s.heap d (.frz od u):=by
    refine ⟨e,x.stay (fun b v _ q=>q) (fun b q=>?_) fun b xs q=>?_⟩
    · rw [zag (fun z=>by rw [z,h] at q;cases q;exact mu)];exact q
    · rw [zag (fun z=>by rw [z,h] at q;cases q;exact mu)];exact q
  exact ⟨od,I.write (x:=d) (e:=d) (t':=s.toks) (h':=s.heap) (by rw [h];exact mu) (.inl rfl) (fun b v _ q=>q) ⟨od,e⟩ new⟩
theorem Inv.nofrz {d:Addr} {u:HO} (I:Inv X pins σ H s) (h:H d=some u) (mu:Mut (some u)):∀ o' u',X.H_0 d≠some (.frz o' u'):=fun o' u' e=>by
  have q:=I.base.frzs d o' u' e
  rw [h] at q
  cases q
  exact mu
theorem Inv.unlock {d:Addr} {od:Obj} {u:HO} (I:Inv X pins σ H s) (h:H d=some (.frz od u)) (hn:∀ o' u',X.H_0 d≠some (.frz o' u')):Inv X pins σ (upd H d u) s:=by
  have neH:∀ b o,H b=some o→(∀ o' u',o≠.frz o' u')→b≠d:=fun b o e hne z=>by
    rw [z,h] at e
    cases e
    exact hne _ _ rfl
  have neN:∀ b,H b=none→b≠d:=fun b e z=>by rw [z,h] at e;cases e
  refine ⟨I.ok,I.os,I.bare,⟨I.base.keep,I.base.slot,fun b o e n hx=>?_,I.base.there,fun b xs e=>?_,fun b o x e=>?_,fun b ps e=>?_⟩,I.loc,I.cell,?_,fun x c e=>?_,fun p hp=>?_,fun b o e=>?_,I.len⟩
  · rw [zag (neN b (I.base.free b o e n hx))];exact I.base.free b o e n hx
  · have q:=I.base.tups b xs e
    rw [zag (neH b _ q (fun _ _ z=>nomatch z))];exact q
  · have q:=I.base.frzs b o x e
    rw [zag (fun z=>by rw [z] at e;exact hn _ _ e)];exact q
  · obtain ⟨m,q⟩:=I.base.tbls b ps e
    exact ⟨m,by rw [zag (neH b _ q (fun _ _ z=>nomatch z))];exact q⟩
  · rw [zag (neN _ I.free)];exact I.free
  · rw [zag (neN c (I.freeC x c e))];exact I.freeC x c e
  · obtain ⟨e,n,r⟩:=I.pin p hp
    exact ⟨e,by rw [zag (neN _ n)];exact n,r⟩
  · by_cases hb:b=d
    · rw [hb,zaf] at e
      cases e
      rw [hb]
      obtain ⟨_,x⟩:=I.hok d _ h
      exact x.stay (fun c v _ q=>q) (fun c q=>by rw [zag (neH c _ q (fun _ _ z=>nomatch z))];exact q) fun c xs q=>by rw [zag (neH c _ q (fun _ _ z=>nomatch z))];exact q
    · rw [zag hb] at e
      exact (I.hok b o e).stay (fun c v _ q=>q) (fun c q=>by rw [zag (neH c _ q (fun _ _ z=>nomatch z))];exact q) fun c xs q=>by rw [zag (neH c _ q (fun _ _ z=>nomatch z))];exact q
end
def zEa (t:TS):TS:=fun D σ H=>∃ d u,H d=some u∧Mut (some u)∧∀ od,t ⟨fun σ' H'=>H' d=some (.frz od u)∧D.nx σ' (upd H' d u),fun v H'=>H' d=some (.frz od u)∧D.rt v (upd H' d u),fun σ' H'=>H' d=some (.frz od u)∧D.bk σ' (upd H' d u),fun σ' H'=>H' d=some (.frz od u)∧D.ct σ' (upd H' d u)⟩ σ (upd H d (.frz od u))
section
variable {X:Cx}
theorem zkn {st:Stmt} {t:TS} (h:PS X st t):PS X st (zEa t):=by
  intro pins s σ H D I hw
  obtain ⟨d,u,hd,mu,hw⟩:=hw
  obtain ⟨od,I1⟩:=I.lock hd mu
  refine thn (h pins s σ _ _ I1 (hw od)) fun f s1 q=>?_
  cases f with
  | next=>obtain ⟨σ',H',I2,e,q⟩:=q;exact ⟨σ',_,I2.unlock e (I.nofrz hd mu),q⟩
  | brk=>obtain ⟨σ',H',I2,e,q⟩:=q;exact ⟨σ',_,I2.unlock e (I.nofrz hd mu),q⟩
  | cont=>obtain ⟨σ',H',I2,e,q⟩:=q;exact ⟨σ',_,I2.unlock e (I.nofrz hd mu),q⟩
  | ret v=>obtain ⟨x,σ',H',I2,r,e,q⟩:=q;exact ⟨x,σ',_,I2.unlock e (I.nofrz hd mu),r,q⟩
theorem zo9 {tg:Expr} {pins:List (Addr×Obj)} {σ:St} {H:Hp} {s:Shared} {R:It→Hp→Prop} {J:It} {tn:Nat→Heap→Prop} {tk:Nat} (I:Inv X pins σ H s) (o:Obj)
    (T:Turn X.prog X.w X.K tg J [s.heap.objs.size] s.heap.objs.size tn) (st:tn 0 (s.heap.push o)) (q:R J H):PIE X pins σ tg R (.ref s.heap.objs.size) { s with heap:=s.heap.push o,toks:=tk }:=by
  refine ⟨s.heap.objs.size,[s.heap.objs.size],tn,J,H,rfl,I.kept fun b ob e=>Heap.get?_push_of_some _ e,T,st,fun b hb=>?_,q⟩
  have e:b=s.heap.objs.size:=by simpa using hb
  subst e
  exact I.fpOk (Nat.le_refl _) (I.hok.fresh (Nat.le_refl _))
end
def Itc (lo c:Int) (n:Nat):It:=⟨fun i _=>i<n,fun i H x H'=>H'=H∧x = .int (lo+(i:Nat)*c),fun i _=>n≤i⟩
theorem zra {P:Program} {w:World} {K:W.Frag} {tg:Expr} (it:Addr) (lo c:Int) (n:Nat):Turn P w K tg (Itc lo c n) [it] it (fun i h=>IsRangeIter h it (lo+(i:Nat)*c) ((n:Int)-(i:Nat)) c) where
  mem:=by simp
  obj:=fun i h st b hb=>by
    have e:b=it:=by simpa using hb
    subst e
    exact ⟨_,st,fun v z=>nomatch z⟩
  keep:=fun i h h' st k=>k it (by simp) _ st
  item:=by
    intro X hP hw hK hc i pins s σ H E I hf st hg
    subst hP hw hK
    obtain ⟨f0,f1,f2,f3,f4,f5⟩:=hf it (by simp)
    have W:=Walks.range (prog:=X.prog) (w:=X.w) (I.ok.hd hc) it lo c n
    refine W.item i s _ _ hg st fun v h' tk hv st' kk=>?_
    obtain ⟨t,rfl⟩:=hv
    have I1:Inv X pins σ H { s with heap:=h',toks:=tk }:=I.turned (fun b o hb e=>kk b o (by simpa using hb) e) f0 f1 f3 f4 f5
    exact ⟨_,rfl,zp5 (s:={ s with heap:=h',toks:=tk }) (n:="range_iterator") st' rfl rfl (by decide) ⟨.int (lo+(i:Nat)*c),H,I1,⟨t,rfl⟩,⟨rfl,rfl⟩,st',fun b hb=>(hf b hb).1⟩⟩
  done:=by
    intro X hP hw hK hc i pins s σ H E I hf st hg
    subst hP hw hK
    obtain ⟨f0,f1,f2,f3,f4,f5⟩:=hf it (by simp)
    exact wpAny_pyNext_range_end (I.ok.hd hc) st (by have:n≤i:=hg;omega) fun h' eb=>⟨rfl,I.turned (t':=s.toks) (fun b o hb e=>eb b o hb e) f0 f1 f3 f4 f5⟩
  self:=fun A i s Q E st h=>wpAny_pyIter_rangeiter st h
def RgC (i j c:Int) (n:Nat):Prop:=c≠0∧c.natAbs<1073741824∧Builtin.Range.small i j c=true∧Builtin.Range.rangeSize i j c=n
def zDx (ta:TA):TI:=fun σ H R=>ta σ H fun vs H1=>E4 fun (i:Int) (j:Int) (c:Int) (n:Nat)=>A3 (vs=[.int i, .int j, .int c]) (RgC i j c n) (R (Itc i c n) H1)
section
variable {X:Cx} {tg:Expr}
theorem zhv {a b c:Expr} {ta:TA} {p pos:Pos} (hg:Gl X "range") (hm:X.mg "range"=none) (ha:PA X [a,b,c] ta)
    (hs:starEach [a,b,c] X.env=(false,eval a X.env) :: starEach [b,c] X.env:=by rfl) (hpl:(backTo pos (starEach [b,c] X.env)).any (·.1)=false:=by rfl) :
    PI X tg (.Call (.Name "range" p) [a,b,c] [] pos) (zDx ta):=by
  intro pins s σ H R I h
  refine Call_ (zkf I hg hm boot_range (PyProof.Rows.callWith_type1 (thn (ha pos pins s σ H _ I h) fun us s1 ⟨vs,H1,I1,r1,q1⟩=>?_) hs hpl))
  obtain ⟨i,j,k,n,e,⟨c0,c1,c2,c3⟩,q⟩:=q1
  subst e
  cases r1 with
  | cons r rr=>
    cases rr with
    | cons r' rr=>
      cases rr with
      | cons r'' rr=>
        cases rr
        obtain ⟨t,rfl⟩:=r
        obtain ⟨t',rfl⟩:=r'
        obtain ⟨t'',rfl⟩:=r''
        refine call_range_3 c0 ?_ (.inl (PyProof.noPylong_small c1))
        refine wpAny_pyIter_range (IsRange.new ..) c2 ?_
        have I2:Inv X pins σ H1 { s1 with heap:=s1.heap.push { cls:=.type "range",data:=.fields #[.int i t, .int j t', .int k t''] } }:=I1.kept (t':=s1.toks) fun b o e=>Heap.get?_push_of_some _ e
        refine zo9 (tk:=s1.toks) I2 _ (zra _ i k n) ?_ q
        have e1:i+((0:Nat):Int)*k=i:=by simp
        have e2:(n:Int)-((0:Nat):Int)=Builtin.Range.rangeSize i j k:=by rw [c3];simp
        show IsRangeIter _ _ (i+((0:Nat):Int)*k) ((n:Int)-((0:Nat):Int)) k
        rw [e1,e2]
        exact Heap.get?_push_size _ rfl
end
theorem zih {lo c:Int} {n:Nat} {g:TG} {tb:TS} {D:Ends} {σ:St} {H:Hp} (Pv:Nat→St→Hp→Prop) (h0:Pv 0 σ H)
    (hs:∀ i σ H,i<n→Pv i σ H→g (.int (lo+(i:Nat)*c)) σ H fun σ2 H2=>tb { D with nx:=Pv (i+1),ct:=Pv (i+1),bk:=D.nx } σ2 H2) (hd:∀ σ H,Pv n σ H→D.nx σ H) :
    ∃ W:Nat→Nat→St→Hp→Prop,(∃ m,W 0 m σ H)∧∀ i m σ H,W i m σ H→
      ((Itc lo c n).stop i H∧D.nx σ H)∨((Itc lo c n).go i H∧∃ N:St→Hp→Prop,(∀ σ' H',N σ' H'→∃ m',m'<m∧W (i+1) m' σ' H')∧∀ x H',(Itc lo c n).yld i H x H'→g x σ H' fun σ2 H2=>tb { D with nx:=N,ct:=N,bk:=D.nx } σ2 H2):=by
  refine ⟨fun i m σ H=>m=n-i∧i≤n∧Pv i σ H,⟨n,by simp,Nat.zero_le _,h0⟩,?_⟩
  rintro i m σ H ⟨rfl,hi,p⟩
  by_cases hlt:i<n
  · refine .inr ⟨hlt,Pv (i+1),fun σ' H' p'=>⟨n-(i+1),by omega,rfl,hlt,p'⟩,fun x H' y=>?_⟩
    obtain ⟨e,y⟩:=y
    subst e y
    exact hs i σ _ hlt p
  · have e:i=n:=by omega
    subst e
    exact .inl ⟨Nat.le_refl _,hd σ H p⟩
section
variable {X:Cx} {tg:Expr}
end
def Its (x:Str):It:=⟨fun i _=>i<x.cps.size,fun i H v H'=>H'=H∧∃ c,x.cps[i]? = some c∧v = .str ⟨#[c]⟩,fun i _=>x.cps.size≤i⟩
theorem zsk {P:Program} {w:World} {K:W.Frag} {tg:Expr} (it:Addr) (x:Str) (t:Tok) (ty:String) (hty:ty="str_ascii_iterator"∨ty="str_iterator") :
    Turn P w K tg (Its x) [it] it (fun i h=>h.IsStrIter it ty x t i) where
  mem:=by simp
  obj:=fun i h st b hb=>by
    have e:b=it:=by simpa using hb
    subst e
    obtain ⟨o,e,c,d⟩:=st
    exact ⟨o,e,fun v z=>by rw [d] at z;cases z⟩
  keep:=fun i h h' st k=>let ⟨o,ho,r⟩:=st; ⟨o,k it (by simp) o ho,r⟩
  item:=by
    intro X hP hw hK hc i pins s σ H E I hf st hg
    subst hP hw hK
    obtain ⟨f0,f1,f2,f3,f4,f5⟩:=hf it (by simp)
    have W:Walks X.prog X.w X.A it [it] [it] x.cps.size (SignAt x) (fun i h=>h.IsStrIter it ty x t i):=by
      rcases hty with e | e
      · rw [e];exact Walks.strAscii (I.ok.hd hc) it x t
      · rw [e];exact Walks.strWide (I.ok.hd hc) it x t
    have hno:["enumerate","zip","dict_itemiterator","dict_reverseitemiterator","odict_iterator","itertools.zip_longest","itertools.pairwise"].contains ty=false:=by
      rcases hty with e | e
      · rw [e];decide
      · rw [e];decide
    refine W.item i s _ _ hg st fun v h' tk hv st' kk=>?_
    obtain ⟨c,u,hcx,rfl⟩:=hv
    have I1:Inv X pins σ H { s with heap:=h',toks:=tk }:=I.turned (fun b o hb e=>kk b o (by simpa using hb) e) f0 f1 f3 f4 f5
    obtain ⟨oi,e,cc,dd⟩:=id st'
    exact ⟨_,rfl,zp5 (s:={ s with heap:=h',toks:=tk }) e cc dd hno ⟨.str ⟨#[c]⟩,H,I1,⟨u,rfl⟩,⟨rfl,c,hcx,rfl⟩,st',fun b hb=>(hf b hb).1⟩⟩
  done:=by
    intro X hP hw hK hc i pins s σ H E I hf st hg
    subst hP hw hK
    obtain ⟨f0,f1,f2,f3,f4,f5⟩:=hf it (by simp)
    have hx:x.cps[i]? = none:=Array.getElem?_eq_none hg
    rcases hty with e | e
    · rw [e] at st
      exact wpAny_pyNext_ascii_end (I.ok.hd hc) st hx fun h' eb=>⟨rfl,I.turned (t':=s.toks) (fun b o hb e=>eb b o hb e) f0 f1 f3 f4 f5⟩
    · rw [e] at st
      exact wpAny_pyNext_wide_end (I.ok.hd hc) st hx fun h' eb=>⟨rfl,I.turned (t':=s.toks) (fun b o hb e=>eb b o hb e) f0 f1 f3 f4 f5⟩
  self:=fun A i s Q E st h=>by
    rcases hty with e | e
    · rw [e] at st;exact wpAny_pyIter_striter_ascii st h
    · rw [e] at st;exact wpAny_pyIter_striter_wide st h
def iStr (te:TE):TI:=fun σ H R=>te σ H fun v H1=>G1 (fun x=>v = .str x) fun x=>R (Its x) H1
theorem zC7 {X:Cx} {tg e:Expr} {te:TE} (he:PE X e te):PI X tg e (iStr te):=by
  intro pins s σ H R I h
  refine thn (he pins s σ H _ I h) fun v s1 ⟨y,H1,I1,r1,x,ex,q⟩=>?_
  subst ex
  obtain ⟨t,rfl⟩:=r1
  cases ha:x.cps.all (· < 128)
  · exact wpAny_pyIter_wide ha (zo9 (tk:=s1.toks) I1 _ (zsk _ x t "str_iterator" (.inr rfl)) ⟨_,Heap.get?_push_size _ rfl,rfl,rfl⟩ q)
  · exact wpAny_pyIter_ascii ha (zo9 (tk:=s1.toks) I1 _ (zsk _ x t "str_ascii_iterator" (.inl rfl)) ⟨_,Heap.get?_push_size _ rfl,rfl,rfl⟩ q)
section
variable {prog:Program} {w:World} {A:Around} {E:Value→Shared→Prop} {s:Shared}
end
theorem zCq {κ:Type} {kvs:List (κ×V)} {vs:List (κ×Value)} (h:KV kvs vs):∀ {i:Nat} {k:κ} {v:V},kvs[i]? = some (k,v)→∃ u,vs[i]? = some (k,u)∧RelV v u:=by
  unfold KV at h
  induction h with
  | nil=>intro i k v e;simp at e
  | @cons a b l₁ l₂ r t ih=>
    intro i k v e
    cases i with
    | zero=>
      simp only [List.getElem?_cons_zero,Option.some.injEq] at e
      subst e
      refine ⟨b.2,?_,r.2⟩
      simp only [List.getElem?_cons_zero]
      exact congrArg some (Prod.ext r.1.symm rfl)
    | succ j=>
      simp only [List.getElem?_cons_succ] at e ⊢
      exact ih e
theorem zlw {α β:Type} {G:α→β→Prop} {l₁:List α} {l₂:List β} (h:Paired G l₁ l₂):∀ {i:Nat} {a:α},l₁[i]? = some a→∃ b,l₂[i]? = some b∧G a b:=by
  induction h with
  | nil=>intro i a e;simp at e
  | @cons a b l₁ l₂ r t ih=>
    intro i a' e
    cases i with
    | zero=>
      simp only [List.getElem?_cons_zero,Option.some.injEq] at e
      subst e
      exact ⟨b,rfl,r⟩
    | succ j=>
      simp only [List.getElem?_cons_succ] at e ⊢
      exact ih e
section
variable {X:Cx} {pins:List (Addr×Obj)} {σ:St} {H:Hp} {s:Shared} {d:Addr} {o:Obj}
theorem Inv.frzK {kvs:List (Key×V)} (I:Inv X pins σ H s) (h:H d=some (.frz o (.dK kvs))) :
    (d == sysModules)=false∧s.heap.get? d=some o∧o.ExactDict∧∃ (es:Array DictEntry) (ep:Nat) (vs:List (Key×Value)),o.data = .dict es ep∧es.size=kvs.length∧KV kvs vs∧s.heap.DictAt (zb7 X.prog X.w) d vs ep:=by
  obtain ⟨hd,z,hs,vs,kv,o',es,ep,ho,hx,hdt,r⟩:=I.hok d _ h
  rw [hd] at ho
  cases ho
  refine ⟨hs,hd,hx,es,ep,vs,hdt,?_,kv,o,es,hd,hx,hdt,r⟩
  have l1:=r.2.1.length
  have l2:kvs.length=vs.length:=Paired.length kv
  rw [Array.length_toList] at l1
  omega
end
def Itd (d:Addr) (o:Obj) (kvs:List (Key×V)):It:=
  ⟨fun i H=>H d=some (.frz o (.dK kvs))∧i<kvs.length,fun i H x H'=>H'=H∧∃ k,kvs[i]? = some (k,x),fun i H=>H d=some (.frz o (.dK kvs))∧kvs.length≤i⟩
theorem zmf {o:Obj} {es es':Array DictEntry} {ep ep':Nat} (h:o.data = .dict es ep) (h':o.data = .dict es' ep'):es'=es∧ep'=ep:=by
  rw [h] at h'
  cases h'
  exact ⟨rfl,rfl⟩
section
variable {P:Program} {w:World} {K:W.Frag} {tg:Expr} {d:Addr} {o:Obj} {es:Array DictEntry} {ep:Nat}
theorem zwr {kvs:List (Key×V)} (it:Addr) (hod:o.data = .dict es ep):Turn P w K tg (Itd d o kvs) [it] it (fun i h=>h.IsValIter it d i kvs.length ep) where
  mem:=by simp
  obj:=fun i h st b hb=>by
    have e:b=it:=by simpa using hb
    subst e
    obtain ⟨oi,e,c,dd⟩:=st
    exact ⟨oi,e,fun v z=>by rw [dd] at z;cases z⟩
  keep:=fun i h h' st k=>st.at fun oi e=>k it (by simp) oi e
  item:=by
    intro X hP hw hK hc i pins s σ H E I hf st hg
    subst hP hw hK
    obtain ⟨hd,hi⟩:=hg
    obtain ⟨f0,f1,f2,f3,f4,f5⟩:=hf it (by simp)
    obtain ⟨hs,hgd,hx,es',ep',vs,hdt,hsz,kv,hm⟩:=I.frzK hd
    obtain ⟨rfl,rfl⟩:=zmf hod hdt
    obtain ⟨⟨k,v⟩,hkv⟩ : ∃ p,kvs[i]? = some p:=⟨kvs[i],List.getElem?_eq_getElem hi⟩
    obtain ⟨u,hu,ru⟩:=zCq kv hkv
    have hl:kvs.length=vs.length:=Paired.length kv
    rw [hl] at st
    refine wpAny_pyNext_values_item st hm hu fun h' st' sb=>?_
    have I1:Inv X pins σ H { s with heap:=h' }:=I.turned (t':=s.toks) (fun b ob hb e=>(sb.2 b hb).trans e) f0 f1 f3 f4 f5
    obtain ⟨oi,e,c,dd⟩:=id st'
    refine ⟨u,rfl,zp5 (s:={ s with heap:=h' }) e c dd (by decide) ⟨v,H,I1,ru,⟨rfl,k,hkv⟩,?_,fun b hb=>(hf b hb).1⟩⟩
    show h'.IsValIter it d (i+1) kvs.length _
    rw [hl]
    exact st'
  done:=by
    intro X hP hw hK hc i pins s σ H E I hf st hg
    subst hP hw hK
    obtain ⟨hd,hi⟩:=hg
    obtain ⟨f0,f1,f2,f3,f4,f5⟩:=hf it (by simp)
    obtain ⟨hs,hgd,hx,es',ep',vs,hdt,hsz,kv,hm⟩:=I.frzK hd
    obtain ⟨rfl,rfl⟩:=zmf hod hdt
    have hl:kvs.length=vs.length:=Paired.length kv
    rw [hl] at st
    exact wpAny_pyNext_values_end (I.ok.hd hc) st hm (List.getElem?_eq_none (by omega)) fun h' eb=>⟨rfl,I.turned (t':=s.toks) (fun b ob hb e=>eb b ob hb e) f0 f1 f3 f4 f5⟩
  self:=fun A i s Q E st h=>wpAny_pyIter_valiter st h
end
def zDy (td:TE):TI:=fun σ H R=>td σ H fun x H1=>E3 fun d o kvs=>A3 (x = .ref d) (H1 d=some (.frz o (.dK kvs))) (R (Itd d o kvs) H1)
section
variable {X:Cx} {tg e:Expr} {td:TE} {apos cpos:Pos}
theorem zhw (he:PE X e td) (hbase:attributeBase e "values" X.env (eval e X.env)=eval e X.env:=by rfl) (hline:(apos.endLine == cpos.line)=true:=by rfl):PI X tg (.Call (.Attribute e "values" apos) [] [] cpos) (zDy td):=by
  intro pins s σ H R I h
  refine wpAny_Call_method (T:="dict") (id:="dict.values") hbase rfl hline F.plainAttrs_dict F.slot_dict_values F.type_dict_values (thn (he pins s σ H _ I h) fun u s1 ⟨x,H1,I1,rx,d,o,kvs,ex,hd,q⟩=>?_)
  subst ex
  obtain rfl:u=Value.ref d:=rx
  obtain ⟨hs,hgd,hx,es,ep,vs,hdt,hsz,kv,hm⟩:=I1.frzK hd
  have hl:kvs.length=vs.length:=Paired.length kv
  refine ⟨hm.dictOf.typeIs,hm.dictOf.mapOf.noDict,?_⟩
  have I2:Inv X pins σ H1 { s1 with heap:=s1.heap.push { cls:=.type "dict_values",data:=.fields #[.ref d] } }:=I1.kept (t':=s1.toks) fun b ob q=>Heap.get?_push_of_some _ q
  have fin:wpAny (model X.prog X.w) X.A (pyIter (.ref s1.heap.objs.size)) (PIE X pins σ tg R) X.xe { s1 with heap:=s1.heap.push { cls:=.type "dict_values",data:=.fields #[.ref d] } }:=by
    refine wpAny_pyIter_values (d:=d) (knd:=zb7 X.prog X.w) ⟨_,Heap.get?_push_size _ rfl,rfl,rfl⟩ (hm.push _) (zo9 (tk:=s1.toks) I2 _ (zwr _ hdt) ⟨_,Heap.get?_push_size _ rfl,rfl,?_⟩ q)
    rw [hl]<;>rfl
  show wpAny _ _ (callWith cpos (.builtin "dict.values") [.ref d] [] []) _ X.xe s1
  exact method_meetsIn F.slot_dict_values F.entry_dict_values rfl (PySem.evalArgs_none ⟨rfl,hm.dictOf.typeIs,F.args_dict_values_1 _,_,meets_dict_values (zb7 X.prog X.w) d hs,⟨vs,hm.dictOf⟩,fin⟩)
end
end L2
section
namespace Bits
open PySem PyProof.Rows
end Bits
end
section
namespace TL
open PySem PySem.Builtin PySem.Builtin.Str PySem.StrLaws
end TL
end
namespace L2
open PySem PySem.Spec PyProof.Rows
section
variable {X:Cx} {pins:List (Addr×Obj)} {σ:St} {H:Hp} {s:Shared} {Q:VK}
end
section
variable {X:Cx}
end
section
variable {X:Cx} {o e:Expr} {to te:TE}
end
end L2
namespace L2
open PySem PySem.Spec PyProof.Rows
section
variable {X:Cx}
end
end L2
namespace Att
open PySem PySem.W PySem.Calls PyProof.Rows
section
variable {prog:Program} {w:World} {A:Around} {E:Value→Shared→Prop} {s:Shared} {K:Frag}
end
end Att
namespace L2
open PySem PySem.Spec PyProof.Rows
end L2
namespace L2
open PySem PySem.Spec PyProof.Rows
end L2
namespace L2
open PySem PySem.Spec PyProof.Rows
def zaw (s:Stmt) (j:Nat):Stmt:=match s with
  | .ClassDef _ _ _ body _ _ _ _ _ _ _=>body.getD j (.Pass ⟨0,0,0,0⟩)
  | _=>.Pass ⟨0,0,0,0⟩
def zfh (s:Stmt):Arguments:=match s with
  | .FunctionDef _ a _ _ _ _ _ _ _ _=>a
  | _=>{ posonlyargs:=[],args:=[],vararg:=none,kwonlyargs:=[],kw_defaults:=[],kwarg:=none,defaults:=[] }
def zc0 (s:Stmt):List Stmt:=match s with
  | .FunctionDef _ _ b _ _ _ _ _ _ _=>b
  | _=>[]
def zae (s:Stmt):Scope:=match s with
  | .FunctionDef _ _ _ _ _ _ sc _ _ _=>sc
  | _=>{ kind:=.function,names:=[],isGenerator:=false,isCoroutine:=false }
abbrev CX0:CXT:=fun _ _ _ _ _ _=>False
abbrev E0:XK:=fun _ _ _=>False
theorem zaz {X:Cx}:zdm CX0 X E0:=fun _ _ _ _ _ _ _ h=>h.elim
structure Fun (K:W.Frag) (x qual:Str) (st:Stmt) (f:Addr) (fd:FuncData):Prop where
  ex:∃ (oc:Value) (od:Option Addr) (kV doc pm:Value) (an:Option Addr) (cdv ct:Value) (osl:Array (Option Value)),
    fd=W.fnOf x qual (zfh st) (zc0 st) (zae st) .none kV doc pm an cdv ct∧K.lookup f=some ⟨oc,od, .func fd,osl⟩∧W.codeIn K cdv qual=true
  kp:W.keepIn K (.ref f)=true
section
variable {P:Program} {w:World} {K:W.Frag} {mg:Str→Option Value} {base:Heap}
theorem Fun.ok {x qual:Str} {st:Stmt} {f:Addr} {fd:FuncData} {N ps:List Str} {k:Nat} {sp:Sp} (F:Fun K x qual st f fd) (S:zai N ps (zae st)) (len:∀ vs H Q E,sp vs H Q E→vs.length=ps.length)
    (hbody:∀ (cdv:Value) (A:Around) (outer:List Env) (s:Shared) (H:Hp) (vs:List V) (Q:VK) (E:XK),Room k (A.deeper (envOfC qual (zae st) s.heap.objs.size f cdv))→sp vs H Q E→
      ∃ t,PSs (cxOf CX0 P w K mg base N qual (zae st) f cdv A outer s H E).nox (zc0 st) t∧t { nx:=fun _ H'=>Q .non H',rt:=Q } (start N vs) H):FnOk P w K mg base CX0 (k+1) f fd ps sp:=by
  obtain ⟨oc,od,kV,doc,pm,an,cdv,ct,osl,rfl,lk,hcd⟩:=F.ex
  refine zCg lk hcd S len fun A outer s H vs Q E hr hsp=>?_
  obtain ⟨t,h,q⟩:=hbody cdv A outer s H vs Q E hr hsp
  exact ⟨t,h.nox,q⟩
theorem Fun.binds {x qual:Str} {st:Stmt} {f:Addr} {fd:FuncData} {ps:List Str} (F:Fun K x qual st f fd)
    (h:∀ (kV doc pm:Value) (an:Option Addr) (cdv ct:Value) (us:List Value),us.length=ps.length→bindArgs (W.fnOf x qual (zfh st) (zc0 st) (zae st) .none kV doc pm an cdv ct) ⟨us,[]⟩=pure (ps.zip us)):Binds K fd ps []:=by
  obtain ⟨oc,od,kV,doc,pm,an,cdv,ct,osl,rfl,lk,hcd⟩:=F.ex
  exact .all (h kV doc pm an cdv ct)
theorem fun_mk {x qual:Str} {st:Stmt} {f:Addr} {oc:Value} {od an:Option Addr} {osl:Array (Option Value)} {kV doc pm cdv ct:Value} (l:K.lookup f=some ⟨oc,od, .func (W.fnOf x qual (zfh st) (zc0 st) (zae st) .none kV doc pm an cdv ct),osl⟩)
    (c:W.codeIn K cdv qual=true) (k:W.keepIn K (.ref f)=true):Fun K x qual st f (W.fnOf x qual (zfh st) (zc0 st) (zae st) .none kV doc pm an cdv ct):=⟨⟨oc,od,kV,doc,pm,an,cdv,ct,osl,rfl,l,c⟩,k⟩
end
theorem za2 {A:Around} {k:Nat} (hr:Room k A):A.units+1<cLine:=Nat.lt_of_le_of_lt (Nat.add_le_add_left (by decide:1≤64) _) hr.units
section
variable {X:Cx}
theorem pv (i:Nat) {x:Str} {pos:Pos} (hN:X.N[i]? = some x:=by rfl) (hv:Vis X.env.scope x:=by first | exact Or.inl rfl | exact Or.inr (Or.inl rfl) | exact Or.inr (Or.inr rfl)) (hd:(x == ("__debug__" : Str))=false:=by decide)
    (hcd:(x == ("__classdict__" : Str))=false:=by decide):PE X (.Name x pos) (tVar i):=zC6 hN hv hd hcd
end
theorem iteF {A B:Prop} (h:B):if false=true then A else B:=by
  rw [if_neg Bool.false_ne_true]
  exact h
theorem iteT {A B:Prop} (h:A):if true=true then A else B:=by
  rw [if_pos rfl]
  exact h
theorem ite2 {c A B:Prop} [Decidable c] (h1:c→A) (h2:¬c→B):if c then A else B:=by
  by_cases h:c
  · rw [if_pos h]
    exact h1 h
  · rw [if_neg h]
    exact h2 h
def Same (H H':Hp):Prop:=∀ b o,H b=some o→H' b=some o
theorem Same.refl (H:Hp):Same H H:=fun _ _ h=>h
theorem Same.trans {H H1 H2:Hp} (a:Same H H1) (b:Same H1 H2):Same H H2:=fun c o h=>b c o (a c o h)
theorem Same.seq {K:W.Frag} {H H':Hp} {a:Addr} {xs:List V} (e:Same H H') (h:SqL K H a xs):SqL K H' a xs:=by
  rcases h with (h | ⟨o,h⟩) | h
  · exact .inl (.inl (e _ _ h))
  · exact .inl (.inr ⟨o,e _ _ h⟩)
  · exact .inr h
section
variable {κ:Type} [DecidableEq κ]
theorem zio:∀ {l:List κ} {k:κ},l.Nodup→¬k∈l→(l++[k]).Nodup
  | [],k,_,_=>by simp
  | a :: r,k,h,hk=>by
    obtain ⟨h1,h2⟩:=List.nodup_cons.mp h
    show (a :: (r++[k])).Nodup
    refine List.nodup_cons.mpr ⟨fun m=>?_,zio h2 fun m=>hk (List.mem_cons.mpr (Or.inr m))⟩
    rcases List.mem_append.mp m with q | q
    · exact h1 q
    · exact hk (List.mem_cons.mpr (Or.inl (List.mem_singleton.mp q).symm))
end
theorem zjj {xs:List V} {z:Int} {j:Nat} {v:V} (e:z=(j:Int)) (h:xs[j]? = some v):atI xs z=some v:=by
  rw [e]
  exact zh4 h
end L2

end
section
set_option Elab.async false
set_option linter.all false
set_option maxRecDepth 100000
set_option maxHeartbeats 2000000
namespace L2
open PySem PySem.Spec PyProof.Rows
open PySem.W (WData Codec OpenSpec Well WellAll ReadsW ReadsAllW)
mutual
inductive Dw (K:W.Frag) (H:Hp):V→WData→Prop
  | non:Dw K H .non .none
  | bl (b:Bool):Dw K H (.bl b) (.bool b)
  | int (i:Int):Dw K H (.int i) (.int i)
  | str (x:Str):Dw K H (.str x) (.str x)
  | byt (b:Array UInt8):Dw K H (.byt b) (.bytes b.toList)
  | lst {a:Addr} {xs:List V} {ds:List WData}:SqL K H a xs→zh3 K H xs ds→Dw K H (.ref a) (.list ds)
  | tup {a:Addr} {xs:List V} {ds:List WData}:SqT K H a xs→zh3 K H xs ds→Dw K H (.ref a) (.tuple ds)
inductive zh3 (K:W.Frag) (H:Hp):List V→List WData→Prop
  | nil:zh3 K H [] []
  | cons {v:V} {vs:List V} {d:WData} {ds:List WData}:Dw K H v d→zh3 K H vs ds→zh3 K H (v :: vs) (d :: ds)
end
theorem dw_ints {K:W.Frag} {H:Hp}:∀ ns:List Int,zh3 K H (ns.map V.int) (ns.map WData.int)
  | []=>.nil
  | n :: r=>.cons (.int n) (dw_ints r)
theorem ints_dw {K:W.Frag} {H:Hp}:∀ (ns:List Int) (xs:List V),zh3 K H xs (ns.map WData.int)→xs=ns.map V.int
  | [],xs,h=>by
    cases h
    rfl
  | n :: r,xs,h=>by
    cases h with
    | cons h1 h2=>
      cases h1
      rw [ints_dw r _ h2]<;>rfl
section
variable {P:Program} {w:World} {K:W.Frag} {H:Hp} {h:Heap} {R:W.WRecords} {cl:Str→Option Addr}
theorem zDe {a:Addr} {xs:List V} (hok:HOk P w H h) (KX:K.In h) (q:SqL K H a xs):∃ (its:List Value) (o:Obj) (n:Nat),Vals xs its∧h.get? a=some o∧o.cls = .type "list"∧o.data = .seq its.toArray n:=by
  rcases q with q | ⟨o,its,n,e,hc,_,hd,_,hv⟩
  · obtain ⟨_,its,n,hv,e⟩:=(show ObjOk P w H h a (.lst xs) from q.ok hok)
    exact ⟨its,_,n,hv,e,rfl,rfl⟩
  · exact ⟨its.toList,o,n,hv,KX _ _ e,hc,by simp [hd]⟩
theorem zDf {a:Addr} {xs:List V} (hok:HOk P w H h) (KX:K.In h) (q:SqT K H a xs):∃ (its:List Value) (o:Obj) (n:Nat),Vals xs its∧h.get? a=some o∧o.cls = .type "tuple"∧o.data = .seq its.toArray n:=by
  rcases q with q | ⟨o,its,n,e,hc,hd,_,hv⟩
  · obtain ⟨_,its,hv,o,e,hc,n,hd⟩:=(show ObjOk P w H h a (.tup xs) from q.ok hok)
    exact ⟨its,o,n,hv,e,hc,hd⟩
  · exact ⟨its.toList,o,n,hv,KX _ _ e,hc,by simp [hd]⟩
mutual
theorem Dw.reads (hok:HOk P w H h) (KX:K.In h):∀ (d:WData) (v:V) (u:Value),Dw K H v d→RelV v u→∃ as,ReadsW R cl h u d as
  | .none,_,_,x,r=>by
    cases x
    cases r
    exact ⟨_,ReadsW.none⟩
  | .bool b,_,_,x,r=>by
    cases x
    cases r
    exact ⟨_,ReadsW.bool b⟩
  | .int i,_,_,x,r=>by
    cases x
    obtain ⟨t,rfl⟩:=r
    exact ⟨_,ReadsW.int i t⟩
  | .str s,_,_,x,r=>by
    cases x
    obtain ⟨t,rfl⟩:=r
    exact ⟨_,ReadsW.str s t⟩
  | .bytes b,_,_,x,r=>by
    cases x
    obtain ⟨t,rfl⟩:=r
    exact ⟨_,ReadsW.bytes _ t⟩
  | .list ds,_,_,x,r=>by
    cases x with
    | lst hs ha=>
      cases r
      obtain ⟨its,o,n,rv,ho,hc,hd⟩:=zDe hok KX hs
      obtain ⟨as,hr⟩:=Dw.readsAll hok KX ds _ its ha rv
      exact ⟨_,ReadsW.list ho hc hd hr⟩
  | .tuple ds,_,_,x,r=>by
    cases x with
    | tup hs ha=>
      cases r
      obtain ⟨its,o,n,rv,ho,hc,hd⟩:=zDf hok KX hs
      obtain ⟨as,hr⟩:=Dw.readsAll hok KX ds _ its ha rv
      exact ⟨_,ReadsW.tuple ho hc hd hr⟩
  | .float _,_,_,x,_=>by cases x
  | .dict _,_,_,x,_=>by cases x
  | .bytearray _,_,_,x,_=>by cases x
  | .set _,_,_,x,_=>by cases x
  | .frozenset _,_,_,x,_=>by cases x
  | .obj _ _,_,_,x,_=>by cases x
theorem Dw.readsAll (hok:HOk P w H h) (KX:K.In h):∀ (ds:List WData) (vs:List V) (us:List Value),zh3 K H vs ds→Vals vs us→∃ as,ReadsAllW R cl h us ds as
  | [],_,_,x,r=>by
    cases x
    cases r
    exact ⟨_,ReadsAllW.nil⟩
  | d :: ds,_,_,x,r=>by
    cases x with
    | cons h1 h2=>
      cases r with
      | cons r1 r2=>
        obtain ⟨as,q1⟩:=Dw.reads hok KX d _ _ h1 r1
        obtain ⟨bs,q2⟩:=Dw.readsAll hok KX ds _ _ h2 r2
        exact ⟨_,ReadsAllW.cons q1 q2⟩
end
end
mutual
def plW:WData→Bool
  | .none=>true
  | .bool _=>true
  | .int _=>true
  | .str _=>true
  | .bytes _=>true
  | .list xs=>plWs xs
  | .tuple xs=>plWs xs
  | _=>false
def plWs:List WData→Bool
  | []=>true
  | x :: r=>plW x&&plWs r
end
theorem zsc {α:Type} {f:α→WData} (h:∀ a,plW (f a)=true):∀ l:List α,plWs (l.map f)=true
  | []=>rfl
  | x :: r=>by
    show (plW (f x)&&plWs (r.map f))=true
    rw [h x,zsc h r]<;>rfl
theorem zjg:∀ (c:Codec) (a:c.denote),plW (c.enc a)=true
  | .unit,_=>rfl
  | .bool,_=>rfl
  | .int _ _,_=>rfl
  | .nat _ _,_=>rfl
  | .u8,_=>rfl
  | .bytes _ _,_=>rfl
  | .text _ _ _ _,_=>rfl
  | .list _ _ c,a=>zsc (fun x=>zjg c x) a
  | .pair c d,a=>by
    show (plW (c.enc a.1)&&(plW (d.enc a.2)&&true))=true
    rw [zjg c a.1,zjg d a.2]<;>rfl
  | .triple c d e,a=>by
    show (plW (c.enc a.1)&&(plW (d.enc a.2.1)&&(plW (e.enc a.2.2)&&true)))=true
    rw [zjg c a.1,zjg d a.2.1,zjg e a.2.2]<;>rfl
  | .option c,none=>rfl
  | .option c,some x=>zjg c x
theorem zpc:∀ (cs:List Codec) (a:Codec.denoteAll cs),plWs (Codec.encAll cs a)=true
  | [],_=>rfl
  | c :: cs,a=>by
    show (plW (c.enc a.1)&&plWs (Codec.encAll cs a.2))=true
    rw [zjg c a.1,zpc cs a.2]<;>rfl
theorem zjb:∀ {xs:List WData} {d:WData},d∈xs→d.weight≤WData.weightAll xs
  | [],d,h=>absurd h (by simp)
  | x :: r,d,h=>by
    show d.weight≤x.weight+1+WData.weightAll r
    rcases List.mem_cons.mp h with e | m
    · rw [e]
      omega
    · have z:=zjb m
      omega
def toV:Value→V
  | .none=>.non
  | .bool b=>.bl b
  | .int i _=>.int i
  | .str x _=>.str x
  | .bytes b _=>.byt b
  | .ref a=>.ref a
  | _=>.non
def OkU (A:List Addr):Value→Prop
  | .none=>True
  | .bool _=>True
  | .int _ _=>True
  | .str _ _=>True
  | .bytes _ _=>True
  | .ref a=>a∈A
  | _=>False
theorem OkU.mono {A B:List Addr} (h:∀ a∈A,a∈B):∀ {u:Value},OkU A u→OkU B u:=fun {u} x=>by
  cases u with
  | ref a=>exact h a x
  | none=>trivial
  | bool b=>trivial
  | int i t=>trivial
  | str s t=>trivial
  | bytes b t=>trivial
  | _=>exact False.elim x
theorem zyo {A:List Addr} {u:Value} (x:OkU A u):RelV (toV u) u:=by
  cases u with
  | ref a=>rfl
  | none=>rfl
  | bool b=>rfl
  | int i t=>exact ⟨t,rfl⟩
  | str s t=>exact ⟨t,rfl⟩
  | bytes b t=>exact ⟨t,rfl⟩
  | _=>exact False.elim x
theorem zfz {A:List Addr}:∀ {vs:List Value},(∀ u∈vs,OkU A u)→Vals (vs.map toV) vs
  | [],_=>.nil
  | u :: r,h=>.cons (zyo (h u (List.mem_cons_self ..))) (zfz fun x hx=>h x (List.mem_cons_of_mem _ hx))
def ArgOb (h:Heap) (A:List Addr) (a:Addr):Prop:=∃ vs:List Value,vs.length≤sizeLine∧(∀ u∈vs,OkU A u)∧
  (h.get? a=some { cls:=.type "list",data:=.seq vs.toArray }∨h.get? a=some { cls:=.type "tuple",data:=.seq vs.toArray })
theorem ArgOb.mono {h:Heap} {A B:List Addr} {a:Addr} (k:∀ a∈A,a∈B) (x:ArgOb h A a):ArgOb h B a:=by
  obtain ⟨vs,h1,h2,h3⟩:=x
  exact ⟨vs,h1,fun u hu=>(h2 u hu).mono k,h3⟩
theorem ze3 {P:Params} {h:Heap}:∀ {vs:List Value} {ds:List WData},WellAll P h vs ds→vs.length=ds.length
  | _,_, .nil=>rfl
  | _,_, .cons _ b=>by
    show _+1=_+1
    rw [ze3 b]
theorem zpo {P:Params} {h:Heap} {v:Value} {ds:List WData} (x:Well P h v (.list ds)):∃ (a:Addr) (vs:List Value),v = .ref a∧h.get? a=some { cls:=.type "list",data:=.seq vs.toArray }∧WellAll P h vs ds:=by
  cases x with
  | list ho hall=>exact ⟨_,_,rfl,ho,hall⟩
theorem zl3 {P:Params} {h:Heap} {v:Value} {ds:List WData} (x:Well P h v (.tuple ds)):∃ (a:Addr) (vs:List Value),v = .ref a∧h.get? a=some { cls:=.type "tuple",data:=.seq vs.toArray }∧WellAll P h vs ds:=by
  cases x with
  | tuple ho hall=>exact ⟨_,_,rfl,ho,hall⟩
theorem zpn {P:Params} {h:Heap} {us:List Value} {d:WData} {ds:List WData} (x:WellAll P h us (d :: ds)):∃ (v:Value) (vs:List Value),us=v :: vs∧Well P h v d∧WellAll P h vs ds:=by
  cases x with
  | cons a b=>exact ⟨_,_,rfl,a,b⟩
theorem zu4 {n:Nat} (h:n≤1048576):n≤sizeLine:=Nat.le_trans h (by decide)
section
variable {P:Params} {h:Heap}
mutual
theorem zw8:∀ (d:WData) (v:Value),Well P h v d→plW d=true→d.weight≤1048576→∃ A:List Addr,OkU A v∧∀ a∈A,ArgOb h A a
  | .none,_,x,_,_=>by
    cases x
    exact ⟨[],trivial,fun a m=>absurd m (by simp)⟩
  | .bool b,_,x,_,_=>by
    cases x
    exact ⟨[],trivial,fun a m=>absurd m (by simp)⟩
  | .int i,_,x,_,_=>by
    cases x
    exact ⟨[],trivial,fun a m=>absurd m (by simp)⟩
  | .str s,_,x,_,_=>by
    cases x
    exact ⟨[],trivial,fun a m=>absurd m (by simp)⟩
  | .bytes b,_,x,_,_=>by
    cases x
    exact ⟨[],trivial,fun a m=>absurd m (by simp)⟩
  | .list ds,_,x,p,z=>by
    obtain ⟨a,vs,rfl,ho,hall⟩:=zpo x
    have z2:WData.weightAll ds≤1048576:=z
    obtain ⟨A,h1,h2⟩:=zjz ds _ hall p fun d hd=>Nat.le_trans (zjb hd) z2
    have k:∀ b∈A,b∈a :: A:=fun b hb=>List.mem_cons_of_mem _ hb
    refine ⟨a :: A,List.mem_cons_self ..,fun b hb=>?_⟩
    rcases List.mem_cons.mp hb with e | m
    · rw [e]
      exact ⟨vs,zu4 (by rw [ze3 hall];exact Nat.le_trans (W.length_le_weightAllW ds) z2),fun u hu=>(h1 u hu).mono k, .inl ho⟩
    · exact (h2 b m).mono k
  | .tuple ds,_,x,p,z=>by
    obtain ⟨a,vs,rfl,ho,hall⟩:=zl3 x
    have z2:WData.weightAll ds≤1048576:=z
    obtain ⟨A,h1,h2⟩:=zjz ds _ hall p fun d hd=>Nat.le_trans (zjb hd) z2
    have k:∀ b∈A,b∈a :: A:=fun b hb=>List.mem_cons_of_mem _ hb
    refine ⟨a :: A,List.mem_cons_self ..,fun b hb=>?_⟩
    rcases List.mem_cons.mp hb with e | m
    · rw [e]
      exact ⟨vs,zu4 (by rw [ze3 hall];exact Nat.le_trans (W.length_le_weightAllW ds) z2),fun u hu=>(h1 u hu).mono k, .inr ho⟩
    · exact (h2 b m).mono k
  | .float _,_,_,p,_=>Bool.noConfusion (show false=true from p)
  | .dict _,_,_,p,_=>Bool.noConfusion (show false=true from p)
  | .bytearray _,_,_,p,_=>Bool.noConfusion (show false=true from p)
  | .set _,_,_,p,_=>Bool.noConfusion (show false=true from p)
  | .frozenset _,_,_,p,_=>Bool.noConfusion (show false=true from p)
  | .obj _ _,_,_,p,_=>Bool.noConfusion (show false=true from p)
theorem zjz:∀ (ds:List WData) (vs:List Value),WellAll P h vs ds→plWs ds=true→(∀ d∈ds,d.weight≤1048576)→∃ A:List Addr,(∀ u∈vs,OkU A u)∧∀ a∈A,ArgOb h A a
  | [],_,x,_,_=>by
    cases x
    exact ⟨[],fun u m=>absurd m (by simp),fun a m=>absurd m (by simp)⟩
  | d :: ds,_,x,p,z=>by
    obtain ⟨v,vs,rfl,x1,x2⟩:=zpn x
    have q:plW d=true∧plWs ds=true:=Bool.and_eq_true_iff.mp p
    obtain ⟨A,a1,a2⟩:=zw8 d v x1 q.1 (z d (List.mem_cons_self ..))
    obtain ⟨B,b1,b2⟩:=zjz ds vs x2 q.2 fun e he=>z e (List.mem_cons_of_mem _ he)
    have kA:∀ b∈A,b∈A++B:=fun b hb=>List.mem_append.mpr (.inl hb)
    have kB:∀ b∈B,b∈A++B:=fun b hb=>List.mem_append.mpr (.inr hb)
    refine ⟨A++B,fun u hu=>?_,fun b hb=>?_⟩
    · rcases List.mem_cons.mp hu with e | m
      · rw [e]
        exact a1.mono kA
      · exact (b1 u m).mono kB
    · rcases List.mem_append.mp hb with m | m
      · exact (a2 b m).mono kA
      · exact (b2 b m).mono kB
end
end
def hoOf (o:Obj):Option HO:=match o.data with
  | .seq vs _=>if (o.cls == Value.type "list")=true then some (.frz o (.lst (vs.toList.map toV))) else some (.frz o (.tup (vs.toList.map toV)))
  | _=>none
def argH (K:W.Frag) (h:Heap) (A:List Addr):Hp:=fun b=>if b∈A then (if (K.lookup b).isNone=true then (h.get? b).bind hoOf else none) else none
def zso (H:Hp):Prop:=∀ b,H b=none∨∃ o u,H b=some (.frz o u)
theorem zrp (vs:List Value):hoOf { cls:=.type "list",data:=.seq vs.toArray }=some (.frz { cls:=.type "list",data:=.seq vs.toArray } (.lst (vs.map toV))):=by
  show (if (Value.type "list" == Value.type "list")=true then some (HO.frz { cls:=.type "list",data:=.seq vs.toArray } (.lst (vs.toArray.toList.map toV))) else some (HO.frz { cls:=.type "list",data:=.seq vs.toArray } (.tup (vs.toArray.toList.map toV))))=_
  rw [if_pos (beq_self_eq_true _)]
theorem zrq (vs:List Value):hoOf { cls:=.type "tuple",data:=.seq vs.toArray }=some (.frz { cls:=.type "tuple",data:=.seq vs.toArray } (.tup (vs.map toV))):=by
  show (if (Value.type "tuple" == Value.type "list")=true then some (HO.frz { cls:=.type "tuple",data:=.seq vs.toArray } (.lst (vs.toArray.toList.map toV))) else some (HO.frz { cls:=.type "tuple",data:=.seq vs.toArray } (.tup (vs.toArray.toList.map toV))))=_
  rw [if_neg (by decide)]
section
variable {P:Program} {w:World} {K:W.Frag} {h:Heap} {A:List Addr}
theorem zl5 {b:Addr} {o:Obj} (hb:b∈A) (hk:K.lookup b=none) (e:h.get? b=some o):argH K h A b=hoOf o:=by
  unfold argH
  rw [if_pos hb,hk,if_pos (show (none:Option Obj).isNone=true from rfl),e]<;>rfl
theorem zAr {b:Addr} {u:HO} (q:argH K h A b=some u):b∈A∧K.lookup b=none:=by
  unfold argH at q
  by_cases hb:b∈A
  · rw [if_pos hb] at q
    cases hk:K.lookup b with
    | none=>exact ⟨hb,rfl⟩
    | some o=>
      rw [hk,if_neg (by simp)] at q
      cases q
  · rw [if_neg hb] at q
    cases q
theorem zl6 (ar:∀ a∈A,ArgOb h A a) {b:Addr} {u:HO} (q:argH K h A b=some u):K.lookup b=none∧∃ vs:List Value,vs.length≤sizeLine∧(∀ u∈vs,OkU A u)∧
    ((h.get? b=some { cls:=.type "list",data:=.seq vs.toArray }∧u = .frz { cls:=.type "list",data:=.seq vs.toArray } (.lst (vs.map toV)))∨
     (h.get? b=some { cls:=.type "tuple",data:=.seq vs.toArray }∧u = .frz { cls:=.type "tuple",data:=.seq vs.toArray } (.tup (vs.map toV)))):=by
  obtain ⟨hb,hk⟩:=zAr q
  obtain ⟨vs,h1,h2,h3⟩:=ar b hb
  refine ⟨hk,vs,h1,h2,?_⟩
  rcases h3 with e | e
  · rw [zl5 hb hk e,zrp] at q
    exact .inl ⟨e,(Option.some.inj q).symm⟩
  · rw [zl5 hb hk e,zrq] at q
    exact .inr ⟨e,(Option.some.inj q).symm⟩
theorem ztz (ar:∀ a∈A,ArgOb h A a):zso (argH K h A):=fun b=>by
  cases q:argH K h A b with
  | none=>exact .inl rfl
  | some u=>
    obtain ⟨_,vs,_,_,⟨_,e⟩ | ⟨_,e⟩⟩:=zl6 ar q
    · exact .inr ⟨_,_,by rw [e]⟩
    · exact .inr ⟨_,_,by rw [e]⟩
theorem zzw (ar:∀ a∈A,ArgOb h A a):HOk P w (argH K h A) h:=fun b u q=>by
  obtain ⟨_,vs,h1,h2,⟨e,rfl⟩ | ⟨e,rfl⟩⟩:=zl6 ar q
  · exact ⟨e,by rw [List.length_map];exact h1,vs,_,zfz h2,e⟩
  · exact ⟨e,by rw [List.length_map];exact h1,vs,zfz h2,_,e,rfl,_,rfl⟩
theorem znb {c c':Value} {vs us:List Value} (e:(some { cls:=c,data:=.seq vs.toArray }:Option Obj)=some { cls:=c',data:=.seq us.toArray }):c=c'∧vs=us:=by
  have e1:=Option.some.inj e
  have e2:c=c':=congrArg Obj.cls e1
  have e3:Data.seq vs.toArray=Data.seq us.toArray:=congrArg Obj.data e1
  injection e3 with e4
  refine ⟨e2,?_⟩
  have e5:=congrArg Array.toList e4
  simpa using e5
theorem argL (KX:K.In h) (ar:∀ a∈A,ArgOb h A a) {a:Addr} {vs:List Value} (ha:a∈A) (e:h.get? a=some { cls:=.type "list",data:=.seq vs.toArray }):(∀ u∈vs,OkU A u)∧SqL K (argH K h A) a (vs.map toV):=by
  obtain ⟨us,h1,h2,h3⟩:=ar a ha
  have hu:us=vs:=by
    rcases h3 with q | q
    · rw [e] at q
      exact (znb q).2.symm
    · rw [e] at q
      exact absurd (Value.type.inj (znb q).1) (by decide)
  subst hu
  refine ⟨h2,?_⟩
  cases hk:K.lookup a with
  | none=>exact .inl (.inr ⟨_,by rw [zl5 ha hk e,zrp]⟩)
  | some o=>
    have e2:=KX a o hk
    rw [e] at e2
    obtain rfl:=Option.some.inj e2
    exact .inr ⟨_,us.toArray,_,hk,rfl,rfl,rfl,by rw [List.size_toArray];exact h1,by simpa using zfz h2⟩
theorem argT (KX:K.In h) (ar:∀ a∈A,ArgOb h A a) {a:Addr} {vs:List Value} (ha:a∈A) (e:h.get? a=some { cls:=.type "tuple",data:=.seq vs.toArray }):(∀ u∈vs,OkU A u)∧SqT K (argH K h A) a (vs.map toV):=by
  obtain ⟨us,h1,h2,h3⟩:=ar a ha
  have hu:us=vs:=by
    rcases h3 with q | q
    · rw [e] at q
      exact absurd (Value.type.inj (znb q).1) (by decide)
    · rw [e] at q
      exact (znb q).2.symm
  subst hu
  refine ⟨h2,?_⟩
  cases hk:K.lookup a with
  | none=>exact .inl (.inr ⟨_,by rw [zl5 ha hk e,zrq]⟩)
  | some o=>
    have e2:=KX a o hk
    rw [e] at e2
    obtain rfl:=Option.some.inj e2
    exact .inr ⟨_,us.toArray,_,hk,rfl,rfl,by rw [List.size_toArray];exact h1,by simpa using zfz h2⟩
mutual
theorem zCd {Pm:Params} (KX:K.In h) (ar:∀ a∈A,ArgOb h A a):∀ (d:WData) (v:Value),Well Pm h v d→plW d=true→OkU A v→Dw K (argH K h A) (toV v) d
  | .none,_,x,_,_=>by
    cases x
    exact .non
  | .bool b,_,x,_,_=>by
    cases x
    exact .bl b
  | .int i,_,x,_,_=>by
    cases x
    exact .int i
  | .str s,_,x,_,_=>by
    cases x
    exact .str s
  | .bytes b,_,x,_,_=>by
    cases x
    have z:=Dw.byt (K:=K) (H:=argH K h A) b.toArray
    exact z
  | .list ds,_,x,p,hu=>by
    obtain ⟨a,vs,rfl,ho,hall⟩:=zpo x
    obtain ⟨h2,hs⟩:=argL KX ar hu ho
    exact .lst hs (zrl KX ar ds _ hall p h2)
  | .tuple ds,_,x,p,hu=>by
    obtain ⟨a,vs,rfl,ho,hall⟩:=zl3 x
    obtain ⟨h2,hs⟩:=argT KX ar hu ho
    exact .tup hs (zrl KX ar ds _ hall p h2)
  | .float _,_,_,p,_=>Bool.noConfusion (show false=true from p)
  | .dict _,_,_,p,_=>Bool.noConfusion (show false=true from p)
  | .bytearray _,_,_,p,_=>Bool.noConfusion (show false=true from p)
  | .set _,_,_,p,_=>Bool.noConfusion (show false=true from p)
  | .frozenset _,_,_,p,_=>Bool.noConfusion (show false=true from p)
  | .obj _ _,_,_,p,_=>Bool.noConfusion (show false=true from p)
theorem zrl {Pm:Params} (KX:K.In h) (ar:∀ a∈A,ArgOb h A a):∀ (ds:List WData) (vs:List Value),WellAll Pm h vs ds→plWs ds=true→(∀ u∈vs,OkU A u)→zh3 K (argH K h A) (vs.map toV) ds
  | [],_,x,_,_=>by
    cases x
    exact .nil
  | d :: ds,_,x,p,hu=>by
    obtain ⟨v,vs,rfl,x1,x2⟩:=zpn x
    have q:plW d=true∧plWs ds=true:=Bool.and_eq_true_iff.mp p
    exact .cons (zCd KX ar d v x1 q.1 (hu _ (List.mem_cons_self ..))) (zrl KX ar ds vs x2 q.2 fun u m=>hu u (List.mem_cons_of_mem _ m))
end
end
theorem zwm {P:Program} {w:World} {K:W.Frag} {mg mb:Str→Option Value} {CX:CXT} {k:Nat} {fa:Addr} {fd:FuncData} {ps:List Str} {sp:Sp} {s₁:Shared} {vals:List Value} {ds:List WData} {R:W.WRecords} {cl:Str→Option Addr} {d0:WData}
    (KX:K.In s₁.heap) (hns:s₁.heap.Ns mainGlobals mg) (hb:s₁.heap.Ns builtinsNs mb) (hbb:∀ x:Str,x≠"__name__"→mb x=bootBuiltins x) (hlim:s₁.heap.NoLimit) (hg:s₁.gens = #[])
    (hwl:WellAll w.params s₁.heap vals ds) (hpl:plWs ds=true) (hwt:∀ d∈ds,d.weight≤1048576) (hr:Room k callerA)
    (F:∀ base:Heap,K.In base→base.Ns mainGlobals mg→FnOk P w K mg base CX k fa fd ps sp) (hbind:∀ (s:Shared) (us:List Value),us.length=ps.length→BindsTo s fd ⟨us,[]⟩ (ps.zip us)) (hlen:ds.length=ps.length)
    (hsp:∀ (H:Hp) (xs:List V),zso H→zh3 K H xs ds→sp xs H (fun v H'=>Dw K H' v d0) fun _ _ _=>False)
    (hCX:∀ H e s',CX [] H s₁ (fun _ _ _=>False) e s'→False) :
    codeAny (model P w) callerA (.call (.ref fa) ⟨vals,[]⟩) (fun r s'=>∃ u as,r = .ok (.ret u)∧ReadsW R cl s'.heap u d0 as∧OldK s₁.heap s'.heap∧s'.os=s₁.os∧AllBare s'.gens) s₁:=by
  obtain ⟨A,ho,ar⟩:=zjz ds vals hwl hpl hwt
  have hO:zso (argH K s₁.heap A):=ztz ar
  have hok:HOk P w (argH K s₁.heap A) s₁.heap:=zzw ar
  have hS:=zrl KX ar ds vals hwl hpl ho
  have hV:=zfz ho
  have hK:∀ b u,argH K s₁.heap A b=some u→K.lookup b=none:=fun b u q=>(zl6 ar q).1
  have noA:∀ {b:Addr} {o:Obj} {es:Array DictEntry} {ep:Nat},s₁.heap.get? b=some o→o.data = .dict es ep→argH K s₁.heap A b=none:=fun {b o es ep} e d=>by
    cases q:argH K s₁.heap A b with
    | none=>rfl
    | some u=>
      obtain ⟨_,vs,_,_,⟨e2,_⟩ | ⟨e2,_⟩⟩:=zl6 ar q
      · rw [e2] at e
        cases e
        have d':Data.seq vs.toArray _=Data.dict es ep:=d
        cases d'
      · rw [e2] at e
        cases e
        have d':Data.seq vs.toArray _=Data.dict es ep:=d
        cases d'
  generalize argH K s₁.heap A=H at hO hok hS hK noA
  have base_of:∀ {b:Addr} {o:Obj},s₁.heap.get? b=some o→H b=none→(hidT s₁.heap H).get? b=some o:=fun e n=>zxm e n
  have nsK:∀ {b:Addr} {m:Str→Option Value},s₁.heap.Ns b m→(hidT s₁.heap H).Ns b m:=fun {b m} ⟨o,es,ep,e,d,r⟩=>⟨o,es,ep,base_of e (noA e d),d,r⟩
  have nK:∀ b o,K.lookup b=some o→H b=none:=fun b o e=>by
    cases q:H b with
    | none=>rfl
    | some u=>
      rw [hK b u q] at e
      cases e
  have hKb:K.In (hidT s₁.heap H):=fun b o e=>base_of (KX b o e) (nK b o e)
  have hM:Mod K mg (hidT s₁.heap H):=⟨hKb,nsK hns,⟨mb,nsK hb,hbb⟩,let ⟨mc,h1,h2⟩:=hlim; ⟨mc,nsK h1,h2⟩⟩
  have e0:Env0 P w K mg (hidT s₁.heap H) callerA [] s₁ H:=⟨rfl,hM,fun b o e=>zAs e,Nat.le_of_eq (zut _ _),trivial,fun b hb=>absurd (show b∈([]:List Addr) from hb) (by simp),hok, .of_eq hg⟩
  have hl:vals.length=ps.length:=by rw [ze3 hwl];exact hlen
  refine codeAny_mono ((F _ hKb (nsK hns)).run callerA [] s₁ H ⟨vals,[]⟩ vals (vals.map toV) _ _ hr e0 (hbind s₁ vals hl) hV (hsp H _ hO hS)) fun r s' x=>?_
  cases r with
  | error e=>exact (hCX H e s' x).elim
  | ok fl=>
    cases fl with
    | next=>exact False.elim x
    | brk=>exact False.elim x
    | cont=>exact False.elim x
    | ret u=>
      obtain ⟨v,H',os,bare,un,hok',r',q⟩:=x
      have kept:∀ b o,s₁.heap.get? b=some o→s'.heap.get? b=some o:=fun b o e=>by
        cases q2:H b with
        | none=>exact un.keep b o e q2 (by intro z;exact absurd (show b∈([]:List Addr) from z) (by simp)) (by simp)
        | some u2=>
          rcases hO b with z | ⟨ob,u3,z⟩
          · rw [q2] at z
            cases z
          · have z2:=un.frzs b ob _ z
            obtain ⟨e1,_⟩:=hok b _ z
            obtain ⟨e2,_⟩:=hok' b _ z2
            rw [e] at e1
            cases e1
            exact e2
      have KX':K.In s'.heap:=fun b o e=>kept b o (KX b o e)
      obtain ⟨as,hrd⟩:=Dw.reads (R:=R) (cl:=cl) hok' KX' d0 v u q r'
      exact ⟨u,as,rfl,hrd,OldK.of_keep kept,os,bare⟩
theorem zlc {ds:List WData} (h:WData.layableAll ds=true):∀ d∈ds,d.weight≤1048576:=fun d hd=>
  (W.layableW_iff.mp (List.all_eq_true.mp h d hd)).2.2
theorem zlp:∀ (cs:List Codec) (a:Codec.denoteAll cs),(Codec.encAll cs a).length=cs.length
  | [],_=>rfl
  | c :: cs,a=>by
    show (Codec.encAll cs a.2).length+1=cs.length+1
    rw [zlp cs a.2]
theorem zwx {r:OpenSpec} {k:Nat} {q:Program} {loose:List Str} {XP:(Str→Option Value)→Heap→Prop} {YP:World→Heap→Prop} {d:DefRec} {K:Params→W.Frag} {CX:World→CXT} {ps:List Str} {sp:World→Sp}
    (hwell:r.wellSaid=true) (hdf:d.params.defaults=[]) (hlen:r.args.length=ps.length) (hr:Room k callerA)
    (hY:∀ (w:World) (h:Heap),YP w h→(K w.params).In h)
    (F:∀ (w:World) (mg:Str→Option Value) (fa:Addr) (h:Heap),YP w h→(K w.params).In h→h.Ns mainGlobals mg→mg d.name=some (.ref fa)→
      ∃ fd:FuncData,(∀ (s:Shared) (us:List Value),us.length=ps.length→BindsTo s fd ⟨us,[]⟩ (ps.zip us))∧
        ∀ base:Heap,(K w.params).In base→base.Ns mainGlobals mg→FnOk r.prog w (K w.params) mg base (CX w) k fa fd ps (sp w))
    (hsp:∀ (w:World) (H:Hp) (xs:List V) (a:Codec.denoteAll r.args),zso H→Codec.withinAll r.args a=true→Codec.app r.args r.asked a=true→zh3 (K w.params) H xs (Codec.encAll r.args a)→
      sp w xs H (fun v H'=>Dw (K w.params) H' v (r.ret.enc (Codec.app r.args r.f a))) fun _ _ _=>False)
    (hCX:∀ (w:World) (H:Hp) (s:Shared) (e:Value) (s':Shared),CX w [] H s (fun _ _ _=>False) e s'→False) :
    W.WalkOS q loose XP YP r d [] (fun f vs=>PySem.call f vs):=by
  intro w s_0 s₁ mg mb G Y fa o pm cd doc dV kV ho hd hcd hD hmg hg args vals as hpre hlay hrd hwl hlo
  obtain ⟨a,e1,e2⟩:=W.os_pre_some hpre
  obtain ⟨e3,hwi⟩:=Codec.encAll_of_decAll r.args args a e1
  subst e3
  have KX:=hY w _ Y
  obtain ⟨fd,hb,hF⟩:=F w mg fa _ Y KX G.T.g hmg
  refine W.enter_call (codeAny_mono (zwm (R:=[]) (cl:=classAt s_0.heap) (d0:=r.ret.enc (Codec.app r.args r.f a)) KX G.T.g G.T.b G.T.builtins G.T.nolimit hg hwl (zpc _ _) (zlc hlay) hr hF hb (by rw [zlp];exact hlen)
    (fun H xs hO hS=>hsp w H xs a hO hwi e2 hS) fun H e s'=>hCX w H s₁ e s') fun r' s' hq=>?_)
  obtain ⟨u,as',rfl,h1,h2,h3,h4⟩:=hq
  exact ⟨.inl ⟨u,_,as',rfl,fun _=>rfl,h1,(OpenSpec.post_iff hwell hwi _ _).mpr rfl,fun z=>Bool.noConfusion (show false=true from z)⟩,h2,h3,h4⟩
theorem walk_specK {r:OpenSpec} {k:Nat} {q:Program} {loose:List Str} {XP:(Str→Option Value)→Heap→Prop} {YP:World→Heap→Prop} {d:DefRec} {K:Params→W.Frag} {CX:CXT} {ps:List Str} {sp:W.Frag→Sp}
    (hwell:r.wellSaid=true) (hdf:d.params.defaults=[]) (hlen:r.args.length=ps.length) (hr:Room k callerA)
    (hY:∀ (w:World) (h:Heap),YP w h→(K w.params).In h)
    (F:∀ (w:World) (mg:Str→Option Value) (fa:Addr) (h:Heap),YP w h→(K w.params).In h→h.Ns mainGlobals mg→mg d.name=some (.ref fa)→
      ∃ fd:FuncData,(∀ (s:Shared) (us:List Value),us.length=ps.length→BindsTo s fd ⟨us,[]⟩ (ps.zip us))∧
        ∀ base:Heap,(K w.params).In base→base.Ns mainGlobals mg→FnOk r.prog w (K w.params) mg base CX k fa fd ps (sp (K w.params)))
    (hsp:∀ (K:W.Frag) (H:Hp) (xs:List V) (a:Codec.denoteAll r.args),zso H→Codec.withinAll r.args a=true→Codec.app r.args r.asked a=true→zh3 K H xs (Codec.encAll r.args a)→
      sp K xs H (fun v H'=>Dw K H' v (r.ret.enc (Codec.app r.args r.f a))) fun _ _ _=>False)
    (hCX:∀ (H:Hp) (s:Shared) (e:Value) (s':Shared),CX [] H s (fun _ _ _=>False) e s'→False) :
    W.WalkOS q loose XP YP r d [] (fun f vs=>PySem.call f vs):=
  zwx (K:=K) (CX:=fun _=>CX) (sp:=fun w=>sp (K w.params)) hwell hdf hlen hr hY F (fun w H xs a h1 h2 h3 h4=>hsp (K w.params) H xs a h1 h2 h3 h4) fun _ H s e s'=>hCX H s e s'
end L2
end

set_option Elab.async false
set_option linter.all false
set_option maxRecDepth 100000
set_option maxHeartbeats 4000000
namespace My
local macro_rules|`(tactic|walk_at "sc")=>`(tactic|exact ⟨rfl,rfl,rfl,by decide +kernel,rfl,by decide +kernel,by decide +kernel⟩)
open PySem PySem.Spec PyProof.Rows L2
variable {P:Program} {w:World} {K:W.Frag} {mg:Str→Option Value} {base:Heap}
section
def top (i:Nat):Stmt:=PySem.Challenge.pw_coilticks_s01_answers.main.body.getD i (.Pass ⟨0,0,0,0⟩)
def GI (mg:Str→Option Value) (x:Str) (i:Int):Prop:=∃ t,mg x=some (.int i t)
section
variable {X:Cx}
theorem zap {x:Str} {i:Int} {pos:Pos} (h:GI X.mg x i) (hg:Gl X x:=by rfl) (hd:(x == ("__debug__" : Str))=false:=by decide):PE X (.Name x pos) (tC (.int i)):=by
 obtain ⟨t,h⟩:=h
 exact zkl hg h ⟨t,rfl⟩ hd
end
structure FnK (K:W.Frag) (mg:Str→Option Value) (x:Str) (st:Stmt):Prop where
 ex:∃ f fd,Fun K x x st f fd∧mg x=some (.ref f)
structure MtK (K:W.Frag) (C:Addr) (m qual:Str) (st:Stmt):Prop where
 ex:∃ f fd,Fun K m qual st f fd∧Meth K C m f
structure InK (K:W.Frag) (mg:Str→Option Value) (C:Addr) (x qual:Str) (st:Stmt):Prop where
 ex:∃ f fd,Fun K "__init__" qual st f fd∧Mk K C f∧mg x=some (.ref C)
structure Dn (P:Program) (w:World) (K:W.Frag) (mg:Str→Option Value) (base:Heap) (CX:CXT) (x:Str) (ps:List Str) (k:Nat) (sp:Sp):Prop where
 ex:∃ f fd,FnOk P w K mg base CX k f fd ps sp∧mg x=some (.ref f)∧W.keepIn K (.ref f)=true∧Binds K fd ps []
structure Md (P:Program) (w:World) (K:W.Frag) (mg:Str→Option Value) (base:Heap) (CX:CXT) (C:Addr) (m:Str) (ps:List Str) (k:Nat) (sp:Sp):Prop where
 ex:∃ f fd,FnOk P w K mg base CX k f fd ps sp∧Meth K C m f∧Binds K fd ps []
structure Id (P:Program) (w:World) (K:W.Frag) (mg:Str→Option Value) (base:Heap) (CX:CXT) (C:Addr) (x:Str) (ps:List Str) (k:Nat) (sp:Sp):Prop where
 ex:∃ f fd,FnOk P w K mg base CX k f fd ps sp∧Mk K C f∧Binds K fd ps []∧mg x=some (.ref C)
section
variable {X:Cx} {CX:CXT} {C:Addr} {x m:Str} {ps:List Str} {k j:Nat} {sp:Sp} {E:XK} {e o:Expr} {es:List Expr} {ta:TE} {t:TA} {p pos apos:Pos}
theorem pe_d (D:Dn X.prog X.w X.K X.mg X.base CX x ps k sp) (hr:Room j X.A) (hx:zdm CX X E) (ha:PA X (e :: es) t) (hk:k≤j:=by decide) (hg:Gl X x:=by rfl)
  (hdb:(x == ("__debug__" : Str))=false:=by decide) (he:starEach (e :: es) X.env=(false,eval e X.env) :: starEach es X.env:=by rfl) (hpl:(backTo pos (starEach es X.env)).any (·.1)=false:=by rfl) :
  PE X (.Call (.Name x p) (e :: es) [] pos) (zq8 sp [] E t):=by
 obtain ⟨f,fd,F,hm,kp,b⟩:=D.ex
 exact zAv F (hr.mono hk) hg hm kp b .nil hx ha hdb he hpl
theorem pe_m {pl:Sem Bool} (D:Md X.prog X.w X.K X.mg X.base CX C m ps k sp) (c:Cls X.K C) (hr:Room j X.A) (hx:zdm CX X E) (ho:PE X o ta) (ha:PA X (e :: es) t) (hk:k≤j:=by decide)
  (hst:starEach (e :: es) X.env=(false,eval e X.env) :: starEach es X.env:=by rfl) (hpl:(backTo pos (starEach es X.env)).any (·.1)=false:=by rfl)
  (ht:eval (.Call (.Attribute o m apos) (e :: es) [] pos) X.env=(do
   let ov ← eval o X.env
   standAt apos.atName
   let (f,first) ← holding [ov] (getMethod ov m pl)
   callWith pos f first (backTo pos (starEach (e :: es) X.env)) (backToKw pos (keywordEach [] X.env))):=by rfl) :
  PE X (.Call (.Attribute o m apos) (e :: es) [] pos) (zkx C m sp [] E ta t):=by
 obtain ⟨f,fd,F,hm,b⟩:=D.ex
 exact zAy ho c hm F (hr.mono hk) b .nil hx ha hst hpl ht
theorem zbk {pl:Sem Bool} (D:Md X.prog X.w X.K X.mg X.base CX C m ps k sp) (c:Cls X.K C) (hr:Room j X.A) (hx:zdm CX X E) (ho:PE X o ta) (hk:k≤j:=by decide)
  (ht:eval (.Call (.Attribute o m apos) [] [] pos) X.env=(do
   let ov ← eval o X.env
   standAt apos.atName
   let (f,first) ← holding [ov] (getMethod ov m pl)
   callWith pos f first (backTo pos (starEach [] X.env)) (backToKw pos (keywordEach [] X.env))):=by rfl) :
  PE X (.Call (.Attribute o m apos) [] [] pos) (zkx C m sp [] E ta tNil):=by
 obtain ⟨f,fd,F,hm,b⟩:=D.ex
 exact zyd ho c hm F (hr.mono hk) b .nil hx ht
theorem pe_i (D:Id X.prog X.w X.K X.mg X.base CX C x ps k sp) (hr:Room j X.A) (hx:zdm CX X E) (ha:PA X (e :: es) t) (hk:k+1≤j:=by decide) (hg:Gl X x:=by rfl)
  (hdb:(x == ("__debug__" : Str))=false:=by decide) (he:starEach (e :: es) X.env=(false,eval e X.env) :: starEach es X.env:=by rfl) (hpl:(backTo pos (starEach es X.env)).any (·.1)=false:=by rfl) :
  PE X (.Call (.Name x p) (e :: es) [] pos) (zpi C sp [] E t):=by
 obtain ⟨f,fd,F,M,b,hm⟩:=D.ex
 exact zAx M F (hr.mono hk) hg hm b .nil hx ha hdb he hpl
theorem zC4 (D:Id X.prog X.w X.K X.mg X.base CX C x ps k sp) (hr:Room j X.A) (hx:zdm CX X E) (hk:k+1≤j:=by decide) (hg:Gl X x:=by rfl)
  (hdb:(x == ("__debug__" : Str))=false:=by decide):PE X (.Call (.Name x p) [] [] pos) (zpi C sp [] E tNil):=by
 obtain ⟨f,fd,F,M,b,hm⟩:=D.ex
 exact zyc M F (hr.mono hk) hg hm b .nil hx hdb
end
section
def zak (st:Stmt) (x qual:Str) (ps:List Str):Prop:=∀ (kV doc pm:Value) (an:Option Addr) (cdv ct:Value) (us:List Value),us.length=ps.length→bindArgs (W.fnOf x qual (zfh st) (zc0 st) (zae st) .none kV doc pm an cdv ct) ⟨us,[]⟩=pure (ps.zip us)
theorem FnK.dn {x:Str} {st:Stmt} {N ps:List Str} {k:Nat} {sp:Sp} (F:FnK K mg x st) (S:zai N ps (zae st)) (B:zak st x x ps) (len:∀ vs H Q E,sp vs H Q E→vs.length=ps.length)
  (hbody:∀ (f:Addr) (cdv:Value) (A:Around) (outer:List Env) (s:Shared) (H:Hp) (vs:List V) (Q:VK) (E:XK),Room k (A.deeper (envOfC x (zae st) s.heap.objs.size f cdv))→sp vs H Q E→
   ∃ t,PSs (cxOf CX0 P w K mg base N x (zae st) f cdv A outer s H E).nox (zc0 st) t∧t { nx:=fun _ H'=>Q .non H',rt:=Q } (start N vs) H):Dn P w K mg base CX0 x ps (k+1) sp:=by
 obtain ⟨f,fd,F,hm⟩:=F.ex
 exact ⟨f,fd,F.ok S len (hbody f),hm,F.kp,F.binds B⟩
theorem MtK.md {C:Addr} {m qual:Str} {st:Stmt} {N ps:List Str} {k:Nat} {sp:Sp} (F:MtK K C m qual st) (S:zai N ps (zae st)) (B:zak st m qual ps) (len:∀ vs H Q E,sp vs H Q E→vs.length=ps.length)
  (hbody:∀ (f:Addr) (cdv:Value) (A:Around) (outer:List Env) (s:Shared) (H:Hp) (vs:List V) (Q:VK) (E:XK),Room k (A.deeper (envOfC qual (zae st) s.heap.objs.size f cdv))→sp vs H Q E→
   ∃ t,PSs (cxOf CX0 P w K mg base N qual (zae st) f cdv A outer s H E).nox (zc0 st) t∧t { nx:=fun _ H'=>Q .non H',rt:=Q } (start N vs) H):Md P w K mg base CX0 C m ps (k+1) sp:=by
 obtain ⟨f,fd,F,hm⟩:=F.ex
 exact ⟨f,fd,F.ok S len (hbody f),hm,F.binds B⟩
theorem InK.id {C:Addr} {x qual:Str} {st:Stmt} {N ps:List Str} {k:Nat} {sp:Sp} (F:InK K mg C x qual st) (S:zai N ps (zae st)) (B:zak st "__init__" qual ps) (len:∀ vs H Q E,sp vs H Q E→vs.length=ps.length)
  (hbody:∀ (f:Addr) (cdv:Value) (A:Around) (outer:List Env) (s:Shared) (H:Hp) (vs:List V) (Q:VK) (E:XK),Room k (A.deeper (envOfC qual (zae st) s.heap.objs.size f cdv))→sp vs H Q E→
   ∃ t,PSs (cxOf CX0 P w K mg base N qual (zae st) f cdv A outer s H E).nox (zc0 st) t∧t { nx:=fun _ H'=>Q .non H',rt:=Q } (start N vs) H):Id P w K mg base CX0 C x ps (k+1) sp:=by
 obtain ⟨f,fd,F,M,hm⟩:=F.ex
 exact ⟨f,fd,F.ok S len (hbody f),M,F.binds B,hm⟩
end
section
variable {K:W.Frag} {H:Hp} {p C dx:Addr} {fs:List (Str×V)}
end
end
section
def GS (mg:Str→Option Value) (x y:Str):Prop:=∃ t,mg x=some (.str y t)
def GT (K:W.Frag) (mg:Str→Option Value) (x:Str) (ys:List Str):Prop:=∃ a,mg x=some (.ref a)∧SqT K (fun _=>none) a (ys.map V.str)
structure TG (K:W.Frag) (mg:Str→Option Value):Prop where
 g_RESTING:GI mg "RESTING" (0)
 g_PULSED:GI mg "PULSED" (1)
 g_HELD:GI mg "HELD" (2)
 g_WAITING:GI mg "WAITING" (3)
 g_NOBODY:GI mg "NOBODY" (0)
 g_BY_ORDER:GI mg "BY_ORDER" (1)
 g_BY_KICK:GI mg "BY_KICK" (2)
 g_EVENT_WIDTH:GI mg "EVENT_WIDTH" (2)
 g_ORDER_WIDTH:GI mg "ORDER_WIDTH" (4)
 g_EVENTS:GI mg "EVENTS" (128)
 g_PULSE:GI mg "PULSE" (0)
 g_PULSE_AND_HOLD:GI mg "PULSE_AND_HOLD" (1)
 g_LET_GO:GI mg "LET_GO" (2)
 g_STOP:GI mg "STOP" (3)
 g_STOP_ALL:GI mg "STOP_ALL" (4)
 g_SET_KICKS:GI mg "SET_KICKS" (5)
 g_NOT_ENDED:GI mg "NOT_ENDED" (1)
 g_WRONG_BYTE:GI mg "WRONG_BYTE" (2)
 g_WRONG_WORD:GI mg "WRONG_WORD" (3)
 g_WRONG_FORM:GI mg "WRONG_FORM" (4)
 g_NOT_NEW:GI mg "NOT_NEW" (5)
 g_NOT_KNOWN:GI mg "NOT_KNOWN" (6)
 g_NOT_FREE:GI mg "NOT_FREE" (7)
 g_FEW_DRAINS:GI mg "FEW_DRAINS" (8)
 g_OPENED:GI mg "OPENED" (64)
 g_BLANK:GI mg "BLANK" (32)
 g_DIGIT_ZERO:GI mg "DIGIT_ZERO" (48)
 g_DIGIT_NINE:GI mg "DIGIT_NINE" (57)
 g_LETTER_A:GI mg "LETTER_A" (97)
 g_LETTER_Z:GI mg "LETTER_Z" (122)
 g_UNDERLINE:GI mg "UNDERLINE" (95)
 g_LONGEST_NAME:GI mg "LONGEST_NAME" (12)
 g_LINE_END:GI mg "LINE_END" (10)
 g_LAST_SIGN:GI mg "LAST_SIGN" (126)
 g_MOST_DEVICES:GI mg "MOST_DEVICES" (8)
 g_MOST_KICKS:GI mg "MOST_KICKS" (8)
 g_MOST_SWITCHES_HELD:GI mg "MOST_SWITCHES_HELD" (8)
 g_BEGIN:GI mg "BEGIN" (1)
 g_TICKS:GI mg "TICKS" (2)
 g_SOON:GI mg "SOON" (3)
 g_STANDS:GI mg "STANDS" (4)
 g_DONE:GI mg "DONE" (0)
 g_NOT_RIGHT:GI mg "NOT_RIGHT" (-1)
 g_TOO_MANY:GI mg "TOO_MANY" (-2)
 g_NOT_IDLE:GI mg "NOT_IDLE" (-3)
 g_NO_COIL:GI mg "NO_COIL" (-4)
 g_FAULTY:GI mg "FAULTY" (-6)
 g_NOT_BEGUN:GI mg "NOT_BEGUN" (-10)
 g_MOST_BYTES:GI mg "MOST_BYTES" (16384)
 g_MOST_SUPPLY:GI mg "MOST_SUPPLY" (32)
 g_MOST_TICKS:GI mg "MOST_TICKS" (4096)
 g_MOST_ROWS:GI mg "MOST_ROWS" (4096)
 g_LAST_COIL:GI mg "LAST_COIL" (31)
 s_NOT_BARRED:GS mg "NOT_BARRED" ""
 t_FIRST_SORT:GT K mg "FIRST_SORT" ["table"]
 t_LATER_SORTS:GT K mg "LATER_SORTS" ["switch","lamp","coil","device","kick"]
 b_len:mg "len"=none
 b_int:mg "int"=none
 b_tuple:mg "tuple"=none
 b_all:mg "all"=none
 b_sorted:mg "sorted"=none
 b_ord:mg "ord"=none
 b_range:mg "range"=none
 b_ValueError:mg "ValueError"=none
structure zdt (K:W.Frag) (C:Addr):Prop where
 cl:Cls K C
 n_place:NoAttr K C "place"
 n_power:NoAttr K C "power"
 n_most:NoAttr K C "most"
 n_rest:NoAttr K C "rest"
 n_hold:NoAttr K C "hold"
 n_way:NoAttr K C "way"
 n_left:NoAttr K C "left"
 n_waiting:NoAttr K C "waiting"
 n_since:NoAttr K C "since"
 n_kicked:NoAttr K C "kicked"
 n_keeper:NoAttr K C "keeper"
structure MC where
 place:Int
 most:Int
 rest:Int
 hold:Int
 way:Int
 left:Int
 waiting:Int
 since:Int
 kicked:Bool
 keeper:Int
def za4 (c:MC):List (Str×V):=[("place", .int c.place),("power", .int (2 ^ c.place.toNat)),("most", .int c.most),("rest", .int c.rest),("hold", .int c.hold),("way", .int c.way),("left", .int c.left),("waiting", .int c.waiting),("since", .int c.since),("kicked", .bl c.kicked),("keeper", .int c.keeper)]
@[simp] theorem zxx (c:MC):(za4 c).lookup ("place" : Str)=some (.int c.place):=rfl
@[simp] theorem zxy (c:MC):(za4 c).lookup ("power" : Str)=some (.int (2 ^ c.place.toNat)):=rfl
@[simp] theorem zzg (c:MC):(za4 c).lookup ("most" : Str)=some (.int c.most):=rfl
@[simp] theorem zzh (c:MC):(za4 c).lookup ("rest" : Str)=some (.int c.rest):=rfl
@[simp] theorem zze (c:MC):(za4 c).lookup ("hold" : Str)=some (.int c.hold):=rfl
@[simp] theorem zAm (c:MC):(za4 c).lookup ("way" : Str)=some (.int c.way):=rfl
@[simp] theorem zzf (c:MC):(za4 c).lookup ("left" : Str)=some (.int c.left):=rfl
@[simp] theorem zu6 (c:MC):(za4 c).lookup ("waiting" : Str)=some (.int c.waiting):=rfl
@[simp] theorem zxz (c:MC):(za4 c).lookup ("since" : Str)=some (.int c.since):=rfl
@[simp] theorem zwz (c:MC):(za4 c).lookup ("kicked" : Str)=some (.bl c.kicked):=rfl
@[simp] theorem zwy (c:MC):(za4 c).lookup ("keeper" : Str)=some (.int c.keeper):=rfl
@[simp] theorem zzm (c:MC) (z:Int):putF ("most" : Str) (.int z) (za4 c)=za4 { c with most:=z }:=rfl
@[simp] theorem zzn (c:MC) (z:Int):putF ("rest" : Str) (.int z) (za4 c)=za4 { c with rest:=z }:=rfl
@[simp] theorem zzk (c:MC) (z:Int):putF ("hold" : Str) (.int z) (za4 c)=za4 { c with hold:=z }:=rfl
@[simp] theorem zAz (c:MC) (z:Int):putF ("way" : Str) (.int z) (za4 c)=za4 { c with way:=z }:=rfl
@[simp] theorem zzl (c:MC) (z:Int):putF ("left" : Str) (.int z) (za4 c)=za4 { c with left:=z }:=rfl
@[simp] theorem zvo (c:MC) (z:Int):putF ("waiting" : Str) (.int z) (za4 c)=za4 { c with waiting:=z }:=rfl
@[simp] theorem zyh (c:MC) (z:Int):putF ("since" : Str) (.int z) (za4 c)=za4 { c with since:=z }:=rfl
@[simp] theorem zw4 (c:MC) (z:Bool):putF ("kicked" : Str) (.bl z) (za4 c)=za4 { c with kicked:=z }:=rfl
@[simp] theorem zw3 (c:MC) (z:Int):putF ("keeper" : Str) (.int z) (za4 c)=za4 { c with keeper:=z }:=rfl
@[simp] theorem zDt (c:MC):(za4 c).length=11:=rfl
@[simp] theorem zvf (c:MC):(za4 c).lookup ("is_idle" : Str)=none:=rfl
@[simp] theorem zAq (c:MC):(za4 c).lookup ("ask" : Str)=none:=rfl
@[simp] theorem zqe (c:MC):(za4 c).lookup ("begin_pulse" : Str)=none:=rfl
@[simp] theorem zs5 (c:MC):(za4 c).lookup ("end_pulse" : Str)=none:=rfl
@[simp] theorem zr3 (c:MC):(za4 c).lookup ("begin_rest" : Str)=none:=rfl
@[simp] theorem zw1 (c:MC):(za4 c).lookup ("let_go" : Str)=none:=rfl
@[simp] theorem zve (c:MC):(za4 c).lookup ("cut_off" : Str)=none:=rfl
@[simp] theorem zs6 (c:MC):(za4 c).lookup ("pass_tick" : Str)=none:=rfl
@[simp] theorem ztt (c:MC):(za4 c).lookup ("standing" : Str)=none:=rfl
@[simp] theorem zDs {c d:MC}:za4 c=za4 d↔c=d:=by
 refine ⟨fun h=>?_,fun h=>by rw [h]⟩
 cases c
 cases d
 simp [za4] at h
 simp [h]
structure zdz (K:W.Frag) (C:Addr):Prop where
 cl:Cls K C
 n_supply:NoAttr K C "supply"
 n_coils:NoAttr K C "coils"
 n_kicks:NoAttr K C "kicks"
 n_kicking:NoAttr K C "kicking"
 n_passed:NoAttr K C "passed"
structure MB where
 supply:Int
 coils:Addr
 kicks:Addr
 kicking:Bool
 passed:Int
def zj4 (c:MB):List (Str×V):=[("supply", .int c.supply),("coils", .ref c.coils),("kicks", .ref c.kicks),("kicking", .bl c.kicking),("passed", .int c.passed)]
structure ztw (K:W.Frag) (C:Addr):Prop where
 cl:Cls K C
 n_first:NoAttr K C "first"
 n_coil:NoAttr K C "coil"
 n_length:NoAttr K C "length"
 n_second:NoAttr K C "second"
structure MK where
 first:Int
 coil:Addr
 length:Int
 second:V
def zmm (c:MK):List (Str×V):=[("first", .int c.first),("coil", .ref c.coil),("length", .int c.length),("second",c.second)]
structure zb9 (K:W.Frag) (C:Addr):Prop where
 cl:Cls K C
 n_text:NoAttr K C "text"
 n_at:NoAttr K C "at"
 n_end:NoAttr K C "end"
 n_place:NoAttr K C "place"
structure MW where
 text:Addr
 at_:Int
 end_:Int
 place:Int
def za9 (c:MW):List (Str×V):=[("text", .ref c.text),("at", .int c.at_),("end", .int c.end_),("place", .int c.place)]
@[simp] theorem zx0 (c:MW):(za9 c).lookup ("text" : Str)=some (.ref c.text):=rfl
@[simp] theorem zAn (c:MW):(za9 c).lookup ("at" : Str)=some (.int c.at_):=rfl
@[simp] theorem zzi (c:MW):(za9 c).lookup ("end" : Str)=some (.int c.end_):=rfl
@[simp] theorem zw0 (c:MW):(za9 c).lookup ("place" : Str)=some (.int c.place):=rfl
@[simp] theorem zyi (c:MW) (z:Addr):putF ("text" : Str) (.ref z) (za9 c)=za9 { c with text:=z }:=rfl
@[simp] theorem zA0 (c:MW) (z:Int):putF ("at" : Str) (.int z) (za9 c)=za9 { c with at_:=z }:=rfl
@[simp] theorem zzo (c:MW) (z:Int):putF ("end" : Str) (.int z) (za9 c)=za9 { c with end_:=z }:=rfl
@[simp] theorem zw5 (c:MW) (z:Int):putF ("place" : Str) (.int z) (za9 c)=za9 { c with place:=z }:=rfl
@[simp] theorem zCs (c:MW):(za9 c).length=4:=rfl
@[simp] theorem zx5 (c:MW):(za9 c).lookup ("more" : Str)=none:=rfl
@[simp] theorem zx6 (c:MW):(za9 c).lookup ("take" : Str)=none:=rfl
@[simp] theorem zw2 (c:MW):(za9 c).lookup ("check" : Str)=none:=rfl
@[simp] theorem zqf (c:MW):(za9 c).lookup ("take_fixed" : Str)=none:=rfl
@[simp] theorem zpr (c:MW):(za9 c).lookup ("take_number" : Str)=none:=rfl
@[simp] theorem zqg (c:MW):(za9 c).lookup ("take_place" : Str)=none:=rfl
@[simp] theorem zr4 (c:MW):(za9 c).lookup ("take_name" : Str)=none:=rfl
@[simp] theorem znt (c:MW):(za9 c).lookup ("take_new_name" : Str)=none:=rfl
@[simp] theorem zlv (c:MW):(za9 c).lookup ("take_known_name" : Str)=none:=rfl
@[simp] theorem zpq (c:MW):(za9 c).lookup ("check_known" : Str)=none:=rfl
@[simp] theorem zpp (c:MW):(za9 c).lookup ("check_ended" : Str)=none:=rfl
@[simp] theorem zCj {c d:MW}:za9 c=za9 d↔c=d:=by
 refine ⟨fun h=>?_,fun h=>by rw [h]⟩
 cases c
 cases d
 simp [za9] at h
 simp [h]
structure zd0 (K:W.Frag) (C:Addr):Prop where
 cl:Cls K C
 n_sorts:NoAttr K C "sorts"
 n_balls:NoAttr K C "balls"
 n_drained:NoAttr K C "drained"
 n_switches:NoAttr K C "switches"
 n_lamps:NoAttr K C "lamps"
 n_coils:NoAttr K C "coils"
 n_devices:NoAttr K C "devices"
 n_kicks:NoAttr K C "kicks"
 n_last_switch:NoAttr K C "last_switch"
 n_last_lamp:NoAttr K C "last_lamp"
 n_last_coil:NoAttr K C "last_coil"
 n_last_kick:NoAttr K C "last_kick"
 n_housed:NoAttr K C "housed"
 n_served:NoAttr K C "served"
structure MT where
 sorts:Addr
 balls:Int
 drained:Int
 switches:Addr
 lamps:Addr
 coils:Addr
 devices:Addr
 kicks:Addr
 last_switch:Int
 last_lamp:Int
 last_coil:Int
 last_kick:Int
 housed:Addr
 served:Addr
def zdx (c:MT):List (Str×V):=[("sorts", .ref c.sorts),("balls", .int c.balls),("drained", .int c.drained),("switches", .ref c.switches),("lamps", .ref c.lamps),("coils", .ref c.coils),("devices", .ref c.devices),("kicks", .ref c.kicks),("last_switch", .int c.last_switch),("last_lamp", .int c.last_lamp),("last_coil", .int c.last_coil),("last_kick", .int c.last_kick),("housed", .ref c.housed),("served", .ref c.served)]
structure zl4 (K:W.Frag) (C:Addr):Prop where
 cl:Cls K C
 n_board:NoAttr K C "board"
structure MD where
 board:V
def zf5 (c:MD):List (Str×V):=[("board",c.board)]
structure zgf (K:W.Frag) (C:Addr):Prop where
 cl:Cls K C
 n_calls:NoAttr K C "calls"
 n_at:NoAttr K C "at"
structure MR where
 calls:Addr
 at_:Int
def za8 (c:MR):List (Str×V):=[("calls", .ref c.calls),("at", .int c.at_)]
end
section
@[simp] theorem cxK {CX:CXT} {P:Program} {w:World} {K:W.Frag} {mg:Str→Option Value} {base:Heap} {N:List Str} {qual:Str} {scope:Scope} {f:Addr} {cd:Value} {A:Around} {outer:List Env} {s:Shared} {H:Hp} {E:XK} :
  (cxOf CX P w K mg base N qual scope f cd A outer s H E).K=K:=rfl
@[simp] theorem zas {i j:Int}:decide (V.int i=V.int j)=decide (i=j):=by simp
@[simp] theorem zD6 {i j:Int}:scal (.int i) (.int j)=true:=rfl
@[simp] theorem zD7 {i:Int}:scal (.int i) .non=true:=rfl
@[simp] theorem zD5 {i j:Bool}:scal (.bl i) (.bl j)=true:=rfl
@[simp] theorem ex_3 {α β γ:Type} {a:α} {b:β} {c:γ} {R:α→β→γ→Prop}:(∃ x y z,(a=x∧b=y∧c=z)∧R x y z)↔R a b c:=
 ⟨fun ⟨_,_,_,⟨e1,e2,e3⟩,h⟩=>by subst e1 e2 e3;exact h,fun h=>⟨_,_,_,⟨rfl,rfl,rfl⟩,h⟩⟩
@[simp] theorem ex_2 {α β:Type} {a:α} {b:β} {R:α→β→Prop}:(∃ x y,(a=x∧b=y)∧R x y)↔R a b:=
 ⟨fun ⟨_,_,⟨e1,e2⟩,h⟩=>by subst e1 e2;exact h,fun h=>⟨_,_,⟨rfl,rfl⟩,h⟩⟩
@[simp] theorem ex_3n {α β γ:Type} {a:α} {b:β} {c:γ} {R:α→β→γ→Prop}:(∃ x y z,(a=x∧b=y∧z=c)∧R x y z)↔R a b c:=
 ⟨fun ⟨_,_,_,⟨e1,e2,e3⟩,h⟩=>by subst e1 e2 e3;exact h,fun h=>⟨_,_,_,⟨rfl,rfl,rfl⟩,h⟩⟩
theorem zcs:bootBuiltins "len"=some (.builtin "len"):=by decide +kernel
theorem zt7:bootBuiltins "int"=some (.type "int"):=by decide +kernel
theorem zrg:bootBuiltins "tuple"=some (.type "tuple"):=by decide +kernel
theorem zt6:bootBuiltins "all"=some (.builtin "all"):=by decide +kernel
theorem zt8:bootBuiltins "sorted"=some (.builtin "sorted"):=by decide +kernel
theorem zB7:bootBuiltins "ord"=some (.builtin "ord"):=by decide +kernel
theorem zmc:bootBuiltins "ValueError"=some (.type "ValueError"):=by decide +kernel
theorem zsm {H:Hp} {p:Addr} {o:HO} (h:H p=some o):upd H p o=H:=by
 funext b
 unfold upd
 split
 ·rename_i e
  rw [e,h]
 ·rfl
def spRd (C:Addr) (g:MC→V):Sp:=fun vs H Q _=>E3 fun p dx c=>A3 (vs=[.ref p]) (H p=some (.ins C dx (za4 c))) (Q (g c) H)
def spCh (C:Addr) (g:MC→MC) (r:MC→V):Sp:=fun vs H Q _=>E3 fun p dx c=>A3 (vs=[.ref p]) (H p=some (.ins C dx (za4 c))) (Q (r c) (upd H p (.ins C dx (za4 (g c)))))
end
local macro_rules | `(tactic| walk_at "rd")=>`(tactic| simp [zB5, zB1, zB2, zB3, zB4, zBx, zBy, zBz, zB0, tRet, zDk, tIfS, tSeq, zpj, zDg, tOrV, tAnd, tOr, tNot, zky, tB, tOp, tFld, sFld, zv4, tVar, tC, zkx, zq8, zpi, tNil, zdk, znq, tLst, tTup, tAsg, zke, tAug, tIf, tCB, zzq, rEq, rNe, rI0, rI, rAdd, rSub, sizeLine, L2.start, zaf, zc9, spRd, spCh, -List.lookup_eq_none_iff, *])
section
def zge (c:MC):Bool:=decide (c.way=0)&&decide (c.waiting=0)
def zev (c:MC) (n t:Int) (k:Bool) (h:Int):MC:=if zge c then { c with waiting:=n,since:=t,kicked:=k,keeper:=h } else c
def zdv (c:MC):MC:={ c with way:=1,left:=c.waiting,waiting:=0 }
def zem (c:MC):MC:={ c with way:=0,left:=c.rest }
def zc2 (c:MC):MC:=if c.keeper=0 then zem c else { c with way:=2,left:=c.hold }
def za3 (c:MC):MC:=if c.way=2 then zem { c with waiting:=0,keeper:=0 } else { c with waiting:=0,keeper:=0 }
def zeh (c:MC):MC:=if (za3 c).way=1 then zem (za3 c) else za3 c
def zc3 (c:MC):MC:=if c.way=1 then (if c.left-1=0 then zc2 { c with left:=c.left-1 } else { c with left:=c.left-1 }) else if 0<c.left then { c with left:=c.left-1 } else if c.way=2 then { c with left:=c.hold } else c
def mcOn (c:MC):Bool:=if c.way=1 then true else if 0<c.left then false else if c.way=2 then true else false
def b2i (b:Bool):Int:=if b then 1 else 0
def zil (c:MC):List Int:=if c.way=1 then [1,c.left,b2i c.kicked,c.keeper] else if c.way=2 then [2,c.keeper,c.left] else if 0<c.waiting then [3,c.left,c.waiting,c.since,b2i c.kicked,c.keeper] else [0,c.left]
section
variable {cC:Addr}
abbrev zc5:Stmt:=zaw (top 8) 1
theorem zkt:zai ["self"] ["self"] (zae zc5):=by walk_at "sc"
theorem zj2:zak zc5 "is_idle" "Coil.is_idle" ["self"]:=fun _ _ _ _ _ _ us hl=>match us,hl with | [_],_=>rfl
abbrev zez:Stmt:=zaw (top 8) 2
theorem zqt:zai ["self","length","tick","kicked","keeper"] ["self","length","tick","kicked","keeper"] (zae zez):=by walk_at "sc"
theorem zpu:zak zez "ask" "Coil.ask" ["self","length","tick","kicked","keeper"]:=fun _ _ _ _ _ _ us hl=>match us,hl with | [_,_,_,_,_],_=>rfl
abbrev zby:Stmt:=zaw (top 8) 3
theorem zg3:zai ["self"] ["self"] (zae zby):=by walk_at "sc"
theorem zgi:zak zby "begin_pulse" "Coil.begin_pulse" ["self"]:=fun _ _ _ _ _ _ us hl=>match us,hl with | [_],_=>rfl
abbrev zck:Stmt:=zaw (top 8) 4
theorem zi2:zai ["self"] ["self"] (zae zck):=by walk_at "sc"
theorem zh7:zak zck "end_pulse" "Coil.end_pulse" ["self"]:=fun _ _ _ _ _ _ us hl=>match us,hl with | [_],_=>rfl
abbrev zcc:Stmt:=zaw (top 8) 5
theorem zhz:zai ["self"] ["self"] (zae zcc):=by walk_at "sc"
theorem zg8:zak zcc "begin_rest" "Coil.begin_rest" ["self"]:=fun _ _ _ _ _ _ us hl=>match us,hl with | [_],_=>rfl
abbrev zda:Stmt:=zaw (top 8) 6
theorem zll:zai ["self"] ["self"] (zae zda):=by walk_at "sc"
theorem zk3:zak zda "let_go" "Coil.let_go" ["self"]:=fun _ _ _ _ _ _ us hl=>match us,hl with | [_],_=>rfl
abbrev zc4:Stmt:=zaw (top 8) 7
theorem zks:zai ["self"] ["self"] (zae zc4):=by walk_at "sc"
theorem zj1:zak zc4 "cut_off" "Coil.cut_off" ["self"]:=fun _ _ _ _ _ _ us hl=>match us,hl with | [_],_=>rfl
abbrev zcl:Stmt:=zaw (top 8) 8
theorem zi3:zai ["self"] ["self"] (zae zcl):=by walk_at "sc"
theorem zh8:zak zcl "pass_tick" "Coil.pass_tick" ["self"]:=fun _ _ _ _ _ _ us hl=>match us,hl with | [_],_=>rfl
abbrev zcv:Stmt:=zaw (top 8) 9
theorem zjw:zai ["self"] ["self"] (zae zcv):=by walk_at "sc"
theorem zjl:zak zcv "standing" "Coil.standing" ["self"]:=fun _ _ _ _ _ _ us hl=>match us,hl with | [_],_=>rfl
abbrev zcu:Stmt:=zaw (top 8) 0
theorem zjv:zai ["self","place","most","rest","hold"] ["self","place","most","rest","hold"] (zae zcu):=by walk_at "sc"
theorem zjk:zak zcu "__init__" "Coil.__init__" ["self","place","most","rest","hold"]:=fun _ _ _ _ _ _ us hl=>match us,hl with | [_,_,_,_,_],_=>rfl
theorem zkj (tG:TG K mg) (tCoil:zdt K cC) (F:MtK K cC "is_idle" "Coil.is_idle" zc5):Md P w K mg base CX0 cC "is_idle" ["self"] 1 (spRd cC fun c=>.bl (zge c)):=by
 refine F.md zkt zj2 (fun vs H Q E h=>?_) (fun f cdv A outer s H vs Q E hr h=>?_)
 ·obtain ⟨p,dx,c,rfl,_⟩:=h
  rfl
 ·obtain ⟨p,dx,c,rfl,hp,q⟩:=h
  have hu:=za2 hr
  have hu64:=hr.units
  refine ⟨_,(zac (zar (zr7 (zba zbg (zah (pv 0) rfl) (zap tG.g_RESTING) (zam _)) (zje (zba zbg (zah (pv 0) rfl) zao (zam _)))))),?_⟩
  have f_tCoil_cl:=tCoil.cl
  have f_tCoil_n_waiting:=tCoil.n_waiting
  have f_tCoil_n_way:=tCoil.n_way
  walk_at "rd"
  unfold zge at q
  split<;>simp_all
theorem zhn (tG:TG K mg) (tCoil:zdt K cC) (F:MtK K cC "begin_rest" "Coil.begin_rest" zcc):Md P w K mg base CX0 cC "begin_rest" ["self"] 1 (spCh cC zem fun _=>.non):=by
 refine F.md zhz zg8 (fun vs H Q E h=>?_) (fun f cdv A outer s H vs Q E hr h=>?_)
 ·obtain ⟨p,dx,c,rfl,_⟩:=h
  rfl
 ·obtain ⟨p,dx,c,rfl,hp,q⟩:=h
  have hu:=za2 hr
  have hu64:=hr.units
  refine ⟨_,(zab (zau (pv 0) (zap tG.g_RESTING) rfl)
   (zac (zau (pv 0) (zah (pv 0) rfl) rfl))),?_⟩
  have f_tCoil_cl:=tCoil.cl
  have f_tCoil_n_way:=tCoil.n_way
  have f_tCoil_n_left:=tCoil.n_left
  have f_tCoil_n_rest:=tCoil.n_rest
  walk_at "rd"
  exact q
theorem zgv (tG:TG K mg) (tCoil:zdt K cC) (F:MtK K cC "begin_pulse" "Coil.begin_pulse" zby):Md P w K mg base CX0 cC "begin_pulse" ["self"] 1 (spCh cC zdv fun _=>.non):=by
 refine F.md zg3 zgi (fun vs H Q E h=>?_) (fun f cdv A outer s H vs Q E hr h=>?_)
 ·obtain ⟨p,dx,c,rfl,_⟩:=h
  rfl
 ·obtain ⟨p,dx,c,rfl,hp,q⟩:=h
  have hu:=za2 hr
  have hu64:=hr.units
  refine ⟨_,(zab (zau (pv 0) (zap tG.g_PULSED) rfl)
   (zab (zau (pv 0) (zah (pv 0) rfl) rfl)
   (zac (zau (pv 0) zao rfl)))),?_⟩
  have f_tCoil_cl:=tCoil.cl
  have f_tCoil_n_way:=tCoil.n_way
  have f_tCoil_n_left:=tCoil.n_left
  have f_tCoil_n_waiting:=tCoil.n_waiting
  walk_at "rd"
  exact q
theorem zis (tG:TG K mg) (tCoil:zdt K cC) (m_Coil_begin_rest:Md P w K mg base CX0 cC "begin_rest" ["self"] 1 (spCh cC zem fun _=>.non)) (F:MtK K cC "end_pulse" "Coil.end_pulse" zck) :
  Md P w K mg base CX0 cC "end_pulse" ["self"] 2 (spCh cC zc2 fun _=>.non):=by
 refine F.md zi2 zh7 (fun vs H Q E h=>?_) (fun f cdv A outer s H vs Q E hr h=>?_)
 ·obtain ⟨p,dx,c,rfl,_⟩:=h
  rfl
 ·obtain ⟨p,dx,c,rfl,hp,q⟩:=h
  have hu:=za2 hr
  have hu64:=hr.units
  refine ⟨_,(zac (za5 (zan zbg (zah (pv 0) rfl) (zap tG.g_NOBODY) (zam _)) (zac (zal (zbk m_Coil_begin_rest tCoil.cl hr zaz (pv 0)))) (zab (zau (pv 0) (zap tG.g_HELD) rfl)
   (zac (zau (pv 0) (zah (pv 0) rfl) rfl))))),?_⟩
  have f_tCoil_cl:=tCoil.cl
  have f_tCoil_n_keeper:=tCoil.n_keeper
  have f_tCoil_n_way:=tCoil.n_way
  have f_tCoil_n_left:=tCoil.n_left
  have f_tCoil_n_hold:=tCoil.n_hold
  walk_at "rd"
  unfold zc2 at q
  split<;>simp_all
theorem zld (tG:TG K mg) (tCoil:zdt K cC) (m_Coil_begin_rest:Md P w K mg base CX0 cC "begin_rest" ["self"] 1 (spCh cC zem fun _=>.non)) (F:MtK K cC "let_go" "Coil.let_go" zda) :
  Md P w K mg base CX0 cC "let_go" ["self"] 2 (spCh cC za3 fun _=>.non):=by
 refine F.md zll zk3 (fun vs H Q E h=>?_) (fun f cdv A outer s H vs Q E hr h=>?_)
 ·obtain ⟨p,dx,c,rfl,_⟩:=h
  rfl
 ·obtain ⟨p,dx,c,rfl,hp,q⟩:=h
  have hu:=za2 hr
  have hu64:=hr.units
  refine ⟨_,(zab (zau (pv 0) zao rfl)
   (zab (zau (pv 0) (zap tG.g_NOBODY) rfl)
   (zac (za5 (zan zbg (zah (pv 0) rfl) (zap tG.g_HELD) (zam _)) (zac (zal (zbk m_Coil_begin_rest tCoil.cl hr zaz (pv 0)))) zaq)))),?_⟩
  have f_tCoil_cl:=tCoil.cl
  have f_tCoil_n_waiting:=tCoil.n_waiting
  have f_tCoil_n_keeper:=tCoil.n_keeper
  have f_tCoil_n_way:=tCoil.n_way
  walk_at "rd"
  unfold za3 at q
  split<;>simp_all
theorem zki (tG:TG K mg) (tCoil:zdt K cC) (m_Coil_begin_rest:Md P w K mg base CX0 cC "begin_rest" ["self"] 1 (spCh cC zem fun _=>.non)) (m_Coil_let_go:Md P w K mg base CX0 cC "let_go" ["self"] 2 (spCh cC za3 fun _=>.non))
  (F:MtK K cC "cut_off" "Coil.cut_off" zc4):Md P w K mg base CX0 cC "cut_off" ["self"] 3 (spCh cC zeh fun _=>.non):=by
 refine F.md zks zj1 (fun vs H Q E h=>?_) (fun f cdv A outer s H vs Q E hr h=>?_)
 ·obtain ⟨p,dx,c,rfl,_⟩:=h
  rfl
 ·obtain ⟨p,dx,c,rfl,hp,q⟩:=h
  have hu:=za2 hr
  have hu64:=hr.units
  refine ⟨_,(zab (zal (zbk m_Coil_let_go tCoil.cl hr zaz (pv 0)))
   (zac (za5 (zan zbg (zah (pv 0) rfl) (zap tG.g_PULSED) (zam _)) (zac (zal (zbk m_Coil_begin_rest tCoil.cl hr zaz (pv 0)))) zaq))),?_⟩
  have f_tCoil_cl:=tCoil.cl
  have f_tCoil_n_way:=tCoil.n_way
  walk_at "rd"
  unfold zeh at q
  split<;>simp_all
theorem zit (tG:TG K mg) (tCoil:zdt K cC) (m_Coil_end_pulse:Md P w K mg base CX0 cC "end_pulse" ["self"] 2 (spCh cC zc2 fun _=>.non))
  (F:MtK K cC "pass_tick" "Coil.pass_tick" zcl):Md P w K mg base CX0 cC "pass_tick" ["self"] 3 (spCh cC zc3 fun c=>.bl (mcOn c)):=by
 refine F.md zi3 zh8 (fun vs H Q E h=>?_) (fun f cdv A outer s H vs Q E hr h=>?_)
 ·obtain ⟨p,dx,c,rfl,_⟩:=h
  rfl
 ·obtain ⟨p,dx,c,rfl,hp,q⟩:=h
  have hu:=za2 hr
  have hu64:=hr.units
  refine ⟨_,(zab (za5 (zan zbg (zah (pv 0) rfl) (zap tG.g_PULSED) (zam _)) (zab (zep (pv 0) zao zza)
   (zab (za5 (zan zbg (zah (pv 0) rfl) zao (zam _)) (zac (zal (zbk m_Coil_end_pulse tCoil.cl hr zaz (pv 0)))) zaq)
   (zac (zar zei)))) zaq)
   (zab (za5 (zan zfm (zah (pv 0) rfl) zao (zam _)) (zab (zep (pv 0) zao zza)
   (zac (zar zei))) zaq)
   (zab (za5 (zan zbg (zah (pv 0) rfl) (zap tG.g_HELD) (zam _)) (zab (zau (pv 0) (zah (pv 0) rfl) rfl)
   (zac (zar zei))) zaq)
   (zac (zar zei))))),?_⟩
  have f_tCoil_cl:=tCoil.cl
  have f_tCoil_n_way:=tCoil.n_way
  have f_tCoil_n_left:=tCoil.n_left
  have f_tCoil_n_hold:=tCoil.n_hold
  walk_at "rd"
  have hid:=zsm hp
  unfold zc3 mcOn at q
  split
  ·split<;>simp_all
  ·split
   ·simp_all
   ·split<;>simp_all
def zv9 (C:Addr):Sp:=fun vs H Q _=>E7 fun p dx c n t k h=>A3 (vs=[.ref p, .int n, .int t, .bl k, .int h]) (H p=some (.ins C dx (za4 c))) (Q .non (upd H p (.ins C dx (za4 (zev c n t k h)))))
theorem zqj (tG:TG K mg) (tCoil:zdt K cC) (m_Coil_is_idle:Md P w K mg base CX0 cC "is_idle" ["self"] 1 (spRd cC fun c=>.bl (zge c))) (F:MtK K cC "ask" "Coil.ask" zez) :
  Md P w K mg base CX0 cC "ask" ["self","length","tick","kicked","keeper"] 2 (zv9 cC):=by
 refine F.md zqt zpu (fun vs H Q E h=>?_) (fun f cdv A outer s H vs Q E hr h=>?_)
 ·obtain ⟨p,dx,c,n,t,k,h,rfl,_⟩:=h
  rfl
 ·obtain ⟨p,dx,c,n,t,k,h,rfl,hp,q⟩:=h
  have hu:=za2 hr
  have hu64:=hr.units
  refine ⟨_,(zab (za5 (ze5 (zct (zbk m_Coil_is_idle tCoil.cl hr zaz (pv 0)))) (zac zm4) zaq)
   (zab (zau (pv 0) (pv 1) rfl)
   (zab (zau (pv 0) (pv 2) rfl)
   (zab (zau (pv 0) (pv 3) rfl)
   (zac (zau (pv 0) (pv 4) rfl)))))),?_⟩
  have f_tCoil_cl:=tCoil.cl
  have f_tCoil_n_waiting:=tCoil.n_waiting
  have f_tCoil_n_since:=tCoil.n_since
  have f_tCoil_n_kicked:=tCoil.n_kicked
  have f_tCoil_n_keeper:=tCoil.n_keeper
  walk_at "rd"
  have hid:=zsm hp
  unfold zev at q
  split<;>simp_all
def zq3 (C:Addr):Sp:=fun vs H Q _=>E3 fun p dx c=>A3 (vs=[.ref p]) (H p=some (.ins C dx (za4 c))) (∀ l,H l=none→Q (.ref l) (upd H l (.lst ((zil c).map V.int))))
theorem zjq (tG:TG K mg) (tCoil:zdt K cC) (F:MtK K cC "standing" "Coil.standing" zcv):Md P w K mg base CX0 cC "standing" ["self"] 1 (zq3 cC):=by
 refine F.md zjw zjl (fun vs H Q E h=>?_) (fun f cdv A outer s H vs Q E hr h=>?_)
 ·obtain ⟨p,dx,c,rfl,_⟩:=h
  rfl
 ·obtain ⟨p,dx,c,rfl,hp,q⟩:=h
  have hu:=za2 hr
  have hu64:=hr.units
  refine ⟨_,(zab (za5 (zan zbg (zah (pv 0) rfl) (zap tG.g_PULSED) (zam _)) (zac (zar (zb5 (zaa (zap tG.g_PULSED) (zaa (zah (pv 0) rfl) (zaa (zfn zj5 (by rfl) tG.b_int zt7 (zaa (zah (pv 0) rfl) zad)) (zaa (zah (pv 0) rfl) zad))))))) zaq)
   (zab (za5 (zan zbg (zah (pv 0) rfl) (zap tG.g_HELD) (zam _)) (zac (zar (zb5 (zaa (zap tG.g_HELD) (zaa (zah (pv 0) rfl) (zaa (zah (pv 0) rfl) zad)))))) zaq)
   (zab (za5 (zan zfm (zah (pv 0) rfl) zao (zam _)) (zac (zar (zb5 (zaa (zap tG.g_WAITING) (zaa (zah (pv 0) rfl) (zaa (zah (pv 0) rfl) (zaa (zah (pv 0) rfl) (zaa (zfn zj5 (by rfl) tG.b_int zt7 (zaa (zah (pv 0) rfl) zad)) (zaa (zah (pv 0) rfl) zad))))))))) zaq)
   (zac (zar (zb5 (zaa (zap tG.g_RESTING) (zaa (zah (pv 0) rfl) zad)))))))),?_⟩
  have f_tCoil_cl:=tCoil.cl
  have f_tCoil_n_way:=tCoil.n_way
  have f_tCoil_n_keeper:=tCoil.n_keeper
  have f_tCoil_n_kicked:=tCoil.n_kicked
  have f_tCoil_n_left:=tCoil.n_left
  have f_tCoil_n_waiting:=tCoil.n_waiting
  have f_tCoil_n_since:=tCoil.n_since
  walk_at "rd"
  unfold zil at q
  cases hk:c.kicked<;>simp only [hk,b2i] at q ⊢ <;> (repeat' split)<;>simp_all
def zfu (C:Addr):Sp:=fun vs H Q _=>E6 fun p dx pl m r h=>A5 (vs=[.ref p, .int pl, .int m, .int r, .int h]) (H p=some (.ins C dx [])) (0≤pl) (pl≤1000) (Q .non (upd H p (.ins C dx (za4 ⟨pl,m,r,h,0,0,0,0,false,0⟩))))
theorem zou (tG:TG K mg) (tCoil:zdt K cC) (F:InK K mg cC "Coil" "Coil.__init__" zcu):Id P w K mg base CX0 cC "Coil" ["self","place","most","rest","hold"] 1 (zfu cC):=by
 refine F.id zjv zjk (fun vs H Q E h=>?_) (fun f cdv A outer s H vs Q E hr h=>?_)
 ·obtain ⟨p,dx,pl,m,r,h,rfl,_⟩:=h
  rfl
 ·obtain ⟨p,dx,pl,m,r,h,rfl,hp,h0,h1,q⟩:=h
  have hu:=za2 hr
  have hu64:=hr.units
  refine ⟨_,(zab (zau (pv 0) (pv 1) rfl)
   (zab (zau (pv 0) (zej zCz zao (pv 1)) rfl)
   (zab (zau (pv 0) (pv 2) rfl)
   (zab (zau (pv 0) (pv 3) rfl)
   (zab (zau (pv 0) (pv 4) rfl)
   (zab (zau (pv 0) (zap tG.g_RESTING) rfl)
   (zab (zau (pv 0) zao rfl)
   (zab (zau (pv 0) zao rfl)
   (zab (zau (pv 0) zao rfl)
   (zab (zau (pv 0) zei rfl)
   (zac (zau (pv 0) (zap tG.g_NOBODY) rfl)))))))))))),?_⟩
  have f_tCoil_cl:=tCoil.cl
  have f_tCoil_n_place:=tCoil.n_place
  have f_tCoil_n_power:=tCoil.n_power
  have f_tCoil_n_most:=tCoil.n_most
  have f_tCoil_n_rest:=tCoil.n_rest
  have f_tCoil_n_hold:=tCoil.n_hold
  have f_tCoil_n_way:=tCoil.n_way
  have f_tCoil_n_left:=tCoil.n_left
  have f_tCoil_n_waiting:=tCoil.n_waiting
  have f_tCoil_n_since:=tCoil.n_since
  have f_tCoil_n_kicked:=tCoil.n_kicked
  have f_tCoil_n_keeper:=tCoil.n_keeper
  have hc:CPow 1 pl:=⟨h0,by omega,by decide⟩
  walk_at "rd"
  simp (decide:=true) [putF]
  exact q
end
end
section
structure ExAt (C x:Addr) (od:Option Addr) (T:Addr) (fl:Value) (h:Heap):Prop where
 obj:∃ oe vs,h.get? x=some oe∧oe.cls = .ref C∧oe.dict=od∧oe.data = .fields vs∧vs[1]? = some (.ref T)
 tb:∃ oT ts,h.get? T=some oT∧oT.data = .fields ts∧ts[3]? = some fl
 ne:T≠x
structure zw6 (C x:Addr) (od:Option Addr) (h:Heap):Prop where
 obj:∃ oe vs,h.get? x=some oe∧oe.cls = .ref C∧oe.dict=od∧oe.data = .fields vs∧vs[1]? = some .none
theorem zx2 (o:Obj) (f:Array Value→Array Value):(o.mapFields f).cls=o.cls:=Obj.cls_mapFields _ _
theorem zu9 (o:Obj) (f:Array Value→Array Value):(o.mapFields f).dict=o.dict:=by
 obtain ⟨c,d,dt,sl⟩:=o
 cases dt<;>rfl
section
variable {M:Model} {A:Around} {E:Value→Shared→Prop} {s:Shared} {base:Heap} {env:Env} {outer:List Env} {L x C:Addr} {od:Option Addr}
def KeptBut (fs S:List Addr) (h h':Heap):Prop:=(∀ b o,h.get? b=some o→b∉S→b∉fs→h'.get? b=some o)∧∀ b o,h.get? b=some o→b∉S→∃ sl,h'.get? b=some { o with slots:=sl }
theorem KeptBut.trans {fs S S':List Addr} {h h1 h2:Heap} (a:KeptBut fs S h h1) (b:KeptBut fs S' h1 h2) (hs:∀ c o,h.get? c=some o→c∈S'→c∈S):KeptBut fs S h h2:=by
 refine ⟨fun c o e n m=>b.1 c o (a.1 c o e n m) (fun z=>n (hs c o e z)) m,fun c o e n=>?_⟩
 obtain ⟨sl,e1⟩:=a.2 c o e n
 obtain ⟨sl2,e2⟩:=b.2 c _ e1 fun z=>n (hs c o e z)
 exact ⟨sl2,e2⟩
theorem zrm {oe:Obj} {vs:Array Value} {head:Value} {hn:Bool} {Q:Unit→Shared→Prop} (hfr:A.frames=some (env :: outer)) (hl:s.heap.FunFrames base (env :: outer)) (hf:env.frame=some L)
  (he:s.heap.get? x=some oe) (hd:oe.data = .fields vs) (hsz:1<vs.size)
  (q:∀ h' T,ExAt C x oe.dict T (rawInt L) h'→oe.cls = .ref C→s.heap.objs.size≤T→KeptBut (frs (env :: outer)) [x] s.heap h'→Q () { s with heap:=h' }) (hc:oe.cls = .ref C) :
  wpAny M A (do let a ← frameOf env;let pl ← entryPlaceOf L hn;let b ← EntryCells.newEntry head a .none (rawInt L) .none pl;setField (.ref x) 1 b) Q E s:=by
 have hx:x∉frs (env :: outer):=fun hm=>by
  obtain ⟨_,o,ho,hnf⟩:=hl.mem hm
  rw [he] at ho
  cases ho
  exact hnf vs hd
 refine wpAny_bind (wpAny_frameOf_fun hfr hl hf fun h1 s1=>?_)
 refine wpAny_bind (wpAny_entryPlaceOf fun pl hpl=>?_)
 unfold EntryCells.newEntry newFields
 refine wpAny_bind (wpAny_newObj_type ?_ (hpl.sizeOk5 _ _ _ _ _))
 have e1:h1.get? x=some oe:=(s1.2.1 x hx).trans he
 generalize ho:({ cls:=.type "traceback",dict:=none,data:=.fields ([head, .ref L, .none,rawInt L, .none]++(if pl.isEmpty then List.replicate 6 Value.none else pl)).toArray }:Obj)=tb
 have e2:(h1.push tb).get? x=some oe:=Heap.get?_push_of_some _ e1
 refine wpAny_setField e2 hd hsz (q _ h1.objs.size ⟨⟨_,_,Heap.get?_update_self _ e2 (Obj.isFreed_of_fields (Obj.data_mapFields hd _)),by rw [zx2];exact hc,by rw [zu9],Obj.data_mapFields hd _,by simp [hsz]⟩,?_,Nat.ne_of_gt (Heap.lt_size e1)⟩ hc ?_ ⟨?_,?_⟩)
 ·refine ⟨tb,_,(Heap.get?_update_other _ _ (Ne.symm (Nat.ne_of_gt (Heap.lt_size e1)))).trans (Heap.get?_push_size h1 (by rw [← ho]<;>rfl)),by rw [← ho],?_⟩
  first | (simp;done) | (rcases hpl with rfl | ⟨_,_,_,_,_,_,_,rfl⟩<;>simp)
 ·rw [s1.1]
  exact Nat.le_refl _
 ·intro b o hb n m
  have e3:h1.get? b=some o:=(s1.2.1 b m).trans hb
  rw [Heap.get?_update_other _ _ (fun z=>n (by simp [z]))]
  exact Heap.get?_push_of_some _ e3
 ·intro b o hb n
  obtain ⟨sl,e3⟩:=s1.2.2 b o hb
  refine ⟨sl,?_⟩
  rw [Heap.get?_update_other _ _ (fun z=>n (by simp [z]))]
  exact Heap.get?_push_of_some _ e3
theorem zx8 {Q:Unit→Shared→Prop} (hfr:A.frames=some (env :: outer)) (hl:s.heap.FunFrames base (env :: outer)) (hf:env.frame=some L) (h:zw6 C x od s.heap)
  (q:∀ h' T,ExAt C x od T (rawInt L) h'→s.heap.objs.size≤T→KeptBut (frs (env :: outer)) [x] s.heap h'→Q () { s with heap:=h' }):wpAny M A (noteFrame (.ref x) env) Q E s:=by
 obtain ⟨oe,vs,he,hc,rfl,hd,h1⟩:=h.obj
 unfold noteFrame
 simp only [hf]
 refine wpAny_bind (wpAny_field he hd h1 ?_)
 rw [if_neg (by decide)]
 exact zrm hfr hl hf he hd (Array.getElem?_eq_some_iff.mp h1).1 (fun h' T a _ b c=>q h' T a b c) hc
theorem zvg {T:Addr} {Q:Unit→Shared→Prop} (hfr:A.frames=some (env :: outer)) (hl:s.heap.FunFrames base (env :: outer)) (hf:env.frame=some L) (h:ExAt C x od T .none s.heap)
  (q:∀ h' T',ExAt C x od T' (rawInt L) h'→s.heap.objs.size≤T'→KeptBut (frs (env :: outer)) [x,T] s.heap h'→Q () { s with heap:=h' }):wpAny M A (noteFrame (.ref x) env) Q E s:=by
 obtain ⟨oe,vs,he,hc,rfl,hd,h1⟩:=h.obj
 obtain ⟨oT,ts,hT,hdT,h3⟩:=h.tb
 unfold noteFrame
 simp only [hf]
 refine wpAny_bind (wpAny_field he hd h1 ?_)
 rw [if_pos (show (Value.ref T != Value.none)=true from by simp)]
 refine wpAny_bind (wpAny_field hT hdT h3 ?_)
 rw [if_neg (show ¬((Value.none == rawInt L)=true) from by simp [rawInt])]
 refine wpAny_bind (wpAny_setField hT hdT (Array.getElem?_eq_some_iff.mp h3).1 ?_)
 have oth:∀ b,b≠T→(s.heap.update T (Obj.mapFields (·.setIfInBounds 3 Value.none))).get? b=s.heap.get? b:=fun b hb=>Heap.get?_update_other _ _ (Ne.symm hb)
 have nT:∀ b o,s.heap.get? b=some o→(∀ vs,o.data≠.fields vs)→b≠T:=fun b o hb hnf z=>by
  rw [z,hT] at hb
  cases hb
  exact hnf ts hdT
 refine zrm (s:={ s with heap:=s.heap.update T (Obj.mapFields (·.setIfInBounds 3 Value.none)) }) hfr (hl.of_keeps fun b o hb hnf=>⟨o,(oth b (nT b o hb hnf)).trans hb,rfl⟩) hf ((oth x (Ne.symm h.ne)).trans he) hd (Array.getElem?_eq_some_iff.mp h1).1 (fun h' T' a _ b c=>?_) hc
 refine q h' T' a (by rw [Heap.size_update] at b;exact b) ⟨fun b' o e n m=>?_,fun b' o e n=>?_⟩
 ·exact c.1 b' o ((oth b' fun z=>n (by simp [z])).trans e) (fun z=>n (by simp at z;simp [z])) m
 ·exact c.2 b' o ((oth b' fun z=>n (by simp [z])).trans e) fun z=>n (by simp at z;simp [z])
theorem zmq {T:Addr} {fl:Value} {Q:Unit→Shared→Prop} (h:ExAt C x od T fl s.heap) (q:∀ h',ExAt C x od T .none h'→KeptBut [] [T] s.heap h'→Q () { s with heap:=h' }):wpAny M A (setFlight (.ref x) none) Q E s:=by
 obtain ⟨oe,vs,he,hc,hdi,hd,h1⟩:=h.obj
 obtain ⟨oT,ts,hT,hdT,h3⟩:=h.tb
 have hz:3<ts.size:=(Array.getElem?_eq_some_iff.mp h3).1
 unfold setFlight
 refine wpAny_bind (wpAny_field he hd h1 ?_)
 rw [if_pos (show (Value.ref T != Value.none)=true from by simp)]
 refine wpAny_setField hT hdT hz (q _ ⟨⟨oe,vs,(Heap.get?_update_other _ _ h.ne).trans he,hc,hdi,hd,h1⟩,⟨_,_,Heap.get?_update_self _ hT (Obj.isFreed_of_fields (Obj.data_mapFields hdT _)),Obj.data_mapFields hdT _,by simp [hz]⟩,h.ne⟩ ⟨?_,?_⟩)
 ·intro b o e n _
  exact (Heap.get?_update_other _ _ (fun z=>n (by simp [z]))).trans e
 ·intro b o e n
  exact ⟨o.slots,(Heap.get?_update_other _ _ (fun z=>n (by simp [z]))).trans e⟩
theorem KeptBut.wide {fs fs' S:List Addr} {h h':Heap} (k:KeptBut fs S h h') (w:∀ b∈fs,b∈fs'):KeptBut fs' S h h':=⟨fun b o e n m=>k.1 b o e n fun z=>m (w b z),k.2⟩
theorem zu1 {Q:Unit→Shared→Prop} (hfr:A.frames=some (env :: outer)) (hl:s.heap.FunFrames base (env :: outer)) (hf:env.frame=some L) (h:zw6 C x od s.heap)
  (q:∀ h' T,ExAt C x od T .none h'→s.heap.objs.size≤T→KeptBut (frs (env :: outer)) [x] s.heap h'→Q () { s with heap:=h' }):wpAny M A (leaving env (.ref x)) Q E s:=by
 unfold leaving
 refine wpAny_bind (zx8 hfr hl hf h fun h1 T a n k=>?_)
 refine zmq (s:={ s with heap:=h1 }) a fun h2 a2 k2=>q h2 T a2 n (k.trans (k2.wide (by simp)) fun c o e z=>?_)
 simp at z
 rw [z] at e
 exact absurd (Nat.lt_of_lt_of_le (Heap.lt_size e) n) (Nat.lt_irrefl _)
theorem zxw {T:Addr} {Q:Unit→Shared→Prop} (hfr:A.frames=some (env :: outer)) (hl:s.heap.FunFrames base (env :: outer)) (hf:env.frame=some L) (h:ExAt C x od T .none s.heap)
  (q:∀ h' T',ExAt C x od T' .none h'→s.heap.objs.size≤T'→KeptBut (frs (env :: outer)) [x,T] s.heap h'→Q () { s with heap:=h' }):wpAny M A (leaving env (.ref x)) Q E s:=by
 unfold leaving
 refine wpAny_bind (zvg hfr hl hf h fun h1 T' a n k=>?_)
 refine zmq (s:={ s with heap:=h1 }) a fun h2 a2 k2=>q h2 T' a2 n (k.trans (k2.wide (by simp)) fun c o e z=>?_)
 simp at z
 rw [z] at e
 exact absurd (Nat.lt_of_lt_of_le (Heap.lt_size e) n) (Nat.lt_irrefl _)
end
theorem zBp {fs S:List Addr} {H:Hp} {h h':Heap} (k:KeptBut fs S h h'):Un fs S H H h h':=
 ⟨fun b o e n hb hx=>k.1 b o e hx hb,fun b o e n hb hx=>k.2 b o e hx,fun b o e n hx=>n,fun b o e hx=>let ⟨sl,q⟩:=k.2 b o e hx; ⟨_,q⟩,fun _ _ q=>q,fun _ _ _ q=>q,fun _ ps q=>⟨#[],by rw [q];simp⟩⟩
theorem zxn {P:Program} {w:World} {fs S:List Addr} {H:Hp} {h h':Heap} (ok:HOk P w H h) (k:KeptBut fs S h h') (hS:∀ b∈S,H b=none) (hf:∀ b∈fs,H b=none):HOk P w H h':=fun a o e=>by
 have tr:∀ b u,H b=some u→b∉S∧b∉fs:=fun b u q=>⟨fun z=>(nomatch (hS b z).symm.trans q),fun z=>(nomatch (hf b z).symm.trans q)⟩
 refine (ok a o e).stay (fun b u hb q=>?_) (fun _ q=>q) fun _ _ q=>q
 rcases hb with rfl | hb
 ·exact k.1 _ u q (tr _ _ e).1 (tr _ _ e).2
 ·exact k.1 _ u q (tr _ _ hb).1 (tr _ _ hb).2
theorem zel {X:Cx} {pins:List (Addr×Obj)} {σ:L2.St} {H:Hp} {s0 s:Shared} {h':Heap} {x T:Addr} (I:L2.Inv X pins σ H s) (k:KeptBut (frs X.stack) [x,T] s.heap h') (hx:H x=none) (hT:H T=none)
  (I0:L2.Inv X pins σ H s0∨∃ H0,L2.Inv X pins σ H0 s0) (nx:s0.heap.objs.size≤x) (nT:s0.heap.objs.size≤T):L2.Inv X pins σ H { s with heap:=h' }:=by
 obtain ⟨H0,J⟩ : ∃ H0,L2.Inv X pins σ H0 s0:=I0.elim (fun z=>⟨_,z⟩) fun z=>z
 have fr:∀ b:Addr,s0.heap.objs.size≤b→(b∈X.ex∨X.s_0.heap.objs.size≤b)∧b≠X.env.locals∧(∀ y c,X.env.cells.lookup y=some c→c≠b)∧∀ p∈X.pn++pins,p.1≠b:=fun b hb=>by
  refine ⟨.inr (Nat.le_trans J.sz hb),fun z=>?_,fun y c e z=>?_,fun p hp z=>?_⟩
  ·exact absurd (Nat.lt_of_lt_of_le J.lt hb) (by rw [z];exact Nat.lt_irrefl _)
  ·obtain ⟨v,o,ho,_⟩:=J.cell y c e
   rw [z] at ho
   exact absurd (Nat.lt_of_lt_of_le (Heap.lt_size ho) hb) (Nat.lt_irrefl _)
  ·have q:=(J.pin p hp).1
   rw [z] at q
   exact absurd (Nat.lt_of_lt_of_le (Heap.lt_size q) hb) (Nat.lt_irrefl _)
 refine I.call' (s':={ s with heap:=h' }) (ch:=[x,T]) rfl (zBp k) (zxn I.hok k (fun b hb=>?_) I.stkFree) I.bare fun b hb=>?_
 ·simp at hb
  rcases hb with rfl | rfl
  ·exact hx
  ·exact hT
 ·simp at hb
  rcases hb with rfl | rfl
  ·exact fr _ nx
  ·exact fr _ nT
def CXF (P:Program) (w:World) (C:Addr):CXT:=fun outer H s E e s'=>∃ (x dx T:Addr) (H':Hp),e = .ref x∧s'.os=s.os∧AllBare s'.gens∧Un (frs outer) [] H H' s.heap s'.heap∧HOk P w H' s'.heap∧ExAt C x (some dx) T .none s'.heap∧
 H' x=none∧H' T=none∧s.heap.objs.size≤x∧s.heap.objs.size≤T∧E (.ref C) (some dx) H'
theorem za0 {P:Program} {w:World} {K:W.Frag} {mg:Str→Option Value} {base:Heap} {N:List Str} {qual:Str} {scope:Scope} {f C:Addr} {cd:Value} {A:Around} {outer:List Env} {s0:Shared} {H0:Hp} {E:XK} :
  zdm (CXF P w C) (cxOf (CXF P w C) P w K mg base N qual scope f cd A outer s0 H0 E) E:=by
 intro pins σ H s e s' I q
 obtain ⟨x,dx,T,H',rfl,os,bare,un,hok,ex,hx,hT,nx,nT,hE⟩:=q
 have I1:=I.call' (s':=s') (ch:=[]) os un hok bare (fun b z=>absurd z (by simp))
 show wpAny _ _ (leaving _ (.ref x)) _ _ s'
 refine zxw I1.ok.frames I1.stack rfl ex fun h' T' ex' nT' k=>?_
 have I2:=zel I1 k hx hT (.inr ⟨_,I⟩) nx nT
 exact ⟨x,dx,T',H',rfl,I2.os,I2.bare,I2.base,I2.hok,ex',hx,I1.hok.fresh nT',Nat.le_trans I.sz nx,Nat.le_trans I1.sz nT',hE⟩
end
section
abbrev bmV:List Value:=[.type "ValueError", .type "Exception", .type "BaseException", .type "object"]
structure FC (K:W.Frag) (C N fI:Addr):Prop where
 obj:∃ nm q bs sn sub ab col dd k0 k1 k2 k3 k5,K.lookup C=some (excClassObj nm q C N bs bmV true sn sub ab col dd k0 k1 k2 k3 k5 "ValueError.__new__")
 ns:∃ c d es n sl,K.lookup N=some ⟨c,d, .dict es n,sl⟩∧StrKeys es∧nsFind es "__init__"=some (.ref fI)∧nsFind es "kind"=none∧nsFind es "place"=none∧nsFind es "__setattr__"=none∧nsFind es "__getattribute__"=none∧nsFind es "__getattr__"=none
section
variable {K:W.Frag} {C N fI:Addr}
theorem FC.cls (F:FC K C N fI):∃ nm q bs sn sub ab col dd k0 k1 k2 k3 k5,∀ h:Heap,K.In h→h.get? C=some (excClassObj nm q C N bs bmV true sn sub ab col dd k0 k1 k2 k3 k5 "ValueError.__new__"):=by
 obtain ⟨nm,q,bs,sn,sub,ab,col,dd,k0,k1,k2,k3,k5,e⟩:=F.obj
 exact ⟨nm,q,bs,sn,sub,ab,col,dd,k0,k1,k2,k3,k5,fun h X=>X _ _ e⟩
theorem FC.nsm (F:FC K C N fI):∃ mN:Str→Option Value,(∀ h:Heap,K.In h→h.Ns N mN)∧mN "__init__"=some (.ref fI)∧mN "kind"=none∧mN "place"=none∧mN "__setattr__"=none∧mN "__getattribute__"=none∧mN "__getattr__"=none:=by
 obtain ⟨c,d,es,n,sl,e,sk,h1,h2,h3,h4,h5,h6⟩:=F.ns
 exact ⟨fun x=>nsFind es x,fun h X=>⟨_,es,n,X _ _ e,rfl,sk,fun _=>rfl⟩,h1,h2,h3,h4,h5,h6⟩
variable {M:Model} {A:Around} {E:Value→Shared→Prop} {s:Shared} {env:Env}
theorem zyl {x0:Sem Value} {Q:Flow→Shared→Prop} (F:FC K C N fI) (hh:A.handled=none)
  (h:wpAny M A x0 (fun v s1=>∃ x od,v = .ref x∧K.In s1.heap∧zw6 C x od s1.heap∧E (.ref x) s1) E s):wpAny M A (raiseStmt env (some x0) none) Q E s:=by
 obtain ⟨nm,q,bs,sn,sub,ab,col,dd,k0,k1,k2,k3,k5,hC⟩:=F.cls
 have hcB:(Value.ref C :: bmV).contains (.type "BaseException")=true:=by rw [List.contains_cons,show bmV.contains (.type "BaseException")=true by decide,Bool.or_true]
 unfold raiseStmt
 refine wpAny_bind (wpAny_mono h (fun v s1 h1=>?_) fun _ _ x=>x)
 obtain ⟨x,od,rfl,X,⟨oe,vs,he,hc,hd,hv,h1⟩,hE⟩:=h1
 have hC:=hC _ X
 obtain ⟨hp,g,d,tk,os⟩:=s1
 obtain ⟨cl,di,da,sl⟩:=oe
 cases hc
 cases hd
 cases hv
 repeat (first | with_reducible refine wpAny_loadPart_at he ?_ | with_reducible refine wpAny_loadPart_at hC ?_ | (with_reducible refine wpAny_isSubtype_exc hC ?_;rw [hcB]) | (with_reducible refine wpAny_field he rfl h1 ?_) | wp_step)
 exact wpAny_raiseNew_none hh hE
variable {prog:Program} {w:World}
abbrev tupO (rest:List Value):Obj:={ cls:=.type "tuple",data:=.seq rest.toArray }
abbrev excO (C t:Addr):Obj:={ cls:=.ref C,data:=.fields #[.ref t, .none, .none, .none, .bool false, .none] }
abbrev zms (C:Addr) (h:Heap) (rest:List Value):Heap:=(h.push (tupO rest)).push (excO C h.objs.size)
theorem zkh {h:Heap} {rest:List Value} {b:Addr} {o:Obj} (e:h.get? b=some o):(zms C h rest).get? b=some o:=Heap.get?_push_of_some _ (Heap.get?_push_of_some _ e)
theorem zu8 {h:Heap} {rest:List Value}:(zms C h rest).get? (h.objs.size+1)=some (excO C h.objs.size):=by
 have q:=Heap.get?_push_size (h.push (tupO rest)) (o:=excO C h.objs.size) rfl
 rw [Heap.size_push] at q
 exact q
theorem zog {h:Heap} {g:Array GenState} {d:Drawn} {t:Nat} {os:OsState} {rest:List Value} {oI:Obj} {Q:Fin→Shared→Prop} (F:FC K C N fI) (X:K.In h) (hfI:h.get? fI=some oI) (hfc:oI.cls = .type "function") (hz:rest.length≤sizeLine)
  (hq:wpAny (model prog w) A (call (.ref fI) (.ref (h.objs.size+1) :: rest)) (fun r s'=>r = .none∧Q (.done (.ret (.ref (h.objs.size+1)))) s') E ⟨zms C h rest,g,d,t,os⟩) :
  wpAny (model prog w) A (Builtin.«type.__call__» ⟨.ref C :: rest,[]⟩) Q E ⟨h,g,d,t,os⟩:=by
 obtain ⟨nm,q,bs,sn,sub,ab,col,dd,k0,k1,k2,k3,k5,hC0⟩:=F.cls
 obtain ⟨mN,hN0,hi,_⟩:=F.nsm
 have hC:=hC0 _ X
 have X1:K.In (zms C h rest):=fun b o e=>zkh (X b o e)
 have hC1:=hC0 _ X1
 have hB:=PySem.F.excBase_ValueError
 have hcC:(Value.ref C :: bmV).contains (.ref C)=true:=by simp
 have hg:(zms C h rest).get? (h.objs.size+1)=some (excO C h.objs.size):=zu8
 repeat (first | (with_reducible refine wpAny_loadPart_at hC ?_) | (with_reducible refine wpAny_madeBy_exc hC ?_) | wp_step)
 refine codeAny_call_builtin_code (Code.quiet_builtin _ hB.quiet) (wpAny_check_new_sub hB hC (codeAny_exc_new_sub hB hC ?_ hz))
 show wpAny _ _ _ _ _ ⟨zms C h rest,g,d,t,os⟩
 unfold isInstance
 repeat (first | (with_reducible refine wpAny_loadPart_at hg ?_) | (with_reducible refine wpAny_isSubtype_exc hC1 ?_;rw [hcC]) | wp_step)
 show wpAny _ _ (typeLookup (.ref C) _) _ _ _
 refine wpAny_typeLookup_exc hC1 (hN0 _ X1) hB.mroIs hB.init.lookup ?_
 rw [hi]
 refine wpAny_holding (wpAny_bind ?_)
 unfold bindSpecial
 refine wpAny_bind (wpAny_typeOf (T:="function") ⟨_,zkh hfI,hfc⟩ ?_)
 rw [if_pos (by decide)]
 refine wpAny_pure (wpAny_bind (wpAny_mono hq (fun r s' hr=>?_) fun _ _ x=>x))
 obtain ⟨rfl,hQ⟩:=hr
 wp_walk
 exact hQ
theorem zxg {rest:List Value} {oI:Obj} {Q:Value→Shared→Prop} (F:FC K C N fI) (X:K.In s.heap) (hfI:s.heap.get? fI=some oI) (hfc:oI.cls = .type "function") (hz:rest.length≤sizeLine)
  (hq:wpAny (model prog w) (A.under (.builtin "type.__call__" ⟨.ref C :: rest,[]⟩)) (call (.ref fI) (.ref (s.heap.objs.size+1) :: rest)) (fun r s'=>r = .none∧Q (.ref (s.heap.objs.size+1)) s') E { s with heap:=zms C s.heap rest }) :
  wpAny (model prog w) A (call (.ref C) rest) Q E s:=by
 obtain ⟨h,g,d,t,os⟩:=s
 obtain ⟨nm,q,bs,sn,sub,ab,col,dd,k0,k1,k2,k3,k5,hC0⟩:=F.cls
 have hC:=hC0 _ X
 have f1:=tc_lookup
 have f2:=tc_bind (.ref C)
 have hT:(⟨h,g,d,t,os⟩ : Shared).TypeIs (.ref C) "type":=⟨_,hC,rfl⟩
 refine wpAny_call (codeAny_of_tree ?_)
 show wpAny _ _ (callAny (.ref C) _) _ _ _
 repeat (any_goals (first | assumption | (with_reducible refine wpAny_loadPart_at hC ?_) | wp_step))
 refine ⟨rfl,codeAny_call_builtin_at (Code.quiet_builtin _ (by decide +kernel)) entry_typeCall (wpAny_check_type_call_sub hC (zog F X hfI hfc hz ?_))⟩
 exact hq
end
end
section
def xO (C x t:Addr) (od:Option Addr):HO:=.ext fun h=>h.get? x=some { cls:=.ref C,dict:=od,data:=.fields #[.ref t, .none, .none, .none, .bool false, .none] }
def xdO (dx:Addr) (fs:List (Str×V)):HO:=.ext fun h=>∃ mA,h.Ns1 dx mA∧(∀ f,RelO (fs.lookup f) (mA f))∧PySem.Within mA (fs.map (·.1))
section
variable {P:Program} {w:World} {H:Hp} {h:Heap} {C x t dx:Addr} {od:Option Addr} {fs:List (Str×V)}
theorem zBt (e:h.get? x=some { cls:=.ref C,dict:=od,data:=.fields #[.ref t, .none, .none, .none, .bool false, .none] }):ObjOk P w H h x (xO C x t od):=⟨e,⟨_,e⟩,fun _ _ q k=>k _ q⟩
theorem zyz (ok:HOk P w H h) (e:H x=some (xO C x t od)):h.get? x=some { cls:=.ref C,dict:=od,data:=.fields #[.ref t, .none, .none, .none, .bool false, .none] }:=(ok x _ e).1
theorem zzr {mA:Str→Option Value} (e:h.Ns1 dx mA) (r:∀ f,RelO (fs.lookup f) (mA f)) (wi:PySem.Within mA (fs.map (·.1))):ObjOk P w H h dx (xdO dx fs):=by
 refine ⟨⟨mA,e,r,wi⟩,?_,fun h1 h2 q k=>?_⟩
 ·obtain ⟨o,_,_,q,_⟩:=e
  exact ⟨o,q⟩
 ·obtain ⟨mA,e,r,wi⟩:=q
  exact ⟨mA,e.at k,r,wi⟩
end
section
variable {K:W.Frag} {C N fI:Addr} {A:Around} {E:Value→Shared→Prop} {s:Shared} {prog:Program} {w:World}
theorem zyy {x t:Addr} {od:Option Addr} {rest:List Value} {Q:Value→Shared→Prop} (F:FC K C N fI) (X:K.In s.heap) (he:s.heap.get? x=some { cls:=.ref C,dict:=od,data:=.fields #[.ref t, .none, .none, .none, .bool false, .none] }) (hz:rest.length≤sizeLine)
  (q:∀ h' t',h'.get? x=some { cls:=.ref C,dict:=od,data:=.fields #[.ref t', .none, .none, .none, .bool false, .none] }→(∀ b o,b≠x→s.heap.get? b=some o→h'.get? b=some o)→Q .none { s with heap:=h' }) :
  wpAny (model prog w) A (call (.builtin "ValueError.__init__") (.ref x :: rest)) Q E s:=by
 obtain ⟨h,g,d,tk,os⟩:=s
 obtain ⟨nm,qn,bs,sn,sub,ab,col,dd,k0,k1,k2,k3,k5,hC0⟩:=F.cls
 have hB:=PySem.F.excBase_ValueError
 refine wpAny_call (codeAny_call_builtin hB.init.plain hB.initEntry (wpAny_check_init_sub hB (hC0 _ X) he rfl ?_))
 unfold Builtin.«BaseException.__init__»
 dsimp only
 rw [if_neg (by simp)]
 unfold newTuple Builtin.BaseException.bexcPut
 have e1:(h.push (tupO rest)).get? x=some _:=Heap.get?_push_of_some _ he
 refine wpAny_bind (wpAny_newObj_type (wpAny_bind (wpAny_bind (wpAny_field e1 rfl (x:=.ref t) (by rfl) (wpAny_bind (wpAny_setField e1 rfl (by simp) ?_))))) (by show rest.toArray.size≤_;rw [List.size_toArray];omega))
 refine wpAny_letGo (wpAny_pure ?_)
 refine q _ h.objs.size ?_ fun b o hb e=>?_
 ·exact (Heap.get?_update_self _ e1 (Obj.isFreed_of_fields (Obj.data_mapFields rfl _))).trans rfl
 ·exact (Heap.get?_update_other _ _ (Ne.symm hb)).trans (Heap.get?_push_of_some _ e)
theorem zy2 {h:Heap} {g:Array GenState} {d:Drawn} {tk0:Nat} {os:OsState} {x:Addr} {o:Obj} {name:Str} {v:Value} {tk:Tok} {Q:Fin→Shared→Prop} (F:FC K C N fI) (X:K.In h) (hn:name="kind"∨name="place")
  (hx:h.get? x=some o) (hc:o.cls = .ref C) (hnc:∀ c,o.data≠.cls c) (hdn:o.dict=none)
  (q:∀ h' tk',h'.get? x=some { o with dict:=some h.objs.size }→h'.Ns1 h.objs.size (fun y=>if y=name then some v else none)→(∀ b ob,b≠x→h.get? b=some ob→h'.get? b=some ob)→Q (.done (.ret .none)) ⟨h',g,d,tk',os⟩) :
  wpAny (model prog w) A (Builtin.«object.__setattr__» ⟨[.ref x, .str name tk,v],[]⟩) Q E ⟨h,g,d,tk0,os⟩:=by
 obtain ⟨nm,qn,bs,sn,sub,ab,col,dd,k0,k1,k2,k3,k5,hC0⟩:=F.cls
 obtain ⟨mN,hN0,hi,hk,hp,hsa,_⟩:=F.nsm
 have hC:=hC0 _ X
 have hN:=hN0 _ X
 have SF:=PySem.F.store_ValueError
 have hna:mN name=none:=by rcases hn with rfl | rfl;exact hk;exact hp
 have hB:typeLookup (.type "ValueError") name=pure none:=by
  rcases hn with rfl | rfl<;>(rw [typeLookup_type,builtinLookup_eq_fast];kernel_rfl)
 have hpass:=SF.passes (.ref x)
 unfold Builtin.«object.__setattr__»
 repeat (first | rw [zhy] | (rw [refuseLoop_ref,hpass]) | (with_reducible refine wpAny_loadPart_at hx ?_;rw [hc]) | (with_reducible refine wpAny_mroOf_exc hC ?_) | (with_reducible refine wpAny_typeLookup_exc hC hN SF.mro hB ?_;rw [hna]) | wp_step)
 rw [hdn,if_neg (by simp [typeHasDict])]
 split
 ·rename_i hcd
  cases hcd
 split
 ·rename_i c hcd
  exact absurd hcd (hnc c)
 generalize hD:({ cls:=.type "dict",data:=.dict #[] }:Obj)=D
 have x1:(h.push D).get? x=some o:=Heap.get?_push_of_some _ hx
 have xs:x≠h.objs.size:=Nat.ne_of_lt (Heap.lt_size hx)
 refine wpAny_bind (wpAny_alloc' (wpAny_bind (wpAny_update' x1 (wpAny_pure ?_))))
 generalize hh:(h.push D).update x (fun o=>{ cls:=o.cls,dict:=some h.objs.size,data:=o.data,slots:=o.slots })=h1
 have gd:h1.get? h.objs.size=some D:=by
  rw [← hh]
  exact (Heap.get?_update_ne _ _ _ _ xs.symm).trans (Heap.get?_push_at rfl (by rw [← hD]<;>rfl))
 have nd:h1.Ns h.objs.size (fun _=>none):=⟨D,#[],_,gd,by rw [← hD],fun e he=>absurd he (by simp),fun _=>rfl⟩
 show wpAny _ _ (Builtin.ObjectAttr.storeInDict h.objs.size (.str name tk) name v) _ _ _
 unfold Builtin.ObjectAttr.storeInDict Builtin.ObjectAttr.newKeyGuard
 refine wpAny_bind (wpAny_pure (wpAny_bind (wpAny_nsSet1 (Heap.Ns1.of_empty nd) fun h' n1 sb=>?_)))
 obtain ⟨oD,eD,pD,hoD,dD,cD⟩:=n1.count (Within.cons name v Within.nil)
 refine wpAny_bind (wpAny_lookBehind hoD (by rw [dD];exact pastItsLine_dict (Nat.le_trans cD (by rw [List.length_cons,List.length_nil,sizeLine_eq];omega))) ?_)
 wp_walk
 refine q h' _ ?_ n1 fun b ob hb e=>?_
 ·refine (sb.2 x xs).trans ?_
  rw [← hh]
  refine Heap.get?_update_self _ x1 ?_
  have fr:=(Heap.get?_some_iff.mp hx).2
  obtain ⟨oc,odi,oda,osl⟩:=o
  cases oda<;>first | rfl | exact fr
 ·refine (sb.2 b (Nat.ne_of_lt (Heap.lt_size e))).trans ?_
  rw [← hh]
  exact (Heap.get?_update_ne _ _ _ _ hb).trans (Heap.get?_push_of_some _ e)
theorem zBw {h:Heap} {g:Array GenState} {d:Drawn} {tk0:Nat} {os:OsState} {x:Addr} {o:Obj} {name:Str} {v:Value} {tk:Tok} {R:Result→Shared→Prop} {sa owner:String} (SF:StoreFacts "ValueError" bmV sa owner) (F:FC K C N fI) (X:K.In h) (hn:name="kind"∨name="place")
  (hx:h.get? x=some o) (hc:o.cls = .ref C) (hnc:∀ c,o.data≠.cls c) (hdn:o.dict=none)
  (q:∀ h' tk',h'.get? x=some { o with dict:=some h.objs.size }→h'.Ns1 h.objs.size (fun y=>if y=name then some v else none)→(∀ b ob,b≠x→h.get? b=some ob→h'.get? b=some ob)→R (.ok (.ret .none)) ⟨h',g,d,tk',os⟩) :
  codeAny (model prog w) A (.call (.builtin sa) ⟨[.ref x, .str name tk,v],[]⟩) R ⟨h,g,d,tk0,os⟩:=by
 obtain ⟨nm,qn,bs,sn,sub,ab,col,dd,k0,k1,k2,k3,k5,hC0⟩:=F.cls
 have hC:=hC0 _ X
 refine codeAny_call_builtin SF.slot.plain SF.entry (wpAny_check_sa SF hC hx hc ?_)
 exact zy2 F X hn hx hc hnc hdn fun h' tk' a b c=>q h' tk' a b c
theorem zDr {h:Heap} {g:Array GenState} {d:Drawn} {t:Nat} {os:OsState} {x:Addr} {o:Obj} {name:Str} {v:Value} {Q:Unit→Shared→Prop} {B:Heap→Nat→Prop}
  {nm q:Str} {bs:List Value} {sn:List Str} {sub:List Value} {ab:Bool} {col:Option Bool} {dd:Option Addr} {k0 k1 k2 k3 k5:Option Value} {newId:String} {mN:Str→Option Value} {sa owner:String} (SF:StoreFacts "ValueError" bmV sa owner)
  (hC:h.get? C=some (excClassObj nm q C N bs bmV true sn sub ab col dd k0 k1 k2 k3 k5 newId)) (hn:h.Ns N mN) (hns:mN "__setattr__"=none) (hx:h.get? x=some o) (hc:o.cls = .ref C)
  (call:∀ (tk:Tok) (A:Around) (R:Result→Shared→Prop),(∀ h' tk',B h' tk'→R (.ok (.ret .none)) ⟨h',g,d,tk',os⟩)→codeAny (model prog w) A (.call (.builtin sa) ⟨[.ref x, .str name tk,v],[]⟩) R ⟨h,g,d,t+1,os⟩)
  (hq:∀ h' tk',B h' tk'→Q () ⟨h',g,d,tk',os⟩):wpAny (model prog w) A (setAttr (.ref x) name v) Q E ⟨h,g,d,t,os⟩:=by
 have f3:=SF.slot.bind (.ref x)
 unfold setAttr callSpecial? specialOf
 repeat (any_goals (first | assumption | (with_reducible refine wpAny_loadPart_at hx ?_;rw [hc]) | (with_reducible refine wpAny_typeLookup_exc hC hn SF.mro SF.slot.lookup ?_;rw [hns]) | wp_step))
 refine call _ _ _ fun h' tk' b=>?_
 repeat (any_goals (first | assumption | wp_step))
 exact hq h' tk' b
theorem zts {x:Addr} {o:Obj} {name:Str} {v:Value} {Q:Unit→Shared→Prop} (F:FC K C N fI) (X:K.In s.heap) (hn:name="kind"∨name="place") (hx:s.heap.get? x=some o) (hc:o.cls = .ref C) (hnc:∀ c,o.data≠.cls c) (hdn:o.dict=none)
  (q:∀ h' tk',h'.get? x=some { o with dict:=some s.heap.objs.size }→h'.Ns1 s.heap.objs.size (fun y=>if y=name then some v else none)→(∀ b ob,b≠x→s.heap.get? b=some ob→h'.get? b=some ob)→Q () { s with heap:=h',toks:=tk' }) :
  wpAny (model prog w) A (setAttr (.ref x) name v) Q E s:=by
 obtain ⟨h,g,d,tk,os⟩:=s
 obtain ⟨nm,qn,bs,sn,sub,ab,col,dd,k0,k1,k2,k3,k5,hC0⟩:=F.cls
 obtain ⟨mN,hN0,hi,hk,hp,hsa,_⟩:=F.nsm
 exact zDr PySem.F.store_ValueError (B:=fun h' tk'=>h'.get? x=some { o with dict:=some h.objs.size }∧h'.Ns1 h.objs.size (fun y=>if y=name then some v else none)∧(∀ b ob,b≠x→h.get? b=some ob→h'.get? b=some ob)) (hC0 _ X) (hN0 _ X) hsa hx hc
  (fun tk A R r=>zBw PySem.F.store_ValueError F X hn hx hc hnc hdn fun h' tk' a b c=>r h' tk' ⟨a,b,c⟩) fun h' tk' ⟨a,b,c⟩=>q h' tk' a b c
end
end
section
section
variable {X:Cx} {pins:List (Addr×Obj)} {σ:L2.St} {H:Hp} {s:Shared} {h':Heap} {t':Nat}
theorem zAa {x:Addr} {φ:Heap→Prop} {o1 o2:HO} (I:L2.Inv X pins σ H s) (hx:H x=some (.ext φ)) (k:∀ b o,b≠x→s.heap.get? b=some o→h'.get? b=some o) (hxx:∃ u,h'.get? x=some u)
  (ok1:∀ H'',ObjOk X.prog X.w H'' h' x o1) (ok2:∀ H'',ObjOk X.prog X.w H'' h' s.heap.objs.size o2):L2.Inv X pins σ (upd (upd H s.heap.objs.size o2) x o1) { s with heap:=h',toks:=t' }:=by
 have hn:H s.heap.objs.size=none:=I.hok.fresh (Nat.le_refl _)
 have nx:∀ b u,H b=u→u≠some (.ext φ)→b≠x:=fun b u e n z=>n (by rw [← e,z,hx])
 have nd:∀ b o,s.heap.get? b=some o→b≠s.heap.objs.size:=fun b o e=>Nat.ne_of_lt (Heap.lt_size e)
 have nd2:∀ b o,H b=some o→b≠s.heap.objs.size:=fun b o e=>zaj e hn
 refine I.step (g':=s.gens) (d':=s.drawn) (ch:=[]) (fun _ z=>nomatch z) (fun b o _ _ _ e n=>k b o (nx b _ n (by simp)) e) (fun b o _ _ _ e n=>⟨o.slots,k b o (nx b _ n (by simp)) e⟩)
  (fun b o _ e n=>by rw [zag (nx b _ n (by simp)),zag (nd b o e)];exact n) (fun b o _ e=>?_) (fun b xs e=>by rw [zag (nx b _ e (by simp)),zag (nd2 b _ e)];exact e)
  (fun b o u e=>by rw [zag (nx b _ e (by simp)),zag (nd2 b _ e)];exact e) (fun b ps e=>⟨#[],by rw [zag (nx b _ e (by simp)),zag (nd2 b _ e),e];simp⟩) (fun m hm=>?_) (fun b u e=>?_) I.bare
 ·by_cases hb:b=x
  ·rw [hb];exact hxx
  ·exact ⟨o,k b o hb e⟩
 ·obtain ⟨o,es,ep,ho,r⟩:=hm
  exact ⟨o,es,ep,k _ _ (nx _ _ I.free (by simp)) ho,r⟩
 ·by_cases hb:b=x
  ·subst hb
   rw [zaf] at e
   cases e
   exact ok1 _
  ·rw [zag hb] at e
   by_cases hd:b=s.heap.objs.size
   ·rw [hd,zaf] at e
    cases e
    rw [hd]
    exact ok2 _
   ·rw [zag hd] at e
    refine (I.hok b u e).stay (fun c v hc q=>k c v ?_ q) (fun c q=>?_) fun c xs q=>?_
    ·rcases hc with rfl | hc
     ·exact hb
     ·exact nx c _ hc (by simp)
    ·rw [zag (nx c _ q (by simp)),zag (nd2 c _ q)];exact q
    ·rw [zag (nx c _ q (by simp)),zag (nd2 c _ q)];exact q
end
section
variable {X:Cx} {C N fI:Addr} {o value:Expr} {f:Str} {pos pos' p apos:Pos} {ta tv:TE} {e:Expr} {es:List Expr} {t:TA}
theorem zD3 (F:FC X.K C N fI) (ha:PE X o ta) (hv:PE X value tv) (hn:f="kind"∨f="place") (hs:swapsWith value (some (.Attribute o f pos')) pos.line X.env=pure false) :
  PS X (.Assign [.Attribute o f pos'] value pos) (fun D σ H=>tv σ H fun y H1=>ta σ H1 fun v H2=>∃ x t,v = .ref x∧H2 x=some (xO C x t none)∧∀ dx,H2 dx=none→D.nx σ (upd (upd H2 dx (xdO dx [(f,y)])) x (xO C x t (some dx)))):=by
 intro pins s σ H D I h
 refine plainObj_wpAny_Assign_Attribute (thn (hv pins s σ H _ I h) fun u s1 ⟨y,H1,I1,ry,q⟩=>thn (ha pins s1 σ H1 _ I1 q) fun ov s2 ⟨v,H2,I2,rx,x,t,ex,ea,q2⟩=>?_) hs
 subst ex
 obtain rfl:ov=Value.ref x:=rx
 have he:=zyz I2.hok ea
 refine zts F I2.kIn hn he rfl (fun c=>by simp) rfl fun h' tk' a b c=>?_
 refine ⟨σ,_,zAa I2 ea c ⟨_,a⟩ (fun _=>zBt (t:=t) a) (fun _=>zzr b (fun g=>?_) fun g hg=>?_),q2 s2.heap.objs.size (I2.hok.fresh (Nat.le_refl _))⟩
 ·show RelO (List.lookup g [(f,y)]) (if g=f then some u else none)
  by_cases z:g=f
  ·subst z
   simp
   exact ry
  ·rw [if_neg z]
   have:(g == f)=false:=by simpa using z
   simp [List.lookup,this]
   trivial
 ·have z:g=f:=by
   by_cases z:g=f
   ·exact z
   ·exact absurd (if_neg z) hg
  simp [z]
theorem zD4 (F:FC X.K C N fI) (ha:PE X o ta) (hv:PE X value tv) (hn:f="kind"∨f="place") (hs:swapsWith value (some (.Attribute o f pos')) pos.line X.env=pure false) :
  PS X (.Assign [.Attribute o f pos'] value pos) (fun D σ H=>tv σ H fun y H1=>ta σ H1 fun v H2=>∃ x t dx fs,v = .ref x∧H2 x=some (xO C x t (some dx))∧H2 dx=some (xdO dx fs)∧dx≠x∧fs.length<1000∧D.nx σ (upd H2 dx (xdO dx (putF f y fs)))):=by
 intro pins s σ H D I h
 refine plainObj_wpAny_Assign_Attribute (thn (hv pins s σ H _ I h) fun u s1 ⟨y,H1,I1,ry,q⟩=>thn (ha pins s1 σ H1 _ I1 q) fun ov s2 ⟨v,H2,I2,rx,x,t,dx,fs,ex,ea,ed,nd,hl,q2⟩=>?_) hs
 subst ex
 obtain rfl:ov=Value.ref x:=rx
 have he:=zyz I2.hok ea
 obtain ⟨mA,hm,hr,hw⟩:=(I2.hok dx _ ed).1
 obtain ⟨nm,qn,bs,sn,sub,ab,col,dd,k0,k1,k2,k3,k5,hC0⟩:=F.cls
 obtain ⟨mN,hN0,hi,hk,hp,hsa,_⟩:=F.nsm
 have hC:=hC0 _ I2.kIn
 have hna:mN f=none:=by rcases hn with rfl | rfl;exact hk;exact hp
 have hB:typeLookup (.type "ValueError") f=pure none:=by
  rcases hn with rfl | rfl<;>(rw [typeLookup_type,builtinLookup_eq_fast];kernel_rfl)
 have hxC:x≠C:=fun z=>by
  rw [z,hC] at he
  have z2:=congrArg Obj.cls (Option.some.inj he)
  cases z2
 obtain ⟨hp2,g,d,tk,os⟩:=s2
 refine store_attr (ns:=fs.map (·.1)) PySem.F.store_ValueError hC (hN0 _ I2.kIn) hsa hna hB hxC (mA:=mA) ⟨_,he,rfl,fun c=>by simp, .inr ⟨dx,rfl,nd,hm⟩⟩ (fun h' tk' J kp sm=>?_) hw (by rw [List.length_map,sizeLine_eq];omega)
 obtain ⟨o1,ho1,c1,d1,s1',dd1⟩:=sm _ he
 have e1:h'.get? x=some { cls:=.ref C,dict:=some dx,data:=.fields #[.ref t, .none, .none, .none, .bool false, .none] }:=by
  rw [ho1]
  obtain ⟨a1,a2,a3,a4⟩:=o1
  have:=dd1 dx rfl
  simp only at c1 d1 s1' this
  subst c1 d1 s1' this
  rfl
 obtain ⟨o2,ho2,_,_,hd2⟩:=J
 rw [e1] at ho2
 cases ho2
 have hns:h'.Ns1 dx (fun z=>if z=f then some u else mA z):=by
  rcases hd2 with ⟨z,_⟩ | ⟨d',z,_,r⟩
  ·cases z
  ·cases z
   exact r
 have kk:∀ b ob,b≠dx→hp2.get? b=some ob→h'.get? b=some ob:=fun b ob hb eb=>by
  by_cases z:b=x
  ·rw [z] at eb ⊢
   have eb':(some _:Option Obj)=some ob:=he.symm.trans eb
   cases eb'
   exact e1
  ·exact kp b ob z (fun o0 d0 e0 e2=>by
    have e0':(some _:Option Obj)=some o0:=he.symm.trans e0
    cases e0'
    cases e2
    exact hb) eb
 refine ⟨σ,_,I2.write (x:=dx) (e:=dx) (h':=h') (t':=tk') (o:=xdO dx (putF f y fs)) (by rw [ed];trivial) (.inl rfl) kk ?_ (zzr hns (fun z=>?_) fun z hz=>?_),q2⟩
 ·obtain ⟨ob,_,_,q3,_⟩:=hns
  exact ⟨ob,q3⟩
 ·show RelO ((putF f y fs).lookup z) (if z=f then some u else mA z)
  rw [zgr]
  by_cases q3:z=f
  ·rw [if_pos q3,if_pos q3];exact ry
  ·rw [if_neg q3,if_neg q3];exact hr z
 ·by_cases q3:z=f
  ·rw [q3];exact (zfi f y fs).1
  ·refine (zfi f y fs).2 z (hw z fun q4=>hz ?_)
   show (if z=f then some u else mA z)=none
   rw [if_neg q3];exact q4
theorem zyg {pl:Sem Bool} (F:FC X.K C N fI) (hm:X.mg "ValueError"=none) (ha:PA X (e :: es) t) (hg:Gl X "ValueError":=by rfl)
  (hst:starEach (e :: es) X.env=(false,eval e X.env) :: starEach es X.env:=by rfl) (hpl:(backTo pos (starEach es X.env)).any (·.1)=false:=by rfl)
  (ht:eval (.Call (.Attribute (.Name "ValueError" p) "__init__" apos) (e :: es) [] pos) X.env=(do
   let ov ← eval (.Name "ValueError" p) X.env
   standAt apos.atName
   let (f,first) ← holding [ov] (getMethod ov "__init__" pl)
   callWith pos f first (backTo pos (starEach (e :: es) X.env)) (backToKw pos (keywordEach [] X.env))):=by rfl) :
  PE X (.Call (.Attribute (.Name "ValueError" p) "__init__" apos) (e :: es) [] pos) (fun σ H Q=>t σ H fun vs H1=>∃ x t0 rest,vs = .ref x :: rest∧rest.length≤sizeLine∧H1 x=some (xO C x t0 none)∧∀ t1,Q .non (upd H1 x (xO C x t1 none))):=by
 intro pins s σ H Q I h
 obtain ⟨m,hF⟩:=I.fr
 refine W.methodCall_KW (pl:=pl) (zkf I hg hm zmc ?_) ht
 refine W.method_type (K:=X.K) hF I.ok.mod.kin (v:=.builtin "ValueError.__init__") (by kernel_rfl) (by decide +kernel) (by kernel_rfl) (by decide +kernel) ?_
 have hA:=ha pos pins { s with toks:=s.toks+1 } σ H _ (I.tok _) h
 rw [hst] at hA ⊢
 refine Calls.callWith_builtin (by show (false || (backTo pos (starEach es X.env)).any (·.1))=false;rw [hpl]<;>rfl) (Calls.evalArgs_plain ?_)
 refine thn hA fun us s2 ⟨vs,H2,I2,r2,x,t0,rest,ex,hz,ea,q2⟩=>?_
 subst ex
 cases r2 with
 | cons r rr=>
  cases r
  refine zyy F I2.kIn (zyz I2.hok ea) (by rw [← rr.length];exact hz) fun h' t1 e1 k1=>?_
  exact ⟨.non,_,I2.write (x:=x) (e:=x) (h':=h') (t':=s2.toks) (o:=xO C x t1 none) (by rw [ea];trivial) (.inl rfl) k1 ⟨_,e1⟩ (zBt e1),rfl,q2 t1⟩
end
end
section
abbrev zbc:Stmt:=zaw (top 36) 0
theorem zi4:zai ["self","kind","place"] ["self","kind","place"] (zae zbc):=by walk_at "sc"
theorem zh9:zak zbc "__init__" "Fault.__init__" ["self","kind","place"]:=fun _ _ _ _ _ _ us hl=>match us,hl with | [_,_,_],_=>rfl
def fF (k p:Int):List (Str×V):=[("kind", .int k),("place", .int p)]
def spFI (C:Addr):Sp:=fun vs H Q _=>E4 fun x t k p=>A3 (vs=[.ref x, .int k, .int p]) (H x=some (xO C x t none)) (∀ t1 dx H3,H dx=none→dx≠x→H3 x=some (xO C x t1 (some dx))→H3 dx=some (xdO dx (fF k p))→(∀ b,b≠x→b≠dx→H3 b=H b)→Q .non H3)
structure TF (P:Program) (w:World) (K:W.Frag) (mg:Str→Option Value) (base:Heap) (C:Addr):Prop where
 ex:∃ N fI fd oI,FC K C N fI∧FnOk P w K mg base CX0 1 fI fd ["self","kind","place"] (spFI C)∧Binds K fd ["self","kind","place"] []∧K.lookup fI=some oI∧oI.cls = .type "function"∧W.keepIn K (.ref C)=true∧mg "Fault"=some (.ref C)
section
variable {C N fI:Addr} {fd:FuncData}
theorem zmy (tG:TG K mg) (F:FC K C N fI) (Fn:Fun K "__init__" "Fault.__init__" zbc fI fd):FnOk P w K mg base CX0 1 fI fd ["self","kind","place"] (spFI C):=by
 refine Fn.ok zi4 (fun vs H Q E h=>?_) (fun cdv A outer s H vs Q E hr h=>?_)
 ·obtain ⟨x,t,k,p,rfl,_⟩:=h
  rfl
 ·obtain ⟨x,t,k,p,rfl,hx,q⟩:=h
  refine ⟨_,zab (zal (zyg F tG.b_ValueError (zaa (pv 0) (zaa (pv 1) (zaa (pv 2) zad))))) (zab (zD3 F (pv 0) (pv 1) (.inl rfl) rfl) (zac (zD4 F (pv 0) (pv 2) (.inr rfl) rfl))),?_⟩
  refine ⟨_,rfl,_,rfl,_,rfl,x,t,_,rfl,(by show 2≤sizeLine;decide),hx,fun t1=>?_⟩
  refine ⟨_,rfl,_,rfl,x,t1,rfl,zaf,fun dx hd=>?_⟩
  have nd:dx≠x:=fun z=>by rw [z,zaf] at hd;cases hd
  rw [zag nd] at hd
  refine ⟨_,rfl,_,rfl,x,t1,dx,_,rfl,zaf,by rw [zag nd,zaf],nd,(by show 1<1000;decide),?_⟩
  refine q t1 dx _ hd nd ?_ zaf fun b hb hb2=>?_
  ·rw [zag nd.symm,zaf]
  ·rw [zag hb2,zag hb,zag hb2,zag hb]
end
section
variable {X:Cx} {pins:List (Addr×Obj)} {σ:L2.St} {H:Hp} {s:Shared}
theorem zBq {x:Addr} {φ:Heap→Prop} (I:L2.Inv X pins σ H s) (hx:H x=some (.ext φ)):L2.Inv X pins σ (fun b=>if b=x then none else H b) s:=by
 have nx:∀ b u,H b=u→u≠some (.ext φ)→(if b=x then none else H b)=u:=fun b u e n=>by rw [if_neg (fun z=>n (by rw [← e,z,hx])),e]
 have J:=I.step (H':=fun b=>if b=x then none else H b) (h':=s.heap) (t':=s.toks) (g':=s.gens) (d':=s.drawn) (ch:=[]) (fun _ z=>nomatch z) (fun b o _ _ _ e n=>e) (fun b o _ _ _ e n=>⟨o.slots,e⟩) (fun b o _ e n=>nx b _ n (by simp)) (fun b o _ e=>⟨o,e⟩)
  (fun b xs e=>nx b _ e (by simp)) (fun b o u e=>nx b _ e (by simp)) (fun b ps e=>⟨#[],by rw [nx b _ e (by simp)];simp⟩) (fun m hm=>hm) (fun b u e=>?_) I.bare
 ·exact J
 ·have hb:b≠x:=fun z=>by
   simp [z] at e
  have e2:H b=some u:=by simpa [hb] using e
  exact (I.hok b u e2).stay (fun c v _ q=>q) (fun c q=>nx c _ q (by simp)) fun c xs q=>nx c _ q (by simp)
end
def Rs (C:Addr) (E:XK) (k p:Int) (H:Hp):Prop:=∀ dx H',H' dx=some (xdO dx (fF k p))→Same H H'→E (.ref C) (some dx) H'
section
variable {N:List Str} {qual:Str} {scope:Scope} {f C:Addr} {cd:Value} {A:Around} {outer:List Env} {s0:Shared} {H0:Hp} {E:XK} {j:Nat} {a b:Expr} {t:TA} {np cpos pos:Pos}
theorem zdj (T:TF P w K mg base C) (hr:Room j (cxOf (CXF P w C) P w K mg base N qual scope f cd A outer s0 H0 E).A) (ha:PA (cxOf (CXF P w C) P w K mg base N qual scope f cd A outer s0 H0 E) [a,b] t) (hj:2≤j:=by decide)
  (hg:Gl (cxOf (CXF P w C) P w K mg base N qual scope f cd A outer s0 H0 E) "Fault":=by rfl)
  (he:starEach [a,b] (cxOf (CXF P w C) P w K mg base N qual scope f cd A outer s0 H0 E).env=(false,eval a (cxOf (CXF P w C) P w K mg base N qual scope f cd A outer s0 H0 E).env) :: starEach [b] (cxOf (CXF P w C) P w K mg base N qual scope f cd A outer s0 H0 E).env:=by rfl)
  (hpl:(backTo cpos (starEach [b] (cxOf (CXF P w C) P w K mg base N qual scope f cd A outer s0 H0 E).env)).any (·.1)=false:=by rfl) :
  PS (cxOf (CXF P w C) P w K mg base N qual scope f cd A outer s0 H0 E) (.Raise (some (.Call (.Name "Fault" np) [a,b] [] cpos)) none pos) (fun D σ H=>t σ H fun vs H1=>∃ k p,vs=[.int k, .int p]∧Rs C E k p H1):=by
 obtain ⟨NN,fI,fd,oI,F,Fn,B,lk,hfc,kp,hm⟩:=T.ex
 intro pins s σ H D I h
 have hh:(cxOf (CXF P w C) P w K mg base N qual scope f cd A outer s0 H0 E).A.handled=none:=I.ok.hd rfl
 rw [arm_exec_Raise]
 refine wpAny_bind (wpAny_standAt (zyl F hh (wpAny_bind (wpAny_mono (wpAny_Call_ofName (zik I hg hm ?_)) (fun v s3 h3=>wpAny_bind (wpAny_standAt (wpAny_pure h3))) fun _ _ x=>x))))
 refine W.callWith_K (h₀:=base) I.ok.mod.kin kp (thn (ha cpos pins s σ H _ I h) fun us s1 ⟨vs,H1,I1,r,k,p,ev,q⟩=>⟨I1.kIn,?_⟩) he hpl
 subst ev
 have hl:us.length=2:=r.length.symm
 have I2:=I1.laid (a:=s1.heap.objs.size+1) (o:=xO C (s1.heap.objs.size+1) s1.heap.objs.size none) (h':=zms C s1.heap us) (t':=s1.toks) (fun b u e=>zkh e) (Nat.le_succ _) (zBt zu8)
 refine zxg (rest:=us) F I1.kIn (I1.kIn _ _ lk) hfc (by rw [hl];decide) ?_
 have r2:Vals (V.ref (s1.heap.objs.size+1) :: [.int k, .int p]) (Value.ref (s1.heap.objs.size+1) :: us):=.cons rfl r
 have hs:spFI C (V.ref (s1.heap.objs.size+1) :: [.int k, .int p]) (upd H1 (s1.heap.objs.size+1) (xO C (s1.heap.objs.size+1) s1.heap.objs.size none)) (fun v H3=>v = .non∧∃ t1 dx,H1 dx=none∧dx≠s1.heap.objs.size+1∧H3 (s1.heap.objs.size+1)=some (xO C (s1.heap.objs.size+1) t1 (some dx))∧H3 dx=some (xdO dx (fF k p))∧∀ b,b≠s1.heap.objs.size+1→b≠dx→H3 b=H1 b) (fun _ _ _=>False):=by
  refine ⟨s1.heap.objs.size+1,s1.heap.objs.size,k,p,rfl,zaf,fun t1 dx H3 h1 h2 h3 h4 h5=>⟨rfl,t1,dx,?_,h2,h3,h4,fun b hb hb2=>?_⟩⟩
  ·rw [zag h2] at h1;exact h1
  ·rw [h5 b hb hb2,zag hb]
 refine wpAny_call (codeAny_mono (Fn.run _ _ _ _ ⟨Value.ref (s1.heap.objs.size+1) :: us,[]⟩ (Value.ref (s1.heap.objs.size+1) :: us) _ _ (fun _ _ _=>False) ((hr.mono hj).make C us []) (I2.env0.make C us []) ?_ r2 hs) fun r' s' hq'=>?_)
 ·have z:=B { s1 with heap:=zms C s1.heap us } (Value.ref (s1.heap.objs.size+1) :: us) I2.kIn (by rw [List.append_nil,List.length_cons,hl]<;>rfl)
  rw [List.append_nil] at z
  exact z
 cases r' with
 | error e=>exact False.elim hq'
 | ok fl=>
  cases fl with
  | next=>exact False.elim hq'
  | brk=>exact False.elim hq'
  | cont=>exact False.elim hq'
  | ret u=>
   obtain ⟨v,H3,I3,rv,ev,t1,dx,g1,g2,g3,g4,g5⟩:=I2.after hq'
   subst ev
   refine ⟨rv,?_⟩
   have hx:=zyz I3.hok g3
   have nw:zw6 C (s1.heap.objs.size+1) (some dx) s'.heap:=⟨_,_,hx,rfl,rfl,rfl,rfl⟩
   have I4:=zBq I3 g3
   refine ⟨s1.heap.objs.size+1,some dx,rfl,I3.kIn,nw,?_⟩
   show wpAny _ _ (leaving _ (.ref (s1.heap.objs.size+1))) _ _ s'
   refine zu1 I4.ok.frames I4.stack rfl nw fun h' T' ex' nT' k'=>?_
   have x0:(fun b=>if b=s1.heap.objs.size+1 then none else H3 b) (s1.heap.objs.size+1)=none:=by simp
   have I5:=zel (s0:=s1) (x:=s1.heap.objs.size+1) (T:=s1.heap.objs.size+1) I4 ⟨fun b o e n m=>k'.1 b o e (fun z=>n (by simp at z;simp [z])) m,fun b o e n=>k'.2 b o e fun z=>n (by simp at z;simp [z])⟩ x0 x0 (.inr ⟨_,I1⟩) (Nat.le_succ _) (Nat.le_succ _)
   refine ⟨s1.heap.objs.size+1,dx,T',_,rfl,I5.os,I5.bare,I5.base,I5.hok,ex',x0,I4.hok.fresh nT',Nat.le_trans I1.sz (Nat.le_succ _),Nat.le_trans I4.sz nT',q dx _ ?_ fun b o e=>?_⟩
   ·show (if dx=s1.heap.objs.size+1 then none else H3 dx)=_
    rw [if_neg g2];exact g4
   ·have hb:b≠s1.heap.objs.size+1:=zaj e (I1.hok.fresh (Nat.le_succ _))
    show (if b=s1.heap.objs.size+1 then none else H3 b)=_
    rw [if_neg hb,g5 b hb (zaj e g1)];exact e
end
end
section
section
variable {prog:Program} {w:World} {A:Around} {E:Value→Shared→Prop} {h:Heap} {g:Array GenState} {d:Drawn} {t:Nat} {os:OsState} {x dx:Addr} {o:Obj} {mA:Str→Option Value} {name:Str} {v:Value}
 {nm q:Str} {C N:Addr} {bs:List Value} {sn:List Str} {sub:List Value} {ab:Bool} {col:Option Bool} {dd:Option Addr} {k0 k1 k2 k3 k5:Option Value} {newId:String} {mN:Str→Option Value}
theorem zy1 {tk:Tok} {Q:Fin→Shared→Prop} (hC:h.get? C=some (excClassObj nm q C N bs bmV true sn sub ab col dd k0 k1 k2 k3 k5 newId)) (hN:h.Ns N mN) (hna:mN name=none) (hB:typeLookup (.type "ValueError") name=pure none)
  (hx:h.get? x=some o) (hc:o.cls = .ref C) (hnc:∀ c,o.data≠.cls c) (hdx:o.dict=some dx) (hns:h.Ns1 dx mA) (hv:mA name=some v) (hq:Q (.done (.ret v)) ⟨h,g,d,t,os⟩) :
  wpAny (model prog w) A (Builtin.«object.__getattribute__» ⟨[.ref x, .str name tk],[]⟩) Q E ⟨h,g,d,t,os⟩:=by
 have FB:=PySem.F.attrBase_ValueError
 unfold Builtin.«object.__getattribute__»
 repeat (first | (with_reducible refine wpAny_loadPart_at hx ?_;rw [hc]) | (with_reducible refine wpAny_typeLookup_exc hC hN FB.mro hB ?_;rw [hna]) | wp_step)
 split
 ·rename_i c hcd
  exact absurd hcd (hnc c)
 unfold instanceDict
 repeat (first | (with_reducible refine wpAny_loadPart_at hx ?_;rw [hc]) | (with_reducible refine wpAny_loadPart_at hC ?_) | wp_step)
 rw [hdx]
 repeat (first | (with_reducible refine wpAny_nsGet hns.ns ?_;rw [hv]) | wp_step)
 exact hq
theorem zy0 {M:Model} {nameV:Value} {Q:Unit→Shared→Prop} (hC:h.get? C=some (excClassObj nm q C N bs bmV true sn sub ab col dd k0 k1 k2 k3 k5 newId)) (hx:h.get? x=some o) (hc:o.cls = .ref C) (hq:Q () ⟨h,g,d,t,os⟩) :
  wpAny M A (checkBuiltinCall "BaseException.__getattribute__" ⟨[.ref x,nameV],[]⟩) Q E ⟨h,g,d,t,os⟩:=by
 have k1:builtinKind "BaseException.__getattribute__"=some .slot:=by decide +kernel
 have k2:splitId "BaseException.__getattribute__"=some ("BaseException","__getattribute__"):=by decide +kernel
 have hcB:(Value.ref C :: bmV).contains (.type "BaseException")=true:=by rw [List.contains_cons,show bmV.contains (.type "BaseException")=true by decide,Bool.or_true]
 have ha:=PySem.F.args_bexc_ga (.ref x) nameV
 simp only [checkBuiltinCall,k1,k2]
 refine wpAny_bind ?_
 unfold isInstance
 repeat (first | (with_reducible refine wpAny_loadPart_at hx ?_;rw [hc]) | (with_reducible refine wpAny_isSubtype_exc hC ?_;rw [hcB]) | wp_step)
 exact hq
theorem zBv {tk:Tok} {R:Result→Shared→Prop} (hC:h.get? C=some (excClassObj nm q C N bs bmV true sn sub ab col dd k0 k1 k2 k3 k5 newId)) (hN:h.Ns N mN) (hna:mN name=none) (hB:typeLookup (.type "ValueError") name=pure none)
  (hx:h.get? x=some o) (hc:o.cls = .ref C) (hnc:∀ c,o.data≠.cls c) (hdx:o.dict=some dx) (hns:h.Ns1 dx mA) (hv:mA name=some v) (hq:R (.ok (.ret v)) ⟨h,g,d,t,os⟩) :
  codeAny (model prog w) A (.call (.builtin "BaseException.__getattribute__") ⟨[.ref x, .str name tk],[]⟩) R ⟨h,g,d,t,os⟩:=by
 have FB:=PySem.F.attrBase_ValueError
 refine codeAny_call_builtin FB.ga.plain PySem.F.entry_bexc_ga (zy0 hC hx hc ?_)
 exact zy1 hC hN hna hB hx hc hnc hdx hns hv hq
theorem zEb {tk:Tok} {fill expr:Bool} {Q:Value→Shared→Prop} (hC:h.get? C=some (excClassObj nm q C N bs bmV true sn sub ab col dd k0 k1 k2 k3 k5 newId)) (hN:h.Ns N mN) (hga:mN "__getattribute__"=none) (hgt:mN "__getattr__"=none)
  (hx:h.get? x=some o) (hc:o.cls = .ref C) (call:∀ (A:Around) (R:Result→Shared→Prop),R (.ok (.ret v)) ⟨h,g,d,t,os⟩→codeAny (model prog w) A (.call (.builtin "BaseException.__getattribute__") ⟨[.ref x, .str name tk],[]⟩) R ⟨h,g,d,t,os⟩) (hq:Q v ⟨h,g,d,t,os⟩) (hvi:∃ n tn,v = .int n tn) :
  wpAny (model prog w) A (getAttrBy (.ref x) (.str name tk) fill expr) Q E ⟨h,g,d,t,os⟩:=by
 obtain ⟨n,tn,rfl⟩:=hvi
 have FB:=PySem.F.attrBase_ValueError
 have f3:=FB.ga.bind (.ref x)
 have x0:(expr&&onTheHeap (Value.builtin "BaseException.__getattribute__"))=false:=by cases expr<;>rfl
 have x2:(Value.builtin "BaseException.__getattribute__" == Value.builtin "object.__getattribute__")=false:=by decide +kernel
 have x1:(onTheHeap (Value.ref C)&&Value.builtin "BaseException.__getattribute__" == Value.builtin "object.__getattribute__")=false:=by rw [x2];rfl
 have l1:=FB.ga.lookup
 have l2:=FB.noGetattr
 have l3:=FB.mro
 clear FB
 repeat (any_goals (first | assumption | (with_reducible refine wpAny_loadPart_at hx ?_;rw [hc]) | (with_reducible refine wpAny_typeLookup_exc hC hN l3 l1 ?_;rw [hga]) | (with_reducible refine wpAny_typeLookup_exc hC hN l3 l2 ?_;rw [hgt]) | wp_step))
 refine call _ _ ?_
 repeat (any_goals (first | assumption | wp_step))
theorem zBu {expr:Bool} {Q:Value→Shared→Prop} (hC:h.get? C=some (excClassObj nm q C N bs bmV true sn sub ab col dd k0 k1 k2 k3 k5 newId)) (hN:h.Ns N mN) (hga:mN "__getattribute__"=none) (hgt:mN "__getattr__"=none) (hna:mN name=none) (hB:typeLookup (.type "ValueError") name=pure none)
  (hx:h.get? x=some o) (hc:o.cls = .ref C) (hnc:∀ c,o.data≠.cls c) (hdx:o.dict=some dx) (hns:h.Ns1 dx mA) (hv:mA name=some v) (hq:Q v ⟨h,g,d,t+1,os⟩) (hvi:∃ n tn,v = .int n tn) :
  wpAny (model prog w) A (getAttr (.ref x) name expr) Q E ⟨h,g,d,t,os⟩:=by
 unfold getAttr
 repeat (any_goals (first | assumption | (with_reducible refine zEb hC hN hga hgt hx hc (fun A R r=>zBv hC hN hna hB hx hc hnc hdx hns hv r) ?_ hvi) | wp_step))
end
end
section
section
variable {cF:Addr}
theorem Fun.okX {CX:CXT} {x qual:Str} {st:Stmt} {f:Addr} {fd:FuncData} {N ps:List Str} {k:Nat} {sp:Sp} (F:Fun K x qual st f fd) (S:zai N ps (zae st)) (len:∀ vs H Q E,sp vs H Q E→vs.length=ps.length)
  (hbody:∀ (cdv:Value) (A:Around) (outer:List Env) (s:Shared) (H:Hp) (vs:List V) (Q:VK) (E:XK),Room k (A.deeper (envOfC qual (zae st) s.heap.objs.size f cdv))→sp vs H Q E→
   ∃ t,PSs (cxOf CX P w K mg base N qual (zae st) f cdv A outer s H E) (zc0 st) t∧t { nx:=fun _ H'=>Q .non H',rt:=Q } (start N vs) H):FnOk P w K mg base CX (k+1) f fd ps sp:=by
 obtain ⟨oc,od,kV,doc,pm,an,cdv,ct,osl,rfl,l,c⟩:=F.ex
 exact zCg l c S len fun A outer s H vs Q E hr h=>hbody cdv A outer s H vs Q E hr h
theorem FnK.dnF {x:Str} {st:Stmt} {N ps:List Str} {k:Nat} {sp:Sp} (F:FnK K mg x st) (S:zai N ps (zae st)) (B:zak st x x ps) (len:∀ vs H Q E,sp vs H Q E→vs.length=ps.length)
  (hbody:∀ (f:Addr) (cdv:Value) (A:Around) (outer:List Env) (s:Shared) (H:Hp) (vs:List V) (Q:VK) (E:XK),Room k (A.deeper (envOfC x (zae st) s.heap.objs.size f cdv))→sp vs H Q E→
   ∃ t,PSs (cxOf (CXF P w cF) P w K mg base N x (zae st) f cdv A outer s H E) (zc0 st) t∧t { nx:=fun _ H'=>Q .non H',rt:=Q } (start N vs) H):Dn P w K mg base (CXF P w cF) x ps (k+1) sp:=by
 obtain ⟨f,fd,F,hm⟩:=F.ex
 exact ⟨f,fd,Fun.okX F S len (hbody f),hm,F.kp,F.binds B⟩
theorem MtK.mdF {C:Addr} {m qual:Str} {st:Stmt} {N ps:List Str} {k:Nat} {sp:Sp} (F:MtK K C m qual st) (S:zai N ps (zae st)) (B:zak st m qual ps) (len:∀ vs H Q E,sp vs H Q E→vs.length=ps.length)
  (hbody:∀ (f:Addr) (cdv:Value) (A:Around) (outer:List Env) (s:Shared) (H:Hp) (vs:List V) (Q:VK) (E:XK),Room k (A.deeper (envOfC qual (zae st) s.heap.objs.size f cdv))→sp vs H Q E→
   ∃ t,PSs (cxOf (CXF P w cF) P w K mg base N qual (zae st) f cdv A outer s H E) (zc0 st) t∧t { nx:=fun _ H'=>Q .non H',rt:=Q } (start N vs) H):Md P w K mg base (CXF P w cF) C m ps (k+1) sp:=by
 obtain ⟨f,fd,F,hm⟩:=F.ex
 exact ⟨f,fd,Fun.okX F S len (hbody f),hm,F.binds B⟩
end
section
variable {X:Cx}
theorem zC3 {x y:Str} {pos:Pos} (h:GS X.mg x y) (hg:Gl X x:=by rfl) (hd:(x == ("__debug__" : Str))=false:=by decide):PE X (.Name x pos) (tC (.str y)):=by
 obtain ⟨t,h⟩:=h
 exact zkl hg h ⟨t,rfl⟩ hd
def tGT (K:W.Frag) (ys:List Str):TE:=fun _ H Q=>∀ a,SqT K H a (ys.map V.str)→Q (.ref a) H
theorem zAw {x:Str} {ys:List Str} {pos:Pos} (h:GT X.K X.mg x ys) (hg:Gl X x:=by rfl) (hd:(x == ("__debug__" : Str))=false:=by decide):PE X (.Name x pos) (tGT X.K ys):=by
 obtain ⟨a,h,q⟩:=h
 intro pins s σ H Q I hw
 refine zkl (v:=.ref a) hg h rfl hd pins s σ H Q I (hw a ?_)
 rcases q with q | q
 ·rcases q with q | ⟨o,q⟩<;>cases q
 ·exact .inr q
theorem zka {K:W.Frag} {H:Hp}:∀ ns:List Int,zps K H (ns.map V.int) (ns.map PyData.int)
 | []=>.nil
 | n :: r=>.cons (.int n) (zka r)
theorem zmg:∀ ns ms:List Int,PyData.eqvAll (ns.map PyData.int) (ms.map PyData.int)=decide (ns=ms)
 | [],[]=>by simp [PyData.eqvAll]
 | [],_ :: _=>by simp [PyData.eqvAll]
 | _ :: _,[]=>by simp [PyData.eqvAll]
 | n :: r,m :: t=>by
  simp only [List.map_cons,PyData.eqvAll,PyData.eqv,zmg r t]
  by_cases h:n=m<;>by_cases h2:r=t<;>simp [h,h2]
theorem zri:∀ ns:List Int,PyData.canLayAll0 (ns.map PyData.int)=true
 | []=>rfl
 | n :: r=>by simp [PyData.canLayAll0,PyData.canLay0,zri r]
theorem zrk:∀ ns:List Int,PyData.depthAll (ns.map PyData.int)≤1
 | []=>by simp [PyData.depthAll]
 | n :: r=>by
  have:=zrk r
  simp [PyData.depthAll,PyData.depth]
  omega
theorem zex (ns:List Int):SeqAt.shaped (.tuple (ns.map PyData.int))=true:=by
 have h:=zrk ns
 simp [SeqAt.shaped,PyData.canLay0,zri ns,PyData.depth]
 omega
def rEqT (K:W.Frag):R2:=fun x y H Q=>E4 fun (a:Addr) (b:Addr) (ns:List Int) (ms:List Int)=>A5 (x = .ref a) (y = .ref b) (SqT K H a (ns.map V.int)) (SqT K H b (ms.map V.int)) (Q (.bl (decide (ns=ms))) H)
def rNeT (K:W.Frag):R2:=fun x y H Q=>E4 fun (a:Addr) (b:Addr) (ns:List Int) (ms:List Int)=>A5 (x = .ref a) (y = .ref b) (SqT K H a (ns.map V.int)) (SqT K H b (ms.map V.int)) (Q (.bl (!decide (ns=ms))) H)
theorem zvj (hu:X.A.units+64<cLine):OpR X (compareOp .Eq) (rEqT X.K):=by
 intro pins s σ H x y v u Q I rx ry h
 obtain ⟨a,b,ns,ms,rfl,rfl,ha,hb,q⟩:=h
 refine zCw hu pins s σ H _ _ v u Q I rx ry ⟨_,_, .tup ha (zka ns), .tup hb (zka ms),zex _,zex _,?_⟩
 rw [PyData.eqv,zmg]
 exact q
theorem zCy (hu:X.A.units+64<cLine):OpR X (compareOp .NotEq) (rNeT X.K):=by
 intro pins s σ H x y v u Q I rx ry h
 obtain ⟨a,b,ns,ms,rfl,rfl,ha,hb,q⟩:=h
 refine zCx hu pins s σ H _ _ v u Q I rx ry ⟨_,_, .tup ha (zka ns), .tup hb (zka ms),zex _,zex _,?_⟩
 rw [PyData.eqv,zmg]
 exact q
end
abbrev St:=L2.St
abbrev Bytes:=Tilt.Bytes
def bI (w:Bytes):List Int:=w.map fun c=>(c.toNat:Int)
def bV (w:Bytes):List V:=(bI w).map V.int
def bK (w:Bytes):List Key:=(bI w).map Sum.inl
theorem zy4 {a b:Bytes} (h:bI a=bI b):a=b:=by
 induction a generalizing b with
 | nil=>cases b<;>simp_all [bI]
 | cons x r ih=>
  cases b with
  | nil=>simp [bI] at h
  | cons y t=>
   simp only [bI,List.map_cons,List.cons.injEq] at h
   have e:x=y:=UInt8.toNat_inj.mp (by omega)
   rw [e,ih h.2]
theorem zrf (a b:Bytes):decide (bI a=bI b)=decide (a=b):=by
 by_cases h:a=b
 ·simp [h]
 ·have h2:¬bI a=bI b:=fun z=>h (zy4 z)
  simp [h,h2]
theorem bK_V (w:Bytes):(bK w).map kV=bV w:=by simp [bK,bV,kV,Function.comp_def]
theorem zt4 {a b:Bytes} (h:bK a=bK b):a=b:=by
 have:=congrArg (List.map kV) h
 rw [bK_V,bK_V] at this
 unfold bV at this
 refine zy4 ?_
 have e:=congrArg (List.map fun v=>match v with | V.int i=>i | _=>0) this
 simpa [Function.comp_def] using e
@[simp] theorem zfc (w:Bytes):(bV w).length=w.length:=by simp [bV,bI]
theorem znx {w:Bytes} {i:Nat} {c:UInt8} (h:w[i]? = some c):(bV w)[i]? = some (.int c.toNat):=by simp [bV,bI,h]
theorem zt5 {w:Bytes} {i:Nat} {x:V} (h:(bV w)[i]? = some x):∃ c,w[i]? = some c∧x = .int c.toNat:=by
 simp only [bV,bI,List.map_map,List.getElem?_map,Option.map_eq_some_iff] at h
 obtain ⟨c,h,rfl⟩:=h
 exact ⟨c,h,rfl⟩
def SameX (S:Addr→Prop) (H H':Hp):Prop:=∀ b o,¬S b→H b=some o→H' b=some o
theorem SameX.refl {S:Addr→Prop} {H:Hp}:SameX S H H:=fun _ _ _ h=>h
theorem SameX.trans {S:Addr→Prop} {H H1 H2:Hp} (a:SameX S H H1) (b:SameX S H1 H2):SameX S H H2:=fun c o n h=>b c o n (a c o n h)
theorem SameX.of {S:Addr→Prop} {H H':Hp} (a:Same H H'):SameX S H H':=fun c o _ h=>a c o h
theorem SameX.mono {S S':Addr→Prop} {H H':Hp} (a:SameX S H H') (h:∀ b,S b→S' b):SameX S' H H':=fun c o n e=>a c o (fun z=>n (h c z)) e
theorem SameX.new {S:Addr→Prop} {H H':Hp} {H0:Hp} (s:Same H0 H) (a:SameX S H H') (h:∀ b,S b→H0 b=none):Same H0 H':=fun b o e=>a b o (fun z=>nomatch (h b z).symm.trans e) (s b o e)
theorem Same.new {H:Hp} {p:Addr} {o:HO} (h:H p=none):Same H (upd H p o):=fun b u e=>by rw [zag (zaj e h)];exact e
theorem SameX.put {S:Addr→Prop} {H:Hp} {p:Addr} {o:HO} (h:S p):SameX S H (upd H p o):=fun b u n e=>by
 have:b≠p:=fun z=>n (z▸h)
 rw [zag this];exact e
theorem Same.sqT {K:W.Frag} {H H':Hp} {a:Addr} {xs:List V} (e:Same H H') (h:SqT K H a xs):SqT K H' a xs:=by
 rcases h with h | h
 ·rcases h with h | ⟨o,h⟩
  ·exact .inl (.inl (e _ _ h))
  ·exact .inl (.inr ⟨o,e _ _ h⟩)
 ·exact .inr h
theorem SameX.sqL {K:W.Frag} {S:Addr→Prop} {H H':Hp} {a:Addr} {xs:List V} (e:SameX S H H') (n:¬S a) (h:SqL K H a xs):SqL K H' a xs:=by
 rcases h with h | h
 ·rcases h with h | ⟨o,h⟩
  ·exact .inl (.inl (e _ _ n h))
  ·exact .inl (.inr ⟨o,e _ _ n h⟩)
 ·exact .inr h
theorem SqL.new {K:W.Frag} {H:Hp} {a p:Addr} {xs:List V} {o:HO} (h:SqL K H a xs) (n:H p=none):SqL K (upd H p o) a xs:=Same.seq (Same.new n) h
theorem SqT.new {K:W.Frag} {H:Hp} {a p:Addr} {xs:List V} {o:HO} (h:SqT K H a xs) (n:H p=none):SqT K (upd H p o) a xs:=Same.sqT (Same.new n) h
end
section
section
open PySem.SeqAt PySem.Builtin PySem.Builtin.Tuple
open PySem.AutoSeq1 (wpAny_loadPart')
open PySem.MeetsSeq PySem.MeetsSeq2 PySem.MeetsSeq3
theorem zns (l:Addr) (items:Array Value) (n:Nat) (dd:Option Addr) (sl:Array (Option Value)) (x:Value) (e:Value→Bool) (j:Nat) (hj:j<items.size)
  (hit:e items[j]=true) (hno:∀ m (hm:m<items.size),m<j→e items[m]=false) :
  Meets (Builtin.«tuple.index» ⟨[.ref l,x],[]⟩)
   (fun A R s=>s.heap.get? l=some { cls:=.type "tuple",dict:=dd,data:=.seq items n,slots:=sl }∧(∀ y,y∈items→EqAt A.in1 s y x (e y))∧R (.ok (.ret (.int j s.toks))) { s with toks:=s.toks+1 }):=by
 intro prog w A R s h
 obtain ⟨hp,g,d,tk,os⟩:=s;obtain ⟨hl,he,h⟩:=h
 unfold Builtin.«tuple.index»
 simp only [Std.Legacy.Range.forIn_eq_forIn_range']
 wp_walk using wpAny_loadPart' hl
 have hsz:([:min items.size items.size]:Std.Legacy.Range).size=items.size:=by simp [Std.Legacy.Range.size]
 rw [hsz]
 with_unfolding_all refine wpAny_forIn_list (α:=Nat) (β:=Option PySem.Fin×Unit) _ (fun l b s'=>b=(none,())∧s'=⟨hp,g,d,tk,os⟩∧∃ i,i≤j∧l=List.range' i (items.size-i)) _ ?_ ?_ _ _ ⟨rfl,rfl,0,Nat.zero_le _,rfl⟩
 ·rintro i rest b s' ⟨rfl,rfl,i',hi,hl'⟩
  obtain ⟨k,hk⟩ : ∃ k,items.size-i'=k+1:=⟨items.size-i'-1,by omega⟩
  rw [hk,List.range'_succ] at hl'
  obtain ⟨rfl,rfl⟩:=List.cons.inj hl'
  have hii:i<items.size:=by omega
  have e1:items[i]? = some items[i]:=by simp [hii]
  simp only [e1]
  refine wpAny_bind (he _ (Array.getElem_mem hii) prog w _ _ ?_)
  rcases Nat.lt_or_ge i j with hlt | hge
  ·rw [hno i hii hlt]
   simp only [Bool.false_eq_true,if_false]
   exact wpAny_pure ⟨rfl,rfl,i+1,hlt,by congr 1;omega⟩
  ·have:i=j:=by omega
   subst this
   rw [hit]
   simp only [if_true]
   unfold retInt
   wp_walk
   exact h
 ·rintro b s' ⟨rfl,rfl,i,hi,hl'⟩
  exfalso
  have:=congrArg List.length hl'
  simp at this
  omega
end
section
variable {prog:Program} {w:World} {A:Around} {E:Value→Shared→Prop} {s:Shared}
open HT in
theorem zgp {t sl:Addr} {items:Array Value} {vl vu:Value} {lo hi:Option Int} {Q:Value→Shared→Prop} (ht:IsTup s.heap t items) (hs:s.heap.IsSliceOf sl vl vu .none) (pl:IsPart vl lo) (pu:IsPart vu hi)
  (hw:sIx items.size 0 lo=0∧sIx items.size items.size hi=items.size) (h:Q (.ref t) s):wpAny (model prog w) A (getItem (.ref t) (.ref sl)) Q E s:=by
 obtain ⟨os,hos,hcs,hds⟩:=id hs
 have hTs:s.TypeIs (.ref sl) "slice":=⟨os,hos,hcs⟩
 unfold getItem
 try with_reducible refine wpAny_holding ?_
 first | refine wpAny_bind (wpAny_pure ?_) | skip
 refine wpAny_bind (wpAny_sequenceKey ht.typeIs (by decide) ?_)
 refine wpAny_bind (wpAny_callSpecial?_slot (name:=Str.ofString "__getitem__") ht.typeIs PyProof.Rows.slot_tuple_getitem
  (wpAny_call_entry PyProof.Rows.slot_tuple_getitem ht.typeIs entry_tuple_getitem ?_ (args_tuple_getitem _ _)))
 show wpAny _ _ (Builtin.Tuple.tupleItemsOf (.ref t) >>= _) _ _ s
 refine wpAny_bind (tupleItemsOf_ ht ?_)
 refine wpAny_bind (wpAny_typeOf hTs ?_)
 rw [if_pos (by decide)]
 refine wpAny_bind (ze6 hs pl pu ?_)
 have hyes:(((sIx items.size 0 lo:Nat):Int) == 0&&(1:Int) == 1&&(sIx items.size items.size hi-sIx items.size 0 lo) == items.size)=true:=by
  rw [hw.1,hw.2];simp
 show wpAny _ _ (if (((sIx items.size 0 lo:Nat):Int) == 0&&(1:Int) == 1&&(sIx items.size items.size hi-sIx items.size 0 lo) == items.size)=true then _ else _) _ _ s
 rw [if_pos hyes]
 refine wpAny_bind ?_
 unfold Builtin.Tuple.tupleIsExact
 refine wpAny_bind (wpAny_typeOf ht.typeIs (wpAny_pure ?_))
 rw [if_pos (by decide)]
 refine wpAny_bind (wpAny_rule ?_)
 exact wpAny_pure ⟨_,rfl,wpAny_pure h⟩
end
section
variable {X:Cx}
def zA5 (K:W.Frag):V→List V→Hp→VK→Prop:=fun x xs H Q=>E5 fun (a:Addr) (ys:List V) (y:V) (j:Nat) (z:V)=>A8 (x=V.ref a) (xs=[y]) (SqT K H a ys) (zmi y=true) (ys.all zmi=true) (ys[j]? = some z) (eqV z y=true) ((∀ (m:Nat) (z':V),m<j→ys[m]? = some z'→eqV z' y=false)∧Q (.int (j:Nat)) H)
theorem zvc:MtR X "tuple.index" (zA5 X.K):=by
 intro pins s σ H x xs v us Q I rx rxs h
 obtain ⟨a,ys,y,j,z,rfl,rfl,hs,fy,fys,hz,hzj,hno,q⟩:=h
 cases rx
 cases rxs with
 | cons ry rt=>
  rename_i uy ut
  cases rt
  obtain ⟨its,rv,⟨⟨cls,dd,data,sl⟩,ho,hc,n,hd⟩,hlen⟩:=I.tuple hs
  simp only at hc hd
  subst hc hd
  obtain ⟨u,hu,ru⟩:=rv.get hz
  obtain ⟨hjl,hje⟩:=List.getElem?_eq_some_iff.mp hu
  have hvl:=rv.length
  have hj:j<its.toArray.size:=by simpa using hjl
  refine call_meets PySem.F.slot_tuple_index ⟨_,ho,rfl⟩ PySem.F.entry_tuple_index (PySem.F.args_tuple_index_2 _ _)
   (zns a its.toArray n dd sl uy (eqU y) j hj ?_ ?_) ⟨ho,fun u' hu'=>zr0 ry fy rv fys u' (by simpa using hu'),?_⟩
  ·have e1:its.toArray[j]=u:=by simpa using hje
   rw [e1,zuk ru (zun fys hz)]
   exact hzj
  ·intro m hm hmj
   have hml:m<its.length:=by simpa using hm
   have hmy:m<ys.length:=by omega
   have hy':ys[m]? = some ys[m]:=List.getElem?_eq_getElem hmy
   obtain ⟨u2,hu2,ru2⟩:=rv.get hy'
   obtain ⟨_,hme⟩:=List.getElem?_eq_some_iff.mp hu2
   have e1:its.toArray[m]=u2:=by simpa using hme
   rw [e1,zuk ru2 (zun fys hy')]
   exact hno m _ hmj hy'
  ·exact ⟨.int (j:Nat),H,I.tok _,⟨_,rfl⟩,q⟩
def rSlA (K:W.Frag):V→Option Int→Option Int→Hp→VK→Prop:=fun x lo hi H Q=>E2 fun a xs=>A3 (x = .ref a) (SqT K H a xs) (∀ b H',SqT K H' b (cutV xs lo hi)→Same H H'→Q (.ref b) H')
theorem zA9:SlR X (rSlA X.K):=by
 intro pins s σ H x v vl vu lo hi sl Q I rx hs pl pu h
 obtain ⟨a,xs,rfl,hx,q⟩:=h
 by_cases hw:HT.sIx xs.length 0 lo=0∧HT.sIx xs.length xs.length hi=xs.length
 ·cases rx
  obtain ⟨its,r,ht,hz⟩:=I.tuple hx
  have hlen:its.toArray.size=xs.length:=by rw [List.size_toArray];exact r.length.symm
  refine ⟨"tuple",_,PyProof.Rows.slot_tuple_getitem.lookup,ht.typeIs,?_⟩
  refine zgp ht hs pl pu (by rw [hlen];exact hw) ⟨.ref a,H,I,rfl,q a H ?_ (Same.refl H)⟩
  have e:cutV xs lo hi=xs:=by
   unfold cutV
   rw [hw.1,hw.2]
   simp
  rw [e];exact hx
 ·exact zDd pins s σ H _ v vl vu lo hi sl Q I rx hs pl pu ⟨a,xs,rfl,hx,hw,fun p hp=>q p _ (SqT.of zaf) (Same.new hp)⟩
theorem zor {prog:Program} {w:World} {d:Addr} (hd:(d == sysModules)=false):MeetsIn prog w (Builtin.«dict.__len__» ⟨[.ref d],[]⟩) (fun _ R s=>∃ (o:Obj) (es:Array DictEntry) (ep:Nat),s.heap.get? d=some o∧o.data = .dict es ep∧R (.ok (.ret (.int es.size s.toks))) { s with toks:=s.toks+1 }):=
 .of_wp fun A R s ⟨o,es,ep,ho,hdat,h⟩=>by
  show wpAny _ _ (dictSize d >>= _) _ _ s
  unfold dictSize
  refine wpAny_bind (wpAny_bind (wpAny_dictEntries ho hdat (wpAny_pure ?_)))
  show wpAny _ _ (Builtin.Dict.pendingCount d >>= _) _ _ s
  refine wpAny_bind (wpAny_pendingCount_other hd ?_)
  refine wpAny_ret_mkInt ?_
  rw [Nat.add_zero];exact h
theorem zpx {prog:Program} {w:World} {A:Around} {E:Value→Shared→Prop} {s:Shared} {d:Addr} {o:Obj} {es:Array DictEntry} {ep:Nat} {Q:Value→Shared→Prop} (hd:(d == sysModules)=false) (ho:s.heap.get? d=some o) (hc:o.ExactDict) (hdat:o.data = .dict es ep) (hfit:(es.size:Int)<2 ^ 63)
  (h:Q (.int es.size (s.toks+1)) { s with toks:=s.toks+1+1 }):wpAny (model prog w) A (call (.builtin "len") [.ref d]) Q E s:=by
 have ty:s.TypeIs (.ref d) "dict":=⟨o,ho,hc.1⟩
 refine Calls.call_function_entry kind_len plain_len entry_len (args_len1 _) ?_
 unfold Builtin.«len»
 refine wpAny_bind (m:=oneArg "len" _) (wpAny_pure ?_)
 refine wpAny_bind (m:=callSpecial? (.ref d) (Str.ofString "__len__")) (wpAny_callSpecial?_slot (name:=Str.ofString "__len__") ty F.slot_dict_len
  (call_meetsIn F.slot_dict_len ty F.entry_dict_len (F.args_dict_len_1 _) (zor hd) ⟨o,es,ep,ho,hdat,?_⟩))
 show wpAny _ _ _ _ _ { s with toks:=s.toks+1 }
 refine wpAny_bind (wpAny_holding (wpAny_pure ?_))
 refine wpAny_bind (wpAny_letGo ?_)
 show wpAny _ _ (if ((es.size:Nat):Int)<0 then _ else _) _ _ _
 rw [if_neg (by omega)]
 show wpAny _ _ (if ((es.size:Nat):Int)≥2 ^ 63 then _ else _) _ _ _
 rw [if_neg (by omega)]
 exact wpAny_bind (wpAny_mkInt (wpAny_pure ⟨_,rfl,h⟩))
theorem zt9:znu X (.builtin "len") (fun xs H Q=>∃ a kvs,xs=[V.ref a]∧H a=some (.dT kvs)∧Q (.int kvs.length) H):=by
 intro pins s σ H xs us Q I r h
 obtain ⟨a,kvs,rfl,ha,q⟩:=h
 obtain ⟨u,rfl,ru⟩:=ztr r
 cases ru
 obtain ⟨z,hd,xs,rel,o,es,ep,ho,hc,hdat,hes,_⟩:=zCc I.hok ha
 have hsz:es.size=kvs.length:=by rw [size_of_entries hes];exact rel.length.symm
 refine zpx hd ho hc hdat (by rw [hsz];rw [sizeLine_eq] at z;omega) ⟨.int kvs.length,H,I.tok _,⟨_,by rw [hsz]⟩,q⟩
end
end
section
theorem zoo {J:It} {n:Nat} {g:L2.TG} {tt:TT} {te:TE} {vs:List Nat} {σ:St} {H1:Hp} {D:Addr} {Qd:Hp→Prop} (Pv:Nat→Hp→Prop) (h0:Pv 0 (upd H1 D (.lst []))) (hd:∀ H,Pv n H→J.stop n H∧Qd H)
  (hs:∀ i H,i<n→Pv i H→J.go i H∧∀ x H',J.yld i H x H'→g x (wipe σ vs) H' fun σ2 H2=>wipe σ2 vs=wipe σ vs∧tt σ2 H2 fun b H3=>
   if b=true then te σ2 H3 fun y H4=>∃ acc,H4 D=some (.lst acc)∧acc.length<sizeLine∧Pv (i+1) (upd H4 D (.lst (acc++[y]))) else Pv (i+1) H3) :
  ∃ W:Nat→Nat→Hp→Prop,(∃ m,W 0 m (upd H1 D (.lst [])))∧∀ i m H,W i m H→
 (J.stop i H∧Qd H)∨(J.go i H∧∃ Nx:Hp→Prop,(∀ H',Nx H'→∃ m',m'<m∧W (i+1) m' H')∧∀ x H',J.yld i H x H'→g x (wipe σ vs) H' fun σ2 H2=>wipe σ2 vs=wipe σ vs∧tt σ2 H2 fun b H3=>
  if b=true then te σ2 H3 fun y H4=>∃ acc,H4 D=some (.lst acc)∧acc.length<sizeLine∧Nx (upd H4 D (.lst (acc++[y]))) else Nx H3):=by
 refine ⟨fun i m H=>m=n-i∧i≤n∧Pv i H,⟨n,rfl,Nat.zero_le _,h0⟩,fun i m H ⟨e,hi,h⟩=>?_⟩
 by_cases hn:i=n
 ·subst hn
  exact .inl (hd H h)
 ·have hlt:i<n:=by omega
  obtain ⟨go,step⟩:=hs i H hlt h
  exact .inr ⟨go,Pv (i+1),fun H' h'=>⟨n-(i+1),by omega,rfl,hlt,h'⟩,step⟩
theorem zp4 {J:It} {n:Nat} {g:L2.TG} {tb:TS} {D:Ends} {σ:St} {H:Hp} (Pv:Nat→St→Hp→Prop) (h0:Pv 0 σ H) (hd:∀ σ H,Pv n σ H→J.stop n H∧D.nx σ H)
  (hs:∀ i σ H,i<n→Pv i σ H→J.go i H∧∀ x H',J.yld i H x H'→g x σ H' fun σ2 H2=>tb { D with nx:=Pv (i+1),ct:=Pv (i+1),bk:=D.nx } σ2 H2) :
  ∃ W:Nat→Nat→St→Hp→Prop,(∃ m,W 0 m σ H)∧∀ i m σ H,W i m σ H→
 (J.stop i H∧D.nx σ H)∨(J.go i H∧∃ N:St→Hp→Prop,(∀ σ' H',N σ' H'→∃ m',m'<m∧W (i+1) m' σ' H')∧∀ x H',J.yld i H x H'→g x σ H' fun σ2 H2=>tb { D with nx:=N,ct:=N,bk:=D.nx } σ2 H2):=by
 refine ⟨fun i m σ H=>m=n-i∧i≤n∧Pv i σ H,⟨n,rfl,Nat.zero_le _,h0⟩,fun i m σ H ⟨e,hi,h⟩=>?_⟩
 by_cases hn:i=n
 ·subst hn
  exact .inl (hd σ H h)
 ·have hlt:i<n:=by omega
  obtain ⟨go,step⟩:=hs i σ H hlt h
  exact .inr ⟨go,Pv (i+1),fun σ' H' h'=>⟨n-(i+1),by omega,rfl,hlt,h'⟩,step⟩
theorem zbe {α:Type} {l:List α} {i:Nat} {x:α} (h:l[i]? = some x):l.take (i+1)=l.take i++[x]:=by
 rw [List.take_succ,h];rfl
section
def spB (p:Int→Bool):Sp:=fun vs H Q _=>G1 (fun i=>vs=[.int i]) fun i=>Q (.bl (p i)) H
def zd2 (i:Int):Bool:=decide (48≤i)&&decide (i≤57)
def zeg (i:Int):Bool:=decide (97≤i)&&decide (i≤122)
def zdw:Sp:=fun vs H Q _=>∃ (x:Str),A3 (vs=[.str x]) (x.cps.size≤1000) (∀ H' p,Same H H'→H' p=some (.tup (x.cps.toList.map fun (c:Nat)=>V.int c))→Q (.ref p) H')
def zj0 (K:W.Frag):Sp:=fun vs H Q _=>E2 fun p b=>A4 (vs=[.ref p]) (H p=some (.tup (bV b))) (b≠[]) (∀ H',Same H H'→Q (.bl (Tilt.isName b)) H')
def zi9 (K:W.Frag):Sp:=fun vs H Q _=>E2 fun p b=>A5 (vs=[.ref p]) (H p=some (.tup (bV b))) (b≠[]) (b.length≤20000) (∀ H',Same H H'→Q (.bl (Tilt.numberOf b).isSome) H')
def zja (K:W.Frag):Sp:=fun vs H Q _=>E3 fun p b n=>A4 (vs=[.ref p]) (H p=some (.tup (bV b))) (Tilt.numberOf b=some n) (Q (.int n) H)
abbrev zfx:Stmt:=top 48
theorem sc_spelled:zai ["word","sign"] ["word"] (zae zfx):=by walk_at "sc"
theorem zss:zak zfx "spelled" "spelled" ["word"]:=fun _ _ _ _ _ _ us hl=>match us,hl with | [_],_=>rfl
abbrev ze1:Stmt:=top 49
theorem zqv:zai ["byte"] ["byte"] (zae ze1):=by walk_at "sc"
theorem zpw:zak ze1 "is_digit" "is_digit" ["byte"]:=fun _ _ _ _ _ _ us hl=>match us,hl with | [_],_=>rfl
abbrev zd7:Stmt:=top 50
theorem zpf:zai ["byte"] ["byte"] (zae zd7):=by walk_at "sc"
theorem zn5:zak zd7 "is_letter" "is_letter" ["byte"]:=fun _ _ _ _ _ _ us hl=>match us,hl with | [_],_=>rfl
abbrev zfw:Stmt:=top 51
theorem sc_is_name:zai ["word","byte"] ["word"] (zae zfw):=by walk_at "sc"
theorem zsr:zak zfw "is_name" "is_name" ["word"]:=fun _ _ _ _ _ _ us hl=>match us,hl with | [_],_=>rfl
abbrev zd8:Stmt:=top 52
theorem sc_is_number:zai ["word","byte"] ["word"] (zae zd8):=by walk_at "sc"
theorem zn6:zak zd8 "is_number" "is_number" ["word"]:=fun _ _ _ _ _ _ us hl=>match us,hl with | [_],_=>rfl
abbrev zd9:Stmt:=top 53
theorem sc_number_of:zai ["word","number","byte"] ["word"] (zae zd9):=by walk_at "sc"
theorem zn7:zak zd9 "number_of" "number_of" ["word"]:=fun _ _ _ _ _ _ us hl=>match us,hl with | [_],_=>rfl
theorem zql (tG:TG K mg) (F:FnK K mg "is_digit" ze1) :
  Dn P w K mg base CX0 "is_digit" ["byte"] 1 (spB zd2):=by
 refine F.dn zqv zpw (fun vs H Q E h=>?_) (fun f cdv A outer s H vs Q E hr h=>?_)
 ·obtain ⟨i,rfl,_⟩:=h
  rfl
 ·obtain ⟨i,rfl,q⟩:=h
  have hu:=za2 hr
  have hu64:=hr.units
  refine ⟨_,(zac (zar (zht zju zju (zap tG.g_DIGIT_ZERO) (pv 0) (zap tG.g_DIGIT_NINE)))),?_⟩
  walk_at "rd"
  unfold zd2 at q
  by_cases h1:48≤i<;>simp_all<;>intros<;>omega
theorem zow (tG:TG K mg) (F:FnK K mg "is_letter" zd7) :
  Dn P w K mg base CX0 "is_letter" ["byte"] 1 (spB zeg):=by
 refine F.dn zpf zn5 (fun vs H Q E h=>?_) (fun f cdv A outer s H vs Q E hr h=>?_)
 ·obtain ⟨i,rfl,_⟩:=h
  rfl
 ·obtain ⟨i,rfl,q⟩:=h
  have hu:=za2 hr
  have hu64:=hr.units
  refine ⟨_,(zac (zar (zht zju zju (zap tG.g_LETTER_A) (pv 0) (zap tG.g_LETTER_Z)))),?_⟩
  walk_at "rd"
  unfold zeg at q
  by_cases h1:97≤i<;>simp_all<;>intros<;>omega
theorem zta (tG:TG K mg) (F:FnK K mg "spelled" zfx) :
  Dn P w K mg base CX0 "spelled" ["word"] 1 (zdw):=by
 refine F.dn sc_spelled zss (fun vs H Q E h=>?_) (fun f cdv A outer s H vs Q E hr h=>?_)
 ·obtain ⟨x,rfl,_⟩:=h
  rfl
 ·obtain ⟨x,rfl,hz,q⟩:=h
  have hu:=za2 hr
  have hu64:=hr.units
  refine ⟨_,(zac (zar (zfn zhe (by rfl) tG.b_tuple zrg (zaa (zyb rfl sc_spelled.nd (zC7 (pv 0)) (zeq (own:=[("sign",1)]) rfl) (fun _ _ _ _ _=>zbp (i:=1) sc_spelled.nd rfl (Or.inl rfl)) (fun _ _ _ _ _=>zm6) (fun _ _ _ _ _=>(za7 zxa (by rfl) tG.b_ord zB7 (zaa (pv 1) zad)))) zad)))),?_⟩
  refine ⟨_,rfl,x,rfl,fun D hD=>zoo (n:=x.cps.size) (fun i H'=>H'=upd H D (.lst ((x.cps.toList.take i).map fun (c:Nat)=>V.int c))) rfl (fun H' e=>⟨Nat.le_refl _,?_⟩) fun i H' hi e=>⟨hi,fun v H2 y=>?_⟩⟩
  ·subst e
   refine ⟨D,_,rfl, .inl ⟨SqL.of zaf,fun l hl=>q _ l (Same.trans (Same.new hD) (Same.new hl)) ?_⟩⟩
   rw [zaf,List.take_of_length_le (by simp)]
  ·obtain ⟨rfl,c,hc,rfl⟩:=y
   subst e
   refine ⟨rfl,?_⟩
   have h2:x.cps.toList[i]? = some c:=by simpa using hc
   have hl:i<1000:=Nat.lt_of_lt_of_le hi hz
   simp only [tYes,if_true]
   refine ⟨_,rfl,_,rfl,rfl,_,zaf,?_,?_⟩
   ·simp [sizeLine];omega
   ·rw [zc9,zbe h2];simp
theorem zru {te:TE} {p:Addr} {b:Bytes} {Q:VK} {H:Hp} (pred:Int→Bool) (hp:H p=some (.tup (bV b))) (hz:b.length≤20000) (hte:∀ (σ2:St) (H':Hp) (c:Int) (Q':VK),σ2=[some (.ref p),some (.int c)]→Q' (.bl (pred c)) H'→te σ2 H' Q')
  (q:∀ D,H D=none→Q (.ref D) (upd H D (.lst ((b.map fun c=>pred c.toNat).map V.bl)))):tLc (iTup K (tVar 0)) (zke 1) tYes te [1] [some (.ref p),none] H Q:=by
 refine ⟨.ref p,rfl,p,rfl,⟨_,SqT.of hp⟩,fun D hD=>zoo (n:=b.length) (fun i H'=>H'=upd H D (.lst (((b.take i).map fun c=>pred c.toNat).map V.bl))) rfl (fun H' e=>⟨?_,?_⟩) fun i H' hi e=>⟨?_,fun v H2 y=>?_⟩⟩
 ·subst e
  exact ⟨_,SqT.of (by rw [zag (zaj hp hD)];exact hp),by simp⟩
 ·subst e
  rw [List.take_length]
  exact q D hD
 ·subst e
  exact ⟨_, .int (b[i].toNat),SqT.of (by rw [zag (zaj hp hD)];exact hp),znx (by simp [hi])⟩
 ·obtain ⟨rfl,y⟩:=y
  subst e
  have y:=y _ (SqT.of (by rw [zag (zaj hp hD)];exact hp))
  obtain ⟨c,hc,rfl⟩:=zt5 y
  refine ⟨rfl,?_⟩
  simp only [tYes,if_true]
  refine hte _ _ c.toNat _ rfl ⟨_,zaf,?_,?_⟩
  ·simp [sizeLine];omega
  ·rw [zc9,zbe hc];simp
theorem zy7 (c:UInt8):zd2 c.toNat=Tilt.isDigit c:=by
 simp only [zd2,Tilt.isDigit,UInt8.le_iff_toNat_le,show (48:UInt8).toNat=48 from rfl,show (57:UInt8).toNat=57 from rfl]
 congr 1<;>simp<;>omega
theorem zzd (c:UInt8):zeg c.toNat=Tilt.isSmall c:=by
 simp only [zeg,Tilt.isSmall,UInt8.le_iff_toNat_le,show (97:UInt8).toNat=97 from rfl,show (122:UInt8).toNat=122 from rfl]
 congr 1<;>simp<;>omega
theorem b_eq (c k:UInt8):decide ((c.toNat:Int)=(k.toNat:Int))=(c == k):=by
 by_cases h:c=k
 ·simp [h]
 ·have:¬((c.toNat:Int)=(k.toNat:Int)):=fun z=>h (UInt8.toNat_inj.mp (by omega))
  simp [h,this]
theorem zty {α:Type} {l:List α} {f g:α→Bool} (h:∀ x,f x=g x):(l.map f).all id=l.all g:=by
 induction l with
 | nil=>rfl
 | cons x r ih=>simp [ih,h]
theorem zqh {b:Bytes} (hb:b≠[]):(Tilt.numberOf b).isSome=(!(decide (1<b.length)&&(b.head? == some 48))&&b.all Tilt.isDigit):=by
 unfold Tilt.numberOf
 obtain ⟨c,r,rfl⟩:=List.exists_cons_of_ne_nil hb
 cases r with
 | nil=>cases h:(Tilt.isDigit c)<;>simp [h]
 | cons d t=>cases h:((c :: d :: t).all Tilt.isDigit)<;>by_cases h2:c=48<;>simp_all
theorem zox (tG:TG K mg) (d_is_digit:Dn P w K mg base CX0 "is_digit" ["byte"] 1 (spB zd2)) (F:FnK K mg "is_number" zd8) :
  Dn P w K mg base CX0 "is_number" ["word"] 2 (zi9 K):=by
 refine F.dn sc_is_number zn6 (fun vs H Q E h=>?_) (fun f cdv A outer s H vs Q E hr h=>?_)
 ·obtain ⟨p,b,rfl,_⟩:=h
  rfl
 ·obtain ⟨p,b,rfl,hp,hb,hz,q⟩:=h
  have hu:=za2 hr
  have hu64:=hr.units
  refine ⟨_,(zab (za5 (PW.pt (zko (zan zfm (za7 zav (by rfl) tG.b_len zcs (zaa (pv 0) zad)) zao (zam _)) (zi0 (zan zbg (zdy zzc (pv 0) zao (fun _ _=>rfl)) (zap tG.g_DIGIT_ZERO) (zam _))))) (zac (zar zei)) zaq)
   (zac (zar (za7 (zud rfl) (by rfl) tG.b_all zt6 (zaa (zyb rfl sc_is_number.nd (zsb (pv 0)) (zeq (own:=[("byte",1)]) rfl) (fun _ _ _ _ _=>zbp (i:=1) sc_is_number.nd rfl (Or.inl rfl)) (fun _ _ _ _ _=>zm6) (fun _ _ _ _ _=>(pe_d d_is_digit hr zaz (zaa (pv 1) zad)))) zad))))),?_⟩
  obtain ⟨c0,r0,hb0⟩ : ∃ c0 r0,b=c0 :: r0:=List.exists_cons_of_ne_nil hb
  have hq:SqT K H p (bV b):=SqT.of hp
  rw [zqh hb] at q
  have fin:(!(decide (1<b.length)&&(b.head? == some 48)))=true→tLc (iTup K (tVar 0)) (zke 1) tYes (zq8 (spB zd2) [] E0 (zdk (tVar 1) tNil)) [1] [some (.ref p),none] H fun x H2=>rAll K [x] H2 Q:=by
   intro e
   refine zru zd2 hp hz (fun σ2 H' c Q' e q=>by subst e;exact ⟨_,rfl,c,rfl,q⟩) fun D hD=>⟨D,_,rfl,SqL.of zaf,?_⟩
   rw [zty (g:=Tilt.isDigit) zy7]
   have q:=q _ (Same.new (o:=.lst ((b.map fun c=>zd2 c.toNat).map V.bl)) hD)
   rw [e,Bool.true_and] at q
   exact q
  refine ⟨_,rfl,p,_,rfl, .inr hq,_,_,rfl,rfl,_,rfl,?_⟩
  refine ite2 (fun h1=>?_) (fun h1=>?_)
  ·refine ⟨_,rfl,p,_,0, .int c0.toNat,rfl,rfl,hq,zh4 (j:=0) (by rw [hb0];rfl),rfl,_,rfl,?_⟩
   refine ite2 (fun h2=>?_) (fun h2=>?_)
   ·have q:=q H (Same.refl H)
    have e:c0=48:=by
     have h2:=of_decide_eq_true h2
     exact UInt8.toNat_inj.mp (by have:=V.int.inj h2;simp at this ⊢;omega)
    have h1:=of_decide_eq_true h1
    have e1:1<b.length:=by have h1:(1:Int)<(bV b).length:=h1;rw [zfc] at h1;omega
    have e2:b.head? = some 48:=by rw [hb0,e];rfl
    rw [decide_eq_true e1,e2] at q
    exact q
   ·exact fin (by
     have e:b.head? = some c0:=by rw [hb0];rfl
     have:¬c0=48:=fun z=>h2 (by rw [z];decide)
     rw [e];simp [this])
  ·exact fin (by
    have:¬1<b.length:=fun z=>h1 (by rw [zfc];exact decide_eq_true (by omega))
    simp [this])
theorem zAp {b:Bytes} (hb:b≠[]):Tilt.isName b=(!(decide (12<b.length) || !(b.head?.map Tilt.isSmall).getD false)&&b.all fun c=>Tilt.isSmall c || (Tilt.isDigit c || c == 95)):=by
 unfold Tilt.isName Tilt.NAME
 have h1:1≤b.length:=by cases b<;>simp_all
 by_cases h2:b.length≤12
 ·have h3:¬12<b.length:=by omega
  simp [h1,h2,h3,Bool.and_comm]
 ·have h3:12<b.length:=by omega
  simp [h2,h3]
theorem zs9 (tG:TG K mg) (d_is_letter:Dn P w K mg base CX0 "is_letter" ["byte"] 1 (spB zeg)) (d_is_digit:Dn P w K mg base CX0 "is_digit" ["byte"] 1 (spB zd2)) (F:FnK K mg "is_name" zfw) :
  Dn P w K mg base CX0 "is_name" ["word"] 2 (zj0 K):=by
 refine F.dn sc_is_name zsr (fun vs H Q E h=>?_) (fun f cdv A outer s H vs Q E hr h=>?_)
 ·obtain ⟨p,b,rfl,_⟩:=h
  rfl
 ·obtain ⟨p,b,rfl,hp,hb,q⟩:=h
  have hu:=za2 hr
  have hu64:=hr.units
  refine ⟨_,(zab (za5 (PW.pt (zpd (zan zfm (za7 zav (by rfl) tG.b_len zcs (zaa (pv 0) zad)) (zap tG.g_LONGEST_NAME) (zam _)) (zkp (ze5 (zct (pe_d d_is_letter hr zaz (zaa (zdy zzc (pv 0) zao (fun _ _=>rfl)) zad))))))) (zac (zar zei)) zaq)
   (zac (zar (za7 (zud rfl) (by rfl) tG.b_all zt6 (zaa (zyb rfl sc_is_name.nd (zsb (pv 0)) (zeq (own:=[("byte",1)]) rfl) (fun _ _ _ _ _=>zbp (i:=1) sc_is_name.nd rfl (Or.inl rfl)) (fun _ _ _ _ _=>zm6) (fun _ _ _ _ _=>(ztg (pe_d d_is_letter hr zaz (zaa (pv 1) zad)) (ztg (pe_d d_is_digit hr zaz (zaa (pv 1) zad)) (zje (zba zbg (pv 1) (zap tG.g_UNDERLINE) (zam _))))))) zad))))),?_⟩
  obtain ⟨c0,r0,hb0⟩ : ∃ c0 r0,b=c0 :: r0:=List.exists_cons_of_ne_nil hb
  have hq:SqT K H p (bV b):=SqT.of hp
  rw [zAp hb] at q
  have hh:(b.head?.map Tilt.isSmall).getD false=Tilt.isSmall c0:=by rw [hb0];rfl
  rw [hh] at q
  refine ⟨_,rfl,p,_,rfl, .inr hq,_,_,rfl,rfl,_,rfl,?_⟩
  refine ite2 (fun h1=>?_) (fun h1=>?_)
  ·have q:=q H (Same.refl H)
   have h1:=of_decide_eq_true h1
   have e1:12<b.length:=by have h1:(12:Int)<(bV b).length:=h1;rw [zfc] at h1;omega
   rw [decide_eq_true e1] at q
   exact iteT q
  ·have e1:¬12<b.length:=fun z=>h1 (by rw [zfc];exact decide_eq_true (by omega))
   rw [decide_eq_false e1,Bool.false_or,Bool.not_not] at q
   refine ⟨_,rfl,p,_,0, .int c0.toNat,rfl,rfl,hq,zh4 (j:=0) (by rw [hb0];rfl),c0.toNat,rfl,_,rfl,?_⟩
   rw [zzd]
   cases hl:Tilt.isSmall c0 with
   | false=>
    rw [hl] at q
    exact iteT (q H (Same.refl H))
   | true=>
    rw [hl,Bool.true_and] at q
    refine iteF ?_
    show tLc (iTup K (tVar 0)) (zke 1) tYes (tOrV (zq8 (spB zeg) [] E0 (zdk (tVar 1) tNil)) (tOrV (zq8 (spB zd2) [] E0 (zdk (tVar 1) tNil)) (tOp rEq (tVar 1) (tC (V.int 95))))) [1] [some (.ref p),none] H (fun x H2=>rAll K [x] H2 Q)
    refine zru (fun c=>zeg c || (zd2 c || decide (c=95))) hp (by omega) (fun σ2 H' c Q' e q=>?_) fun D hD=>⟨D,_,rfl,SqL.of zaf,?_⟩
    ·subst e
     refine ⟨_,rfl,c,rfl,_,rfl,?_⟩
     cases h2:zeg c with
     | true=>simp only [h2,Bool.true_or] at q;exact iteT q
     | false=>
      simp only [h2,Bool.false_or] at q
      refine iteF ⟨_,rfl,c,rfl,_,rfl,?_⟩
      cases h3:zd2 c with
      | true=>simp only [h3,Bool.true_or] at q;exact iteT q
      | false=>
       simp only [h3,Bool.false_or] at q
       refine iteF ⟨_,rfl,rfl,?_⟩
       rw [zas]
       exact q
    ·rw [zty (g:=fun c=>Tilt.isSmall c || (Tilt.isDigit c || c == 95)) (fun c=>by
      show (zeg c.toNat || (zd2 c.toNat || decide ((c.toNat:Int)=95)))=_
      rw [zzd,zy7,← b_eq c 95];rfl)]
     exact q _ (Same.new hD)
theorem zr5:∀ (b:Bytes) (n:Nat),b.all Tilt.isDigit=true→(bI b).foldl (fun a c=>a*10+c-48) (n:Int)=(b.foldl (fun (n:Nat) (c:UInt8)=>10*n+(c.toNat-48)) n:Nat)
 | [],n,_=>rfl
 | c :: r,n,h=>by
  simp only [List.all_cons,Bool.and_eq_true] at h
  have hc:48≤c.toNat:=by
   have h:=h.1
   simp only [Tilt.isDigit,UInt8.le_iff_toNat_le,Bool.and_eq_true,decide_eq_true_eq] at h
   exact h.1
  have e:(n:Int)*10+(c.toNat:Int)-48=((10*n+(c.toNat-48):Nat):Int):=by omega
  show (bI r).foldl _ ((n:Int)*10+(c.toNat:Int)-48)=_
  rw [e,zr5 r _ h.2]
  rfl
theorem zs7 {b:Bytes} {n:Nat} (h:Tilt.numberOf b=some n):b.all Tilt.isDigit=true∧(bI b).foldl (fun a c=>a*10+c-48) 0=(n:Int):=by
 unfold Tilt.numberOf at h
 split at h
 ·cases h
 ·rename_i hn
  have ha:b.all Tilt.isDigit=true:=by
   cases e:b.all Tilt.isDigit with
   | true=>rfl
   | false=>exact absurd (.inr (.inl e)) hn
  refine ⟨ha,?_⟩
  have:=zr5 b 0 ha
  rw [← Option.some.inj h]
  exact this
theorem zoy (tG:TG K mg) (F:FnK K mg "number_of" zd9) :
  Dn P w K mg base CX0 "number_of" ["word"] 1 (zja K):=by
 refine F.dn sc_number_of zn7 (fun vs H Q E h=>?_) (fun f cdv A outer s H vs Q E hr h=>?_)
 ·obtain ⟨p,b,n,rfl,_⟩:=h
  rfl
 ·obtain ⟨p,b,n,rfl,hp,hn,q⟩:=h
  have hu:=za2 hr
  have hu64:=hr.units
  refine ⟨_,(zab (zax (i:=1) sc_number_of.nd rfl (Or.inl rfl) zao)
   (zab (zd3 PassesOwn.never rfl (zsb (pv 0)) (zbp (i:=2) sc_number_of.nd rfl (Or.inl rfl))
    (zac (zax (i:=1) sc_number_of.nd rfl (Or.inl rfl) (zej zvm (zej ze4 (zej zvl (pv 1) zao) (pv 2)) (zap tG.g_DIGIT_ZERO)))))
   (zac (zar (pv 1))))),?_⟩
  obtain ⟨ha,hv⟩:=zs7 hn
  have hq:SqT K H p (bV b):=SqT.of hp
  refine ⟨.ref p,rfl,p,rfl,⟨_,hq⟩,zz4 (xs:=bV b) (fun i σ H'=>H'=H∧∃ y,σ=[some (.ref p),some (.int (((bI b).take i).foldl (fun a c=>a*10+c-48) 0)),y]) ⟨rfl,none,rfl⟩ (fun i σ H' _ h=>by rw [h.1];exact hq) (fun i x σ H' hx h=>?_) (fun σ H' h=>?_)⟩
  ·obtain ⟨rfl,y,rfl⟩:=h
   obtain ⟨c,hc,rfl⟩:=zt5 hx
   refine ⟨_,rfl,_,_,rfl,rfl, .inr ⟨by decide,by decide⟩,?_⟩
   refine ⟨_,rfl,_,_,rfl,rfl,_,_,rfl,rfl,rfl,some (.int c.toNat),?_⟩
   have e:(bI b)[i]? = some (c.toNat:Int):=by simp [bI,hc]
   rw [zbe e,List.foldl_append]
   rfl
  ·obtain ⟨rfl,y,rfl⟩:=h
   rw [List.take_of_length_le (by simp [bI]),hv]
   exact ⟨_,rfl,q⟩
end
end
section
inductive Rem (txt:Bytes) (e:Nat):Nat→List Tilt.Word→Prop
 | done {a:Nat}:e≤a→Rem txt e a []
 | cons {a:Nat} {w:Bytes} {l:List Tilt.Word}:w≠[]→(∀ c∈w,c≠32)→(txt.drop a).take w.length=w→a+w.length≤e→(a+w.length=e∨txt[a+w.length]? = some 32)→Rem txt e (a+w.length+1) l→Rem txt e a (⟨w,a⟩ :: l)
theorem Rem.more {txt:Bytes} {e a:Nat} {l:List Tilt.Word} (h:Rem txt e a l):decide ((a:Int)<(e:Int)) = !l.isEmpty:=by
 cases h with
 | done h=>simp;omega
 | cons h1 h2 h3 h4 h5 h6=>
  rename_i w l
  have:0<w.length:=List.length_pos_iff.mpr h1
  simp;omega
structure WS (K:W.Frag) (cW tr:Addr) (txt:Bytes) (H:Hp) (w:Addr) (l:List Tilt.Word) (e p:Nat):Prop where
 ob:∃ dx a,H w=some (.ins cW dx (za9 ⟨tr,(a:Nat),(e:Nat),(p:Nat)⟩))∧Rem txt e a l
 tx:H tr=some (.lst (bV txt))
 ne:tr≠w
 le:e≤txt.length
 sz:txt.length≤16384
theorem WS.keep {K:W.Frag} {cW tr:Addr} {txt:Bytes} {H H':Hp} {w:Addr} {l:List Tilt.Word} {e p:Nat} {S:Addr→Prop} (h:WS K cW tr txt H w l e p) (k:SameX S H H') (n1:¬S w) (n2:¬S tr):WS K cW tr txt H' w l e p:=by
 obtain ⟨dx,a,h1,h2⟩:=h.ob
 exact ⟨⟨dx,a,k _ _ n1 h1,h2⟩,k _ _ n2 h.tx,h.ne,h.le,h.sz⟩
theorem WS.same {K:W.Frag} {cW tr:Addr} {txt:Bytes} {H H':Hp} {w:Addr} {l:List Tilt.Word} {e p:Nat} (h:WS K cW tr txt H w l e p) (k:Same H H'):WS K cW tr txt H' w l e p:=h.keep (S:=fun _=>False) (SameX.of k) id id
def ErX (C:Addr) (E:XK) (S:Addr→Prop) (H:Hp) (f:Tilt.Fault):Prop:=∀ dx H',H' dx=some (xdO dx (fF f.kind f.place))→SameX S H H'→E (.ref C) (some dx) H'
theorem ErX.on {C:Addr} {E:XK} {S:Addr→Prop} {H H1:Hp} {f:Tilt.Fault} (h:ErX C E S H f) (s:SameX S H H1):ErX C E S H1 f:=fun dx H' e k=>h dx H' e (s.trans k)
theorem ErX.sub {C:Addr} {E:XK} {S S':Addr→Prop} {H:Hp} {f:Tilt.Fault} (h:ErX C E S H f) (s:∀ b,S' b→S b):ErX C E S' H f:=fun dx H' e k=>h dx H' e (k.mono s)
theorem ErX.rs {C:Addr} {E:XK} {S:Addr→Prop} {H:Hp} {f:Tilt.Fault} (h:ErX C E S H f):Rs C E f.kind f.place H:=fun dx H' e k=>h dx H' e (SameX.of k)
def Out {α:Type} (C:Addr) (E:XK) (S:Addr→Prop) (H:Hp) (r:Except Tilt.Fault α) (ok:α→Prop):Prop:=match r with
 | .ok a=>ok a
 | .error f=>ErX C E S H f
theorem Out.bind {α β:Type} {C:Addr} {E:XK} {S:Addr→Prop} {H:Hp} {r:Except Tilt.Fault α} {g:α→Except Tilt.Fault β} {ok:β→Prop} (h:Out C E S H (r >>= g) ok):Out C E S H r (fun a=>Out C E S H (g a) ok):=by
 cases r with
 | ok a=>exact h
 | error f=>exact h
theorem Out.mono {α:Type} {C:Addr} {E:XK} {S S':Addr→Prop} {H H1:Hp} {r:Except Tilt.Fault α} {ok ok':α→Prop} (h:Out C E S H r ok) (s:SameX S H H1) (t:∀ b,S' b→S b) (k:∀ a,r = .ok a→ok a→ok' a):Out C E S' H1 r ok':=by
 cases r with
 | ok a=>exact k a rfl h
 | error f=>exact (ErX.on h s).sub t
def only (w:Addr):Addr→Prop:=fun b=>b=w
section
variable {cW cF:Addr}
def zq6 (cW:Addr):Sp:=fun vs H Q _=>E5 fun p dx tr a e=>A3 (vs=[.ref p, .ref tr, .int a, .int e]) (H p=some (.ins cW dx [])) (Q .non (upd H p (.ins cW dx (za9 ⟨tr,a,e,a⟩))))
def zjh (K:W.Frag) (cW:Addr):Sp:=fun vs H Q _=>E6 fun w tr txt l e p=>A3 (vs=[.ref w]) (WS K cW tr txt H w l e p) (Q (.bl (!l.isEmpty)) H)
def zji (K:W.Frag) (cW cF:Addr):Sp:=fun vs H Q E=>E6 fun w tr txt l e p=>A3 (vs=[.ref w]) (WS K cW tr txt H w l e p) (Out cF E (only w) H (Tilt.next e l) fun x=>
 ∀ H' t,WS K cW tr txt H' w x.2 e x.1.at_→H' t=some (.tup (bV x.1.w))→SameX (only w) H H'→x.1.w≠[]→x.1.w.length≤16384→Q (.ref t) H')
def zc8 (K:W.Frag) (cW cF:Addr):Sp:=fun vs H Q E=>E8 fun w tr txt l e p r k=>A3 (vs=[.ref w, .bl r, .int (k:Nat)]) (WS K cW tr txt H w l e p) (Out cF E (only w) H (Tilt.holds r k p) fun _=>Q .non H)
def znk (K:W.Frag) (cW cF:Addr):Sp:=fun vs H Q E=>E6 fun w tr txt l e p=>A3 (vs=[.ref w]) (WS K cW tr txt H w l e p) (Out cF E (only w) H (Tilt.closed l) fun _=>Q .non H)
abbrev zcn:Stmt:=zaw (top 54) 0
theorem zi6:zai ["self","text","start","end"] ["self","text","start","end"] (zae zcn):=by walk_at "sc"
theorem zib:zak zcn "__init__" "Words.__init__" ["self","text","start","end"]:=fun _ _ _ _ _ _ us hl=>match us,hl with | [_,_,_,_],_=>rfl
abbrev zdq:Stmt:=zaw (top 54) 1
theorem zna:zai ["self"] ["self"] (zae zdq):=by walk_at "sc"
theorem zl9:zak zdq "more" "Words.more" ["self"]:=fun _ _ _ _ _ _ us hl=>match us,hl with | [_],_=>rfl
abbrev zdr:Stmt:=zaw (top 54) 2
theorem sc_Words_take:zai ["self","behind"] ["self"] (zae zdr):=by walk_at "sc"
theorem zma:zak zdr "take" "Words.take" ["self"]:=fun _ _ _ _ _ _ us hl=>match us,hl with | [_],_=>rfl
abbrev zdd:Stmt:=zaw (top 54) 3
theorem zln:zai ["self","right","kind"] ["self","right","kind"] (zae zdd):=by walk_at "sc"
theorem zk6:zak zdd "check" "Words.check" ["self","right","kind"]:=fun _ _ _ _ _ _ us hl=>match us,hl with | [_,_,_],_=>rfl
abbrev zbr:Stmt:=zaw (top 54) 11
theorem zgb:zai ["self"] ["self"] (zae zbr):=by walk_at "sc"
theorem zf2:zak zbr "check_ended" "Words.check_ended" ["self"]:=fun _ _ _ _ _ _ us hl=>match us,hl with | [_],_=>rfl
theorem ziv (tG:TG K mg) (tWords:zb9 K cW) (F:InK K mg cW "Words" "Words.__init__" zcn) :
  Id P w K mg base CX0 cW "Words" ["self","text","start","end"] 1 (zq6 cW):=by
 refine F.id zi6 zib (fun vs H Q E h=>?_) (fun f cdv A outer s H vs Q E hr h=>?_)
 ·obtain ⟨p,dx,tr,a,e,rfl,_⟩:=h
  rfl
 ·obtain ⟨p,dx,tr,a,e,rfl,hp,q⟩:=h
  have hu:=za2 hr
  have hu64:=hr.units
  refine ⟨_,(zab (zau (pv 0) (pv 1) rfl)
   (zab (zau (pv 0) (pv 2) rfl)
   (zab (zau (pv 0) (pv 3) rfl)
   (zac (zau (pv 0) (pv 2) rfl))))),?_⟩
  have f_tWords_cl:=tWords.cl
  have f_tWords_n_text:=tWords.n_text
  have f_tWords_n_at:=tWords.n_at
  have f_tWords_n_end:=tWords.n_end
  have f_tWords_n_place:=tWords.n_place
  walk_at "rd"
  simp (decide:=true) [putF]
  exact q
theorem zmz (tG:TG K mg) (tWords:zb9 K cW) (F:MtK K cW "more" "Words.more" zdq) :
  Md P w K mg base CX0 cW "more" ["self"] 1 (zjh K cW):=by
 refine F.md zna zl9 (fun vs H Q E h=>?_) (fun f cdv A outer s H vs Q E hr h=>?_)
 ·obtain ⟨p,tr,txt,l,e,p,rfl,_⟩:=h
  rfl
 ·obtain ⟨p,tr,txt,l,e,pl,rfl,hw,q⟩:=h
  have hu:=za2 hr
  have hu64:=hr.units
  refine ⟨_,(zac (zar (zba ziz (zah (pv 0) rfl) (zah (pv 0) rfl) (zam _)))),?_⟩
  have f_tWords_cl:=tWords.cl
  have f_tWords_n_at:=tWords.n_at
  have f_tWords_n_end:=tWords.n_end
  obtain ⟨dx,a,ho,hr'⟩:=hw.ob
  rw [← hr'.more] at q
  walk_at "rd"
  simpa using q
theorem zlg (tG:TG K mg) (tWords:zb9 K cW) (tF:TF P w K mg base cF) (F:MtK K cW "check" "Words.check" zdd) :
  Md P w K mg base (CXF P w cF) cW "check" ["self","right","kind"] 3 (zc8 K cW cF):=by
 refine F.mdF zln zk6 (fun vs H Q E h=>?_) (fun f cdv A outer s H vs Q E hr h=>?_)
 ·obtain ⟨p,tr,txt,l,e,pl,r,k,rfl,_⟩:=h
  rfl
 ·obtain ⟨p,tr,txt,l,e,pl,r,k,rfl,hw,q⟩:=h
  have hu:=za2 hr
  have hu64:=hr.units
  refine ⟨_,(zac (za5 (ze5 (zct (pv 1))) (zac (zdj tF hr (zaa (pv 2) (zaa (zah (pv 0) rfl) zad)))) zaq)),?_⟩
  have f_tWords_cl:=tWords.cl
  have f_tWords_n_place:=tWords.n_place
  obtain ⟨dx,a,ho,hr'⟩:=hw.ob
  cases r with
  | true=>exact ⟨_,rfl,_,rfl,iteF q⟩
  | false=>
   have q:ErX cF E (only p) H ⟨k,pl⟩:=q
   exact ⟨_,rfl,_,rfl,iteT ⟨_,rfl,_,rfl,p,_,_,_,_,rfl,ho,f_tWords_cl,f_tWords_n_place,rfl,_,_,rfl,q.rs⟩⟩
theorem zf7 (tG:TG K mg) (tWords:zb9 K cW) (m_Words_more:Md P w K mg base CX0 cW "more" ["self"] 1 (zjh K cW)) (tF:TF P w K mg base cF) (F:MtK K cW "check_ended" "Words.check_ended" zbr) :
  Md P w K mg base (CXF P w cF) cW "check_ended" ["self"] 3 (znk K cW cF):=by
 refine F.mdF zgb zf2 (fun vs H Q E h=>?_) (fun f cdv A outer s H vs Q E hr h=>?_)
 ·obtain ⟨p,tr,txt,l,e,pl,rfl,_⟩:=h
  rfl
 ·obtain ⟨p,tr,txt,l,e,pl,rfl,hw,q⟩:=h
  have hu:=za2 hr
  have hu64:=hr.units
  refine ⟨_,(zac (za5 (zct (zbk m_Words_more tWords.cl hr zaz (pv 0))) (zac (zdj tF hr (zaa (zap tG.g_WRONG_WORD) (zaa (zah (pv 0) rfl) zad)))) zaq)),?_⟩
  have f_tWords_cl:=tWords.cl
  have f_tWords_n_at:=tWords.n_at
  obtain ⟨dx,a,ho,hr'⟩:=hw.ob
  refine ⟨_,rfl,p,_,_,rfl,ho,rfl,p,tr,txt,l,e,pl,rfl,hw,_,rfl,?_⟩
  cases hr' with
  | done _=>exact iteF q
  | cons h1 h2 h3 h4 h5 h6=>
   rename_i wd l
   have q:ErX cF E (only p) H ⟨3,a⟩:=q
   exact iteT ⟨_,rfl,p,_,_,_,_,rfl,ho,f_tWords_cl,f_tWords_n_at,rfl,_,_,rfl,q.rs⟩
theorem zDa {txt w:Bytes} {a i:Nat} (h:(txt.drop a).take w.length=w) (hi:i<w.length):txt[a+i]? = w[i]? := by
 have e:=congrArg (fun l=>l[i]?) h
 simp only [List.getElem?_take,if_pos hi,List.getElem?_drop] at e
 exact e
theorem zxb {txt w:Bytes} {a:Nat} (h:(txt.drop a).take w.length=w) (hl:a+w.length≤txt.length):cutV (bV txt) (some (a:Int)) (some ((a+w.length:Nat):Int))=bV w:=by
 unfold cutV
 rw [HT.sIx_nat,HT.sIx_nat,zfc,Nat.min_eq_left hl,Nat.min_eq_left (by omega),Nat.add_sub_cancel_left]
 rw [show bV txt=txt.map (fun c=>V.int c.toNat) by simp [bV,bI,Function.comp_def],← List.map_drop,← List.map_take,h]
 simp [bV,bI,Function.comp_def]
theorem zm0 (tG:TG K mg) (tWords:zb9 K cW) (m_Words_more:Md P w K mg base CX0 cW "more" ["self"] 1 (zjh K cW)) (tF:TF P w K mg base cF) (F:MtK K cW "take" "Words.take" zdr) :
  Md P w K mg base (CXF P w cF) cW "take" ["self"] 3 (zji K cW cF):=by
 refine F.mdF sc_Words_take zma (fun vs H Q E h=>?_) (fun f cdv A outer s H vs Q E hr h=>?_)
 ·obtain ⟨p,tr,txt,l,e,pl,rfl,_⟩:=h
  rfl
 ·obtain ⟨p,tr,txt,l,e,pl,rfl,hw,q⟩:=h
  have hu:=za2 hr
  have hu64:=hr.units
  refine ⟨_,(zab (za5 (ze5 (zct (zbk m_Words_more tWords.cl hr zaz (pv 0)))) (zac (zdj tF hr (zaa (zap tG.g_WRONG_WORD) (zaa (zah (pv 0) rfl) zad)))) zaq)
   (zab (zau (pv 0) (zah (pv 0) rfl) rfl)
   (zab (zax (i:=1) sc_Words_take.nd rfl (Or.inl rfl) (zah (pv 0) rfl))
   (zab (zhx PassesOwn.leaving (PW.pt (zko (zan ziz (pv 1) (zah (pv 0) rfl) (zam _)) (zi0 (zan zqm (zdy zbu (zah (pv 0) rfl) (pv 1) (fun _ _=>rfl)) (zap tG.g_BLANK) (zam _)))))
    (zac (zsd (i:=1) sc_Words_take.nd rfl (Or.inl rfl) zao zrs)))
   (zab (zau (pv 0) (zej ze4 (pv 1) zao) rfl)
   (zac (zar (zfn zhe (by rfl) tG.b_tuple zrg (zaa (zhu znd (zah (pv 0) rfl) (zfo (zah (pv 0) rfl)) (zfo (pv 1))) zad))))))))),?_⟩
  have f_tWords_cl:=tWords.cl
  have f_tWords_n_end:=tWords.n_end
  have f_tWords_n_place:=tWords.n_place
  have f_tWords_n_at:=tWords.n_at
  have f_tWords_n_text:=tWords.n_text
  obtain ⟨dx,a,ho,hr'⟩:=hw.ob
  refine ⟨_,rfl,p,_,_,rfl,ho,rfl,p,tr,txt,l,e,pl,rfl,hw,_,rfl,?_⟩
  cases hr' with
  | done _=>
   have q:ErX cF E (only p) H ⟨3,e⟩:=q
   exact iteT ⟨_,rfl,p,_,_,_,_,rfl,ho,f_tWords_cl,f_tWords_n_end,rfl,_,_,rfl,q.rs⟩
  | cons h1 h2 h3 h4 h5 h6=>
   rename_i wd l
   refine iteF ⟨_,rfl,p,_,_,_,_,rfl,ho,f_tWords_cl,f_tWords_n_at,rfl,_,rfl,p,_,_,_,rfl,ho,f_tWords_cl,f_tWords_n_place,(by show 4<1000;decide),?_⟩
   have pf:putF "place" (.int a) (za9 ⟨tr,(a:Nat),(e:Nat),(pl:Nat)⟩)=za9 ⟨tr,(a:Nat),(e:Nat),(a:Nat)⟩:=rfl
   rw [show (V.int (a:Int))=V.int a from rfl,pf]
   generalize hH1:upd H p (.ins cW dx (za9 ⟨tr,(a:Nat),(e:Nat),(a:Nat)⟩))=H1
   have ho1:H1 p=some (.ins cW dx (za9 ⟨tr,(a:Nat),(e:Nat),(a:Nat)⟩)):=by rw [← hH1,zaf]
   have hx1:H1 tr=some (.lst (bV txt)):=by rw [← hH1,zag hw.ne];exact hw.tx
   have ht1:SqL K H1 tr (bV txt):=SqL.of hx1
   refine ⟨_,rfl,p,_,_,_,_,rfl,ho1,f_tWords_cl,f_tWords_n_at,rfl,?_⟩
   refine ⟨fun m σ H'=>H'=H1∧∃ i:Nat,i≤wd.length∧m=wd.length-i∧σ=[some (.ref p),some (.int ((a+i:Nat):Int))],⟨_,rfl,0,Nat.zero_le _,rfl,rfl⟩,fun m σ H' hi=>?_⟩
   obtain ⟨rfl,i,hi,rfl,rfl⟩:=hi
   refine ⟨_,rfl,_,rfl,p,_,_,_,_,rfl,ho1,f_tWords_cl,f_tWords_n_end,rfl,_,_,rfl,rfl,_,rfl,?_⟩
   have fin:i=wd.length→(tSeq (sFld K (tVar 0) (tOp (rI0 fun i j=>.int (i+j)) (tVar 1) (tC (.int 1))) "at") (tRet (tCB (fun xs H Q=>∃ p ys,xs=[.ref p]∧((SqL K H p ys∧∀ l,H l=none→Q (.ref l) (upd H l (.tup ys)))∨(SqT K H p ys∧Q (.ref p) H))) (zdk (tSl (rSlL K) (tFld K (tVar 0) "text") (zwp (tFld K (tVar 0) "place")) (zwp (tVar 1))) tNil)))) { nx:=fun _ H'=>Q .non H',rt:=Q } [some (.ref p),some (.int ((a+i:Nat):Int))] H':=by
    intro hi
    subst hi
    refine ⟨_,rfl,_,_,rfl,rfl,_,rfl,p,_,_,_,rfl,ho1,f_tWords_cl,f_tWords_n_at,(by show 4<1000;decide),?_⟩
    have pf:putF "at" (.int ((a+wd.length:Nat)+1)) (za9 ⟨tr,(a:Nat),(e:Nat),(a:Nat)⟩)=za9 ⟨tr,((a+wd.length+1:Nat):Int),(e:Nat),(a:Nat)⟩:=rfl
    rw [pf]
    generalize hH2:upd H' p (.ins cW dx (za9 ⟨tr,((a+wd.length+1:Nat):Int),(e:Nat),(a:Nat)⟩))=H2
    have ho2:H2 p=some (.ins cW dx (za9 ⟨tr,((a+wd.length+1:Nat):Int),(e:Nat),(a:Nat)⟩)):=by rw [← hH2,zaf]
    have hx2:H2 tr=some (.lst (bV txt)):=by rw [← hH2,zag hw.ne];exact hx1
    have ht2:SqL K H2 tr (bV txt):=SqL.of hx2
    refine ⟨_,rfl,p,_,_,_,_,rfl,ho2,f_tWords_cl,f_tWords_n_text,rfl,_,rfl,p,_,_,_,_,rfl,ho2,f_tWords_cl,f_tWords_n_place,rfl,_,rfl,_,rfl,_,rfl,tr,_,rfl,ht2,fun D hD=>?_⟩
    rw [zxb h3 (Nat.le_trans h4 hw.le)]
    refine ⟨D,_,rfl, .inl ⟨SqL.of zaf,fun t ht=>?_⟩⟩
    have sx:SameX (only p) H H2:=by rw [← hH2,← hH1];exact (SameX.put (S:=only p) rfl).trans (SameX.put (S:=only p) rfl)
    have s2:Same H2 (upd (upd H2 D (.lst (bV wd))) t (.tup (bV wd))):=Same.trans (Same.new hD) (Same.new ht)
    have ws2:WS K cW tr txt H2 p l e a:=⟨⟨dx,_,ho2,h6⟩,hx2,hw.ne,hw.le,hw.sz⟩
    exact q _ t (ws2.same s2) zaf (sx.trans (SameX.of s2)) h1 (by have:=hw.le;have:=hw.sz;show wd.length≤16384;omega)
   refine ite2 (fun b1=>?_) (fun b1=>?_)
   ·have b1:a+i<e:=by have:((a+i:Nat):Int)<(e:Int):=of_decide_eq_true b1;omega
    obtain ⟨c,hc⟩ : ∃ c,txt[a+i]? = some c:=⟨_,List.getElem?_eq_getElem (by have:=hw.le;omega)⟩
    refine ⟨_,rfl,p,_,_,_,_,rfl,ho1,f_tWords_cl,f_tWords_n_text,rfl,_,rfl,tr,_,_, .int c.toNat,rfl,rfl,ht1,zh4 (znx hc),rfl,_,rfl,?_⟩
    rw [zas]
    refine ite2 (fun b2=>?_) (fun b2=>?_)
    ·have b2:¬c=32:=fun z=>by subst z;simp at b2
     have b3:i<wd.length:=by
      rcases Nat.lt_or_ge i wd.length with z | z
      ·exact z
      ·have:i=wd.length:=by omega
       subst this
       rcases h5 with h5 | h5
       ·omega
       ·rw [hc] at h5;exact absurd (Option.some.inj h5) b2
     exact ⟨_,fun _ _ h=>h,_,rfl,_,_,rfl,rfl,wd.length-(i+1),by omega,rfl,i+1,b3,rfl,by simp;omega⟩
    ·have b2:c=32:=by
      have b2:¬(!decide ((c.toNat:Int)=32))=true:=b2
      have:(c.toNat:Int)=32:=by simpa using b2
      exact UInt8.toNat_inj.mp (by simp;omega)
     refine fin ?_
     rcases Nat.lt_or_ge i wd.length with z | z
     ·have e1:=zDa h3 z
      rw [hc,b2] at e1
      exact absurd rfl (h2 32 (List.mem_of_getElem? e1.symm))
     ·omega
   ·refine fin ?_
    have b1:¬(a+i<e):=fun z=>b1 (decide_eq_true (show ((a+i:Nat):Int)<(e:Int) by omega))
    omega
end
end
section
def zos (e:Nat) (l:List Tilt.Word):Except Tilt.Fault (Tilt.Word×List Tilt.Word):=do
 let x ← Tilt.next e l
 if Tilt.isName x.1.w=false then .error ⟨4,x.1.at_⟩ else return x
def newR (e:Nat) (had:List Bytes) (bb:Bytes) (l:List Tilt.Word):Except Tilt.Fault (Tilt.Word×List Tilt.Word):=do
 let x ← zos e l
 if x.1.w=bb then .error ⟨4,x.1.at_⟩ else if had.contains x.1.w=true then .error ⟨5,x.1.at_⟩ else return x
def kn (had:List Bytes) (b:Bytes) (p:Nat):Except Tilt.Fault Unit:=if Tilt.isName b=false then .error ⟨4,p⟩ else if had.contains b=false then .error ⟨6,p⟩ else .ok ()
def zfj (e:Nat) (had:List Bytes) (l:List Tilt.Word):Except Tilt.Fault (Tilt.Word×List Tilt.Word):=do
 let x ← Tilt.next e l
 let _ ← kn had x.1.w x.1.at_
 return x
def DN (H:Hp) (d:Addr) (had:List Bytes):Prop:=∃ kvs,H d=some (.dT kvs)∧∀ b,(valV kvs (bK b)).isSome=had.contains b
theorem DN.keep {S:Addr→Prop} {H H':Hp} {d:Addr} {had:List Bytes} (h:DN H d had) (k:SameX S H H') (n:¬S d):DN H' d had:=by
 obtain ⟨kvs,h1,h2⟩:=h
 exact ⟨kvs,k _ _ n h1,h2⟩
theorem DN.get {H:Hp} {d t:Addr} {had:List Bytes} {b:Bytes} (h:DN H d had) (ht:H t=some (.tup (bV b))):∃ o,DGet H d (.ref t) o∧o.isSome=had.contains b:=by
 obtain ⟨kvs,h1,h2⟩:=h
 exact ⟨_,DGet.t h1 (k:=bK b) (by rw [bK_V];exact ht),h2 b⟩
theorem DN.ne {K:W.Frag} {cW tr:Addr} {txt:Bytes} {H:Hp} {w d:Addr} {l:List Tilt.Word} {e p:Nat} {had:List Bytes} (h:DN H d had) (k:WS K cW tr txt H w l e p):¬only w d:=fun z=>by
 obtain ⟨kvs,h1,h2⟩:=h
 obtain ⟨dx,a,h3,_⟩:=k.ob
 unfold only at z
 rw [z,h3] at h1
 cases h1
def Sp' (x:Str) (b:Bytes):Prop:=x.cps.size≤1000∧(x.cps.toList.map fun (c:Nat)=>V.int c)=bV b
section
variable {cW cF:Addr}
def zfq (K:W.Frag) (cW cF:Addr):Sp:=fun vs H Q E=>E8 fun w tr txt l e p x b=>A4 (vs=[.ref w, .str x]) (WS K cW tr txt H w l e p) (Sp' x (Tilt.ascii b)) (Out cF E (only w) H (Tilt.must e b l) fun r=>
 ∀ H' p',WS K cW tr txt H' w r e p'→SameX (only w) H H'→Q .non H')
def zey (K:W.Frag) (cW cF:Addr):Sp:=fun vs H Q E=>E8 fun w tr txt l e p lo hi=>A3 (vs=[.ref w, .int (lo:Nat), .int (hi:Nat)]) (WS K cW tr txt H w l e p) (Out cF E (only w) H (Tilt.number e lo hi l) fun r=>
 ∀ H',WS K cW tr txt H' w r.2 e r.1.2→SameX (only w) H H'→Q (.int (r.1.1:Nat)) H')
def zkv (K:W.Frag) (cW cF:Addr):Sp:=fun vs H Q E=>E8 fun w tr txt l e p hi bf=>∃ had,A4 (vs=[.ref w, .int (hi:Nat), .int bf]) (WS K cW tr txt H w l e p) ((∀ n:Nat,(had.all fun p=>decide (p<n))=decide (bf<(n:Int)))) (Out cF E (only w) H (Tilt.place e hi had l) fun r=>
 ∀ H' p',WS K cW tr txt H' w r.2 e p'→SameX (only w) H H'→Q (.int (r.1:Nat)) H')
def zsi (K:W.Frag) (cW cF:Addr):Sp:=fun vs H Q E=>E6 fun w tr txt l e p=>A3 (vs=[.ref w]) (WS K cW tr txt H w l e p) (Out cF E (only w) H (zos e l) fun x=>
 ∀ H' t,WS K cW tr txt H' w x.2 e x.1.at_→H' t=some (.tup (bV x.1.w))→SameX (only w) H H'→Q (.ref t) H')
def ztn (K:W.Frag) (cW cF:Addr):Sp:=fun vs H Q E=>E8 fun w tr txt l e p d x=>E2 fun bb had=>A5 (vs=[.ref w, .ref d, .str x]) (WS K cW tr txt H w l e p) (DN H d had) (Sp' x bb) (Out cF E (only w) H (newR e had bb l) fun x=>
 ∀ H' t p',WS K cW tr txt H' w x.2 e p'→H' t=some (.tup (bV x.1.w))→SameX (only w) H H'→Q (.ref t) H')
def znm (K:W.Frag) (cW cF:Addr):Sp:=fun vs H Q E=>E8 fun w tr txt l e p d had=>A4 (vs=[.ref w, .ref d]) (WS K cW tr txt H w l e p) (DN H d had) (Out cF E (only w) H (zfj e had l) fun x=>
 ∀ H' t,WS K cW tr txt H' w x.2 e x.1.at_→H' t=some (.tup (bV x.1.w))→SameX (only w) H H'→Q (.ref t) H')
def zd4 (K:W.Frag) (cW cF:Addr):Sp:=fun vs H Q E=>E8 fun w tr txt l e p d had=>E2 fun t b=>A6 (vs=[.ref w, .ref t, .ref d]) (WS K cW tr txt H w l e p) (DN H d had) (H t=some (.tup (bV b))) (b≠[]) (Out cF E (only w) H (kn had b p) fun _=>
 ∀ H',Same H H'→Q .non H')
abbrev zbz:Stmt:=zaw (top 54) 4
theorem zg4:zai ["self","word"] ["self","word"] (zae zbz):=by walk_at "sc"
theorem zgj:zak zbz "take_fixed" "Words.take_fixed" ["self","word"]:=fun _ _ _ _ _ _ us hl=>match us,hl with | [_,_],_=>rfl
abbrev zbt:Stmt:=zaw (top 54) 5
theorem sc_Words_take_number:zai ["self","least","most","word","number"] ["self","least","most"] (zae zbt):=by walk_at "sc"
theorem zf4:zak zbt "take_number" "Words.take_number" ["self","least","most"]:=fun _ _ _ _ _ _ us hl=>match us,hl with | [_,_,_],_=>rfl
abbrev zb0:Stmt:=zaw (top 54) 6
theorem sc_Words_take_place:zai ["self","most","before","place"] ["self","most","before"] (zae zb0):=by walk_at "sc"
theorem zgk:zak zb0 "take_place" "Words.take_place" ["self","most","before"]:=fun _ _ _ _ _ _ us hl=>match us,hl with | [_,_,_],_=>rfl
abbrev zcg:Stmt:=zaw (top 54) 7
theorem sc_Words_take_name:zai ["self","name"] ["self"] (zae zcg):=by walk_at "sc"
theorem zhc:zak zcg "take_name" "Words.take_name" ["self"]:=fun _ _ _ _ _ _ us hl=>match us,hl with | [_],_=>rfl
abbrev zbj:Stmt:=zaw (top 54) 8
theorem sc_Words_take_new_name:zai ["self","names","barred","name"] ["self","names","barred"] (zae zbj):=by walk_at "sc"
theorem ze8:zak zbj "take_new_name" "Words.take_new_name" ["self","names","barred"]:=fun _ _ _ _ _ _ us hl=>match us,hl with | [_,_,_],_=>rfl
abbrev zbf:Stmt:=zaw (top 54) 9
theorem sc_Words_take_known_name:zai ["self","names","name"] ["self","names"] (zae zbf):=by walk_at "sc"
theorem zek:zak zbf "take_known_name" "Words.take_known_name" ["self","names"]:=fun _ _ _ _ _ _ us hl=>match us,hl with | [_,_],_=>rfl
abbrev zbs:Stmt:=zaw (top 54) 10
theorem zgc:zai ["self","word","names"] ["self","word","names"] (zae zbs):=by walk_at "sc"
theorem zf3:zak zbs "check_known" "Words.check_known" ["self","word","names"]:=fun _ _ _ _ _ _ us hl=>match us,hl with | [_,_,_],_=>rfl
theorem zgw (tG:TG K mg) (tWords:zb9 K cW) (m_Words_check:Md P w K mg base (CXF P w cF) cW "check" ["self","right","kind"] 3 (zc8 K cW cF)) (m_Words_take:Md P w K mg base (CXF P w cF) cW "take" ["self"] 3 (zji K cW cF)) (d_spelled:Dn P w K mg base CX0 "spelled" ["word"] 1 (zdw)) (F:MtK K cW "take_fixed" "Words.take_fixed" zbz) :
  Md P w K mg base (CXF P w cF) cW "take_fixed" ["self","word"] 4 (zfq K cW cF):=by
 refine F.mdF zg4 zgj (fun vs H Q E h=>?_) (fun f cdv A outer s H vs Q E hr h=>?_)
 ·obtain ⟨p,tr,txt,l,e,pl,x,b,rfl,_⟩:=h
  rfl
 ·obtain ⟨p,tr,txt,l,e,pl,x,b,rfl,hw,⟨hx,hx2⟩,q⟩:=h
  have hu:=za2 hr
  have hu64:=hr.units
  refine ⟨_,(zac (zal (pe_m m_Words_check tWords.cl hr za0 (pv 0) (zaa (zba (zvj hu64) (zbk m_Words_take tWords.cl hr za0 (pv 0)) (pe_d d_spelled hr zaz (zaa (pv 1) zad)) (zam _)) (zaa (zap tG.g_WRONG_WORD) zad))))),?_⟩
  have f_tWords_cl:=tWords.cl
  obtain ⟨dx,a,ho,hr'⟩:=hw.ob
  refine ⟨_,rfl,p,_,_,rfl,ho,rfl,_,rfl,p,_,_,rfl,ho,rfl,p,tr,txt,l,e,pl,rfl,hw,?_⟩
  cases l with
  | nil=>exact q
  | cons y r=>
   intro H' t h1 h2 h3 h4 h5
   refine ⟨_,rfl,x,rfl,hx,fun H2 s hs h6=>⟨t,s,bI y.w,bI (Tilt.ascii b),rfl,rfl,SqT.of (hs _ _ h2),SqT.of (by rw [h6,hx2];rfl),p,tr,txt,r,e,y.at_,_,3,rfl,h1.same hs,?_⟩⟩
   rw [zrf]
   have q:Out cF E (only p) H (if y.w=Tilt.ascii b then .ok r else .error ⟨3,y.at_⟩) _:=q
   have sx:SameX (only p) H H2:=h3.trans (SameX.of hs)
   by_cases hy:y.w=Tilt.ascii b
   ·rw [if_pos hy] at q
    rw [decide_eq_true hy]
    exact q H2 _ (h1.same hs) sx
   ·rw [if_neg hy] at q
    rw [decide_eq_false hy]
    exact ErX.on q sx
theorem zf9 (tG:TG K mg) (tWords:zb9 K cW) (m_Words_take:Md P w K mg base (CXF P w cF) cW "take" ["self"] 3 (zji K cW cF)) (m_Words_check:Md P w K mg base (CXF P w cF) cW "check" ["self","right","kind"] 3 (zc8 K cW cF)) (d_is_number:Dn P w K mg base CX0 "is_number" ["word"] 2 (zi9 K)) (d_number_of:Dn P w K mg base CX0 "number_of" ["word"] 1 (zja K)) (F:MtK K cW "take_number" "Words.take_number" zbt) :
  Md P w K mg base (CXF P w cF) cW "take_number" ["self","least","most"] 4 (zey K cW cF):=by
 refine F.mdF sc_Words_take_number zf4 (fun vs H Q E h=>?_) (fun f cdv A outer s H vs Q E hr h=>?_)
 ·obtain ⟨p,tr,txt,l,e,pl,lo,hi,rfl,_⟩:=h
  rfl
 ·obtain ⟨p,tr,txt,l,e,pl,lo,hi,rfl,hw,q⟩:=h
  have hu:=za2 hr
  have hu64:=hr.units
  refine ⟨_,(zab (zax (i:=3) sc_Words_take_number.nd rfl (Or.inl rfl) (zbk m_Words_take tWords.cl hr za0 (pv 0)))
   (zab (zal (pe_m m_Words_check tWords.cl hr za0 (pv 0) (zaa (pe_d d_is_number hr zaz (zaa (pv 3) zad)) (zaa (zap tG.g_WRONG_FORM) zad))))
   (zab (zax (i:=4) sc_Words_take_number.nd rfl (Or.inl rfl) (pe_d d_number_of hr zaz (zaa (pv 3) zad)))
   (zab (zal (pe_m m_Words_check tWords.cl hr za0 (pv 0) (zaa (zht zju zju (pv 1) (pv 4) (pv 2)) (zaa (zap tG.g_WRONG_FORM) zad))))
   (zac (zar (pv 4))))))),?_⟩
  have f_tWords_cl:=tWords.cl
  obtain ⟨dx,a,ho,hr'⟩:=hw.ob
  refine ⟨_,rfl,p,_,_,rfl,ho,rfl,p,tr,txt,l,e,pl,rfl,hw,?_⟩
  cases l with
  | nil=>exact q
  | cons y r=>
   intro H' t h1 h2 h3 h4 h5
   obtain ⟨dx1,a1,ho1,_⟩:=h1.ob
   refine ⟨_,rfl,p,_,_,rfl,ho1,rfl,_,rfl,t,y.w,rfl,h2,h4,Nat.le_trans h5 (by decide),fun H2 hs=>?_⟩
   have sx:SameX (only p) H H2:=h3.trans (SameX.of hs)
   refine ⟨p,tr,txt,r,e,y.at_,_,4,rfl,h1.same hs,?_⟩
   have q:Out cF E (only p) H (match Tilt.numberOf y.w with | none=>.error ⟨4,y.at_⟩ | some n=>if n<lo∨hi<n then .error ⟨4,y.at_⟩ else .ok ((n,y.at_),r)) _:=q
   cases hn:Tilt.numberOf y.w with
   | none=>
    rw [hn] at q
    exact ErX.on q sx
   | some n=>
    rw [hn] at q
    obtain ⟨dx2,a2,ho2,_⟩:=(h1.same hs).ob
    refine ⟨_,rfl,t,y.w,n,rfl,hs _ _ h2,hn,_,rfl,p,_,_,rfl,ho2,rfl,_,rfl,_,rfl,_,_,rfl,rfl,_,rfl,?_⟩
    have q:Out cF E (only p) H (if n<lo∨hi<n then .error ⟨4,y.at_⟩ else .ok ((n,y.at_),r)) _:=q
    by_cases hlo:(lo:Int)≤(n:Int)
    ·rw [decide_eq_true hlo]
     refine iteT ⟨_,rfl,_,_,rfl,rfl,p,tr,txt,r,e,y.at_,_,4,rfl,h1.same hs,?_⟩
     by_cases hhi:(n:Int)≤(hi:Int)
     ·rw [if_neg (by omega)] at q
      rw [decide_eq_true hhi]
      exact ⟨_,rfl,q H2 (h1.same hs) sx⟩
     ·rw [if_pos (by omega)] at q
      rw [decide_eq_false hhi]
      exact ErX.on q sx
    ·rw [decide_eq_false hlo]
     rw [if_pos (by omega)] at q
     exact iteF ⟨p,tr,txt,r,e,y.at_,_,4,rfl,h1.same hs,ErX.on q sx⟩
theorem zgx (tG:TG K mg) (tWords:zb9 K cW) (m_Words_take_number:Md P w K mg base (CXF P w cF) cW "take_number" ["self","least","most"] 4 (zey K cW cF)) (m_Words_check:Md P w K mg base (CXF P w cF) cW "check" ["self","right","kind"] 3 (zc8 K cW cF)) (F:MtK K cW "take_place" "Words.take_place" zb0) :
  Md P w K mg base (CXF P w cF) cW "take_place" ["self","most","before"] 5 (zkv K cW cF):=by
 refine F.mdF sc_Words_take_place zgk (fun vs H Q E h=>?_) (fun f cdv A outer s H vs Q E hr h=>?_)
 ·obtain ⟨p,tr,txt,l,e,pl,hi,bf,had,rfl,_⟩:=h
  rfl
 ·obtain ⟨p,tr,txt,l,e,pl,hi,bf,had,rfl,hw,hh,q⟩:=h
  have hu:=za2 hr
  have hu64:=hr.units
  refine ⟨_,(zab (zax (i:=3) sc_Words_take_place.nd rfl (Or.inl rfl) (pe_m m_Words_take_number tWords.cl hr za0 (pv 0) (zaa zao (zaa (pv 1) zad))))
   (zab (zal (pe_m m_Words_check tWords.cl hr za0 (pv 0) (zaa (zba zfm (pv 3) (pv 2) (zam _)) (zaa (zap tG.g_NOT_NEW) zad))))
   (zac (zar (pv 3))))),?_⟩
  have f_tWords_cl:=tWords.cl
  obtain ⟨dx,a,ho,hr'⟩:=hw.ob
  refine ⟨_,rfl,p,_,_,rfl,ho,rfl,_,rfl,p,tr,txt,l,e,pl,0,hi,rfl,hw,?_⟩
  refine (Out.bind q).mono SameX.refl (fun _ h=>h) fun r er q H' h1 sx=>?_
  obtain ⟨dx1,a1,ho1,_⟩:=h1.ob
  refine ⟨_,rfl,p,_,_,rfl,ho1,rfl,_,rfl,_,rfl,_,_,rfl,rfl,p,tr,txt,r.2,e,r.1.2,_,5,rfl,h1,?_⟩
  rw [← hh r.1.1]
  refine (Out.bind q).mono sx (fun _ h=>h) fun u eu q=>?_
  exact ⟨_,rfl,q H' _ h1 sx⟩
theorem zhr (tG:TG K mg) (tWords:zb9 K cW) (m_Words_take:Md P w K mg base (CXF P w cF) cW "take" ["self"] 3 (zji K cW cF)) (m_Words_check:Md P w K mg base (CXF P w cF) cW "check" ["self","right","kind"] 3 (zc8 K cW cF)) (d_is_name:Dn P w K mg base CX0 "is_name" ["word"] 2 (zj0 K)) (F:MtK K cW "take_name" "Words.take_name" zcg) :
  Md P w K mg base (CXF P w cF) cW "take_name" ["self"] 4 (zsi K cW cF):=by
 refine F.mdF sc_Words_take_name zhc (fun vs H Q E h=>?_) (fun f cdv A outer s H vs Q E hr h=>?_)
 ·obtain ⟨p,tr,txt,l,e,pl,rfl,_⟩:=h
  rfl
 ·obtain ⟨p,tr,txt,l,e,pl,rfl,hw,q⟩:=h
  have hu:=za2 hr
  have hu64:=hr.units
  refine ⟨_,(zab (zax (i:=1) sc_Words_take_name.nd rfl (Or.inl rfl) (zbk m_Words_take tWords.cl hr za0 (pv 0)))
   (zab (zal (pe_m m_Words_check tWords.cl hr za0 (pv 0) (zaa (pe_d d_is_name hr zaz (zaa (pv 1) zad)) (zaa (zap tG.g_WRONG_FORM) zad))))
   (zac (zar (pv 1))))),?_⟩
  have f_tWords_cl:=tWords.cl
  obtain ⟨dx,a,ho,hr'⟩:=hw.ob
  refine ⟨_,rfl,p,_,_,rfl,ho,rfl,p,tr,txt,l,e,pl,rfl,hw,?_⟩
  refine (Out.bind q).mono SameX.refl (fun _ h=>h) fun y er q H' t h1 h2 sx h4 h5=>?_
  obtain ⟨dx1,a1,ho1,_⟩:=h1.ob
  refine ⟨_,rfl,p,_,_,rfl,ho1,rfl,_,rfl,t,y.1.w,rfl,h2,h4,fun H2 hs=>⟨p,tr,txt,y.2,e,y.1.at_,_,4,rfl,h1.same hs,?_⟩⟩
  have sx2:SameX (only p) H H2:=sx.trans (SameX.of hs)
  cases hn:Tilt.isName y.1.w with
  | false=>
   rw [if_pos hn] at q
   exact ErX.on q sx2
  | true=>
   rw [if_neg (by rw [hn];decide)] at q
   exact ⟨_,rfl,q H2 t (h1.same hs) (hs _ _ h2) sx2⟩
theorem zfb (tG:TG K mg) (tWords:zb9 K cW) (m_Words_take_name:Md P w K mg base (CXF P w cF) cW "take_name" ["self"] 4 (zsi K cW cF)) (m_Words_check:Md P w K mg base (CXF P w cF) cW "check" ["self","right","kind"] 3 (zc8 K cW cF)) (d_spelled:Dn P w K mg base CX0 "spelled" ["word"] 1 (zdw)) (F:MtK K cW "take_new_name" "Words.take_new_name" zbj) :
  Md P w K mg base (CXF P w cF) cW "take_new_name" ["self","names","barred"] 5 (ztn K cW cF):=by
 refine F.mdF sc_Words_take_new_name ze8 (fun vs H Q E h=>?_) (fun f cdv A outer s H vs Q E hr h=>?_)
 ·obtain ⟨p,tr,txt,l,e,pl,d,x,bb,had,rfl,_⟩:=h
  rfl
 ·obtain ⟨p,tr,txt,l,e,pl,d,x,bb,had,rfl,hw,hd,⟨hx,hx2⟩,q⟩:=h
  have hu:=za2 hr
  have hu64:=hr.units
  refine ⟨_,(zab (zax (i:=3) sc_Words_take_new_name.nd rfl (Or.inl rfl) (zbk m_Words_take_name tWords.cl hr za0 (pv 0)))
   (zab (zal (pe_m m_Words_check tWords.cl hr za0 (pv 0) (zaa (zba (zCy hu64) (pv 3) (pe_d d_spelled hr zaz (zaa (pv 2) zad)) (zam _)) (zaa (zap tG.g_WRONG_FORM) zad))))
   (zab (zal (pe_m m_Words_check tWords.cl hr za0 (pv 0) (zaa (zo7 (zeo hu (pv 3) (pv 1))) (zaa (zap tG.g_NOT_NEW) zad))))
   (zac (zar (pv 3)))))),?_⟩
  have f_tWords_cl:=tWords.cl
  obtain ⟨dx,a,ho,hr'⟩:=hw.ob
  refine ⟨_,rfl,p,_,_,rfl,ho,rfl,p,tr,txt,l,e,pl,rfl,hw,?_⟩
  refine (Out.bind q).mono SameX.refl (fun _ h=>h) fun y er q H' t h1 h2 sx=>?_
  obtain ⟨dx1,a1,ho1,_⟩:=h1.ob
  refine ⟨_,rfl,p,_,_,rfl,ho1,rfl,_,rfl,_,rfl,x,rfl,hx,fun H2 s hs h6=>⟨t,s,bI y.1.w,bI bb,rfl,rfl,SqT.of (hs _ _ h2),SqT.of (by rw [h6,hx2];rfl),p,tr,txt,y.2,e,y.1.at_,_,4,rfl,h1.same hs,?_⟩⟩
  rw [zrf]
  have sx2:SameX (only p) H H2:=sx.trans (SameX.of hs)
  by_cases hy:y.1.w=bb
  ·rw [if_pos hy] at q
   rw [decide_eq_true hy]
   exact ErX.on q sx2
  ·rw [if_neg hy] at q
   rw [decide_eq_false hy]
   obtain ⟨dx2,a2,ho2,_⟩:=(h1.same hs).ob
   obtain ⟨o,ho,he⟩:=(hd.keep sx2 (hd.ne hw)).get (hs _ _ h2)
   refine ⟨_,rfl,p,_,_,rfl,ho2,rfl,_,rfl,_,rfl,d,o,rfl,ho,p,tr,txt,y.2,e,y.1.at_,_,5,rfl,h1.same hs,?_⟩
   rw [he]
   cases hc:had.contains y.1.w with
   | true=>
    rw [if_pos hc] at q
    exact ErX.on q sx2
   | false=>
    rw [if_neg (by rw [hc];decide)] at q
    exact ⟨_,rfl,q H2 t _ (h1.same hs) (hs _ _ h2) sx2⟩
theorem zf8 (tG:TG K mg) (tWords:zb9 K cW) (m_Words_check:Md P w K mg base (CXF P w cF) cW "check" ["self","right","kind"] 3 (zc8 K cW cF)) (d_is_name:Dn P w K mg base CX0 "is_name" ["word"] 2 (zj0 K)) (F:MtK K cW "check_known" "Words.check_known" zbs) :
  Md P w K mg base (CXF P w cF) cW "check_known" ["self","word","names"] 4 (zd4 K cW cF):=by
 refine F.mdF zgc zf3 (fun vs H Q E h=>?_) (fun f cdv A outer s H vs Q E hr h=>?_)
 ·obtain ⟨p,tr,txt,l,e,pl,d,had,t,b,rfl,_⟩:=h
  rfl
 ·obtain ⟨p,tr,txt,l,e,pl,d,had,t,b,rfl,hw,hd,ht,hb,q⟩:=h
  have hu:=za2 hr
  have hu64:=hr.units
  refine ⟨_,(zab (zal (pe_m m_Words_check tWords.cl hr za0 (pv 0) (zaa (pe_d d_is_name hr zaz (zaa (pv 1) zad)) (zaa (zap tG.g_WRONG_FORM) zad))))
   (zac (zal (pe_m m_Words_check tWords.cl hr za0 (pv 0) (zaa (zo7 (zC2 hu (pv 1) (pv 2))) (zaa (zap tG.g_NOT_KNOWN) zad)))))),?_⟩
  have f_tWords_cl:=tWords.cl
  obtain ⟨dx,a,ho,hr'⟩:=hw.ob
  refine ⟨_,rfl,p,_,_,rfl,ho,rfl,_,rfl,t,b,rfl,ht,hb,fun H2 hs=>⟨p,tr,txt,l,e,pl,_,4,rfl,hw.same hs,?_⟩⟩
  unfold kn at q
  have sx2:SameX (only p) H H2:=SameX.of hs
  cases hn:Tilt.isName b with
  | false=>
   rw [if_pos hn] at q
   exact ErX.on q sx2
  | true=>
   rw [if_neg (by rw [hn];decide)] at q
   obtain ⟨dx2,a2,ho2,_⟩:=(hw.same hs).ob
   obtain ⟨o,ho,he⟩:=(hd.keep sx2 (hd.ne hw)).get (hs _ _ ht)
   refine ⟨_,rfl,p,_,_,rfl,ho2,rfl,_,rfl,_,rfl,d,o,rfl,ho,p,tr,txt,l,e,pl,_,6,rfl,hw.same hs,?_⟩
   rw [he]
   cases hc:had.contains b with
   | false=>
    rw [if_pos hc] at q
    exact ErX.on q sx2
   | true=>
    rw [if_neg (by rw [hc];decide)] at q
    exact q H2 hs
theorem zen (tG:TG K mg) (tWords:zb9 K cW) (m_Words_take:Md P w K mg base (CXF P w cF) cW "take" ["self"] 3 (zji K cW cF)) (m_Words_check_known:Md P w K mg base (CXF P w cF) cW "check_known" ["self","word","names"] 4 (zd4 K cW cF)) (F:MtK K cW "take_known_name" "Words.take_known_name" zbf) :
  Md P w K mg base (CXF P w cF) cW "take_known_name" ["self","names"] 5 (znm K cW cF):=by
 refine F.mdF sc_Words_take_known_name zek (fun vs H Q E h=>?_) (fun f cdv A outer s H vs Q E hr h=>?_)
 ·obtain ⟨p,tr,txt,l,e,pl,d,had,rfl,_⟩:=h
  rfl
 ·obtain ⟨p,tr,txt,l,e,pl,d,had,rfl,hw,hd,q⟩:=h
  have hu:=za2 hr
  have hu64:=hr.units
  refine ⟨_,(zab (zax (i:=2) sc_Words_take_known_name.nd rfl (Or.inl rfl) (zbk m_Words_take tWords.cl hr za0 (pv 0)))
   (zab (zal (pe_m m_Words_check_known tWords.cl hr za0 (pv 0) (zaa (pv 2) (zaa (pv 1) zad))))
   (zac (zar (pv 2))))),?_⟩
  have f_tWords_cl:=tWords.cl
  obtain ⟨dx,a,ho,hr'⟩:=hw.ob
  refine ⟨_,rfl,p,_,_,rfl,ho,rfl,p,tr,txt,l,e,pl,rfl,hw,?_⟩
  refine (Out.bind q).mono SameX.refl (fun _ h=>h) fun y er q H' t h1 h2 sx h4 h5=>?_
  obtain ⟨dx1,a1,ho1,_⟩:=h1.ob
  refine ⟨_,rfl,p,_,_,rfl,ho1,rfl,_,rfl,_,rfl,p,tr,txt,y.2,e,y.1.at_,d,had,t,y.1.w,rfl,h1,hd.keep sx (hd.ne hw),h2,h4,?_⟩
  refine (Out.bind q).mono sx (fun _ h=>h) fun u eu q H2 hs=>?_
  exact ⟨_,rfl,q H2 t (h1.same hs) (hs _ _ h2) (sx.trans (SameX.of hs))⟩
end
end
section
def Cel (H:Hp) (l:List (Addr×HO)):Prop:=∀ c∈l,H c.1=some c.2
def ND (l:List (Addr×HO)):Prop:=(l.map (·.1)).Nodup
theorem Cel.keep {S:Addr→Prop} {H H':Hp} {l:List (Addr×HO)} (h:Cel H l) (k:SameX S H H') (n:∀ c∈l,¬S c.1):Cel H' l:=fun c hc=>k _ _ (n c hc) (h c hc)
theorem Cel.same {H H':Hp} {l:List (Addr×HO)} (h:Cel H l) (k:Same H H'):Cel H' l:=fun c hc=>k _ _ (h c hc)
theorem Cel.put {H:Hp} {pre post:List (Addr×HO)} {a:Addr} {o o':HO} (h:Cel H (pre++(a,o) :: post)) (n:ND (pre++(a,o) :: post)):Cel (upd H a o') (pre++(a,o') :: post):=by
 have n:(pre.map (·.1)++a :: post.map (·.1)).Nodup:=by simpa [ND] using n
 rw [List.nodup_append] at n
 obtain ⟨n1,n2,n3⟩:=n
 rw [List.nodup_cons] at n2
 intro c hc
 rcases List.mem_append.mp hc with hc | hc
 ·have:c.1≠a:=fun z=>n3 c.1 (List.mem_map_of_mem hc) a (by simp) z
  rw [zag this]
  exact h c (List.mem_append_left _ hc)
 ·rcases List.mem_cons.mp hc with rfl | hc
  ·exact zaf
  ·have:c.1≠a:=fun z=>n2.1 (z▸List.mem_map_of_mem hc)
   rw [zag this]
   exact h c (List.mem_append_right _ (List.mem_cons_of_mem _ hc))
theorem ND.put {pre post:List (Addr×HO)} {a:Addr} {o o':HO} (n:ND (pre++(a,o) :: post)):ND (pre++(a,o') :: post):=by
 unfold ND at *
 simpa using n
theorem Cel.add {H:Hp} {pre post:List (Addr×HO)} {a:Addr} {o:HO} (h:Cel H (pre++post)) (n:H a=none):Cel (upd H a o) (pre++(a,o) :: post):=by
 intro c hc
 have:c=(a,o)∨c∈pre++post:=by
  rcases List.mem_append.mp hc with hc | hc
  ·exact .inr (List.mem_append_left _ hc)
  ·rcases List.mem_cons.mp hc with hc | hc
   ·exact .inl hc
   ·exact .inr (List.mem_append_right _ hc)
 rcases this with rfl | hc
 ·exact zaf
 ·rw [zag (zaj (h c hc) n)]
  exact h c hc
theorem ND.add {H:Hp} {pre post:List (Addr×HO)} {a:Addr} {o:HO} (d:ND (pre++post)) (h:Cel H (pre++post)) (n:H a=none):ND (pre++(a,o) :: post):=by
 unfold ND at *
 have hn:a∉(pre++post).map (·.1):=fun hm=>by
  obtain ⟨c,hc,rfl⟩:=List.mem_map.mp hm
  rw [h c hc] at n
  cases n
 rw [List.map_append] at d hn ⊢
 rw [List.map_cons]
 have e:(pre.map (·.1)++a :: post.map (·.1)).Perm (a :: (pre.map (·.1)++post.map (·.1))):=List.perm_middle
 rw [e.nodup_iff,List.nodup_cons]
 exact ⟨hn,d⟩
def mc0 (c:Tilt.Coil):MC:=⟨c.place,c.most,c.rest,c.hold,0,0,0,0,false,0⟩
def zk0:Option Nat→V
 | none=>.non
 | some n=>.int n
abbrev CS:=List (Addr×Addr×Tilt.Coil)
abbrev KS:=List (Addr×Addr×MK)
abbrev DT:=List (List Key×V)
def swD (T:Tilt.Table):DT:=T.switches.map fun s=>(bK s.name, .int s.place)
def lmD (T:Tilt.Table):DT:=T.lamps.map fun s=>(bK s.name, .int s.place)
def coD (cs:CS):DT:=cs.map fun c=>(bK c.2.2.name, .ref c.1)
def dvD (T:Tilt.Table):DT:=T.devices.map fun d=>(bK d.name, .bl true)
def coC (cC:Addr) (cs:CS):List (Addr×HO):=cs.map fun c=>(c.1, .ins cC c.2.1 (za4 (mc0 c.2.2)))
def kiC (cK:Addr) (ks:KS):List (Addr×HO):=ks.map fun k=>(k.1, .ins cK k.2.1 (zmm k.2.2))
def cells (cT cC cK t dx:Addr) (m:MT) (cs:CS) (ks:KS) (T:Tilt.Table) (hk sk:DT):List (Addr×HO):=
 (t, .ins cT dx (zdx m)) :: (m.switches, .dT (swD T)) :: (m.lamps, .dT (lmD T)) :: (m.coils, .dT (coD cs)) :: (m.devices, .dT (dvD T)) :: (m.kicks, .lst (ks.map fun k=>.ref k.1)) :: (m.housed, .dT hk) :: (m.served, .dT sk) :: (coC cC cs++kiC cK ks)
def KR (cs:CS) (x:Addr×Addr×MK) (k:Tilt.Kick):Prop:=x.2.2.first=k.first∧x.2.2.length=k.ticks∧x.2.2.second=zk0 k.till∧∃ dc c,(x.2.2.coil,dc,c)∈cs∧c.place=k.coil
def udOf (T:Tilt.Table):List Nat:=T.devices.map (·.coil)++T.kicks.map (·.coil)
def Above (l:List Nat) (z:Int):Prop:=∀ n:Nat,(l.all fun p=>decide (p<n))=decide (z<(n:Int))
theorem Above.snoc {l:List Nat} {z:Int} {p:Nat} (h:Above l z) (hp:z<p):Above (l++[p]) p:=fun n=>by
 rw [List.all_append,h n]
 by_cases h1:p<n
 ·have h2:z<(n:Int):=by omega
  simp [h1,h2]
 ·simp [h1]
theorem Above.nil:Above [] (-1):=fun n=>by simp;omega
theorem Above.notin {l:List Nat} {z:Int} {p:Nat} (h:Above l z) (hp:z<p):p∉l:=fun hm=>by
 have:=h p
 rw [decide_eq_true hp,List.all_eq_true] at this
 have:=this p hm
 simp at this
structure TW (m:MT) (cs:CS) (ks:KS) (T:Tilt.Table) (hk sk:DT) (rm:Nat) (hd ud:List Nat):Prop where
 bl:m.balls=T.balls
 dr:m.drained=rm
 ct:cs.map (·.2.2)=T.coils
 ls:Above (T.switches.map (·.place)) m.last_switch
 ll:Above (T.lamps.map (·.place)) m.last_lamp
 lc:Above (T.coils.map (·.place)) m.last_coil
 lk:Above (T.kicks.map (·.first)) m.last_kick
 sn:(T.switches.map (·.name)).Nodup
 sp:(T.switches.map (·.place)).Nodup
 cn:(T.coils.map (·.name)).Nodup
 cp:(T.coils.map (·.place)).Nodup
 sb:(T.switches.length:Int)≤m.last_switch+1∧m.last_switch≤63
 lb:(T.lamps.length:Int)≤m.last_lamp+1∧m.last_lamp≤63
 cb:(T.coils.length:Int)≤m.last_coil+1∧m.last_coil≤31
 c31:∀ c∈T.coils,c.place≤31
 dn:T.devices.length≤8
 kn:T.kicks.length≤8
 hb:T.held.length≤8*T.devices.length
 hl:hk.length≤hd.length
 hs:∀ s∈T.switches,(valV hk (bK s.name)).isSome=hd.contains s.place
 vl:sk.length≤ud.length
 vs:∀ c∈T.coils,(valV sk (bK c.name)).isSome=ud.contains c.place
 kk:Paired (KR cs) ks T.kicks
 hn:∀ b,(valV hk (bK b)).isSome=true→b∈T.switches.map (·.name)
 hp:∀ p∈hd,p∈T.switches.map (·.place)
 vn:∀ b,(valV sk (bK b)).isSome=true→b∈T.coils.map (·.name)
 vp:∀ p∈ud,p∈T.coils.map (·.place)
structure Ad where
 cC:Addr
 cK:Addr
 cW:Addr
 cT:Addr
 cF:Addr
structure RG (K:W.Frag) (cW:Addr) (H0:Hp) (tr:Addr) (txt:Bytes) (H:Hp) (w:Addr) (L:List (Addr×HO)) (sa:Addr) (so:List Str) (l:List Tilt.Word) (e p:Nat):Prop where
 ce:Cel H L
 nd:ND L
 so:SqT K H sa (so.map V.str)
 ws:WS K cW tr txt H w l e p
 s0:Same H0 H
 w0:H0 w=none
 fr:∀ c∈L,H0 c.1=none∧c.1≠w∧c.1≠tr
abbrev RH (K:W.Frag) (ad:Ad) (H0:Hp) (tr:Addr) (txt:Bytes) (H:Hp) (t w dx:Addr) (m:MT) (cs:CS) (ks:KS) (T:Tilt.Table) (hk sk:DT) (so:List Str) (l:List Tilt.Word) (e p:Nat):Prop:=
 RG K ad.cW H0 tr txt H w (cells ad.cT ad.cC ad.cK t dx m cs ks T hk sk) m.sorts so l e p
structure RM (K:W.Frag) (ad:Ad) (H0:Hp) (tr:Addr) (txt:Bytes) (H:Hp) (t w dx:Addr) (m:MT) (cs:CS) (ks:KS) (T:Tilt.Table) (hk sk:DT) (rm:Nat) (hd ud:List Nat) (so:List Str) (l:List Tilt.Word) (e p:Nat):Prop where
 tw:TW m cs ks T hk sk rm hd ud
 h:RH K ad H0 tr txt H t w dx m cs ks T hk sk so l e p
def RS (K:W.Frag) (ad:Ad) (H0:Hp) (tr:Addr) (txt:Bytes) (H:Hp) (t w:Addr) (T:Tilt.Table) (so:List Str) (l:List Tilt.Word) (e p:Nat):Prop:=
 ∃ dx m cs ks hk sk,RM K ad H0 tr txt H t w dx m cs ks T hk sk T.room T.held (udOf T) so l e p
theorem SqT.keepI {K:W.Frag} {H H':Hp} {a w C dx:Addr} {fs:List (Str×V)} {xs:List V} (h:SqT K H a xs) (k:SameX (only w) H H') (hw:H w=some (.ins C dx fs)):SqT K H' a xs:=by
 rcases h with h | h
 ·rcases h with h | ⟨o,h⟩
  ·exact .inl (.inl (k _ _ (fun z=>by unfold only at z;rw [z,hw] at h;cases h) h))
  ·exact .inl (.inr ⟨o,k _ _ (fun z=>by unfold only at z;rw [z,hw] at h;cases h) h⟩)
 ·exact .inr h
theorem SqT.putM {K:W.Frag} {H:Hp} {a b:Addr} {o o':HO} {xs:List V} (h:SqT K H b xs) (ha:H a=some o) (mu:Mut (some o)):SqT K (upd H a o') b xs:=by
 rcases h with h | h
 ·rcases h with h | ⟨q,h⟩
  ·have:b≠a:=fun z=>by rw [z,ha] at h;cases h;exact mu
   exact .inl (.inl (by rw [zag this];exact h))
  ·have:b≠a:=fun z=>by rw [z,ha] at h;cases h;exact mu
   exact .inl (.inr ⟨q,by rw [zag this];exact h⟩)
 ·exact .inr h
section
variable {K:W.Frag} {cW:Addr} {H0:Hp} {tr:Addr} {txt:Bytes} {H H':Hp} {w sa:Addr} {L:List (Addr×HO)} {so:List Str} {l l':List Tilt.Word} {e p p':Nat}
theorem RG.step (R:RG K cW H0 tr txt H w L sa so l e p) (k:SameX (only w) H H') (h:WS K cW tr txt H' w l' e p'):RG K cW H0 tr txt H' w L sa so l' e p':=by
 obtain ⟨dw,a,hw,_⟩:=R.ws.ob
 exact ⟨R.ce.keep k fun c hc z=>(R.fr c hc).2.1 z,R.nd,SqT.keepI R.so k hw,h,SameX.new R.s0 k fun b z=>by unfold only at z;rw [z];exact R.w0,R.w0,R.fr⟩
theorem RG.same (R:RG K cW H0 tr txt H w L sa so l e p) (k:Same H H'):RG K cW H0 tr txt H' w L sa so l e p:=R.step (SameX.of k) (R.ws.same k)
theorem RG.tup {a:Addr} {xs:List V} (R:RG K cW H0 tr txt H w L sa so l e p) (k:SameX (only w) H H') (h:H a=some (.tup xs)):H' a=some (.tup xs):=by
 obtain ⟨d,b,hw,_⟩:=R.ws.ob
 exact k _ _ (fun z=>by unfold only at z;rw [z,hw] at h;cases h) h
theorem RG.sp (R:RG K cW H0 tr txt H w L sa so l e p):∀ b,only w b→H0 b=none:=fun b z=>by unfold only at z;rw [z];exact R.w0
theorem RG.put {pre post:List (Addr×HO)} {a sa':Addr} {o:HO} (o':HO) {so':List Str} (R:RG K cW H0 tr txt H w L sa so l e p) (e1:L=pre++(a,o) :: post) (sq:SqT K (upd H a o') sa' (so'.map V.str)) :
  RG K cW H0 tr txt (upd H a o') w (pre++(a,o') :: post) sa' so' l e p:=by
 have fr:=R.fr
 have ce:=R.ce
 have nd:=R.nd
 rw [e1] at fr ce nd
 have ha:=fr (a,o) (by simp)
 refine ⟨ce.put nd,nd.put,sq,R.ws.keep (S:=only a) (SameX.put rfl) (fun z=>ha.2.1 z.symm) (fun z=>ha.2.2 z.symm),SameX.new R.s0 (SameX.put (S:=only a) rfl) fun b z=>by unfold only at z;rw [z];exact ha.1,R.w0,?_⟩
 intro c hc
 have:c.1=a∨∃ c',c'∈pre++(a,o) :: post∧c'.1=c.1:=by
  rcases List.mem_append.mp hc with hc | hc
  ·exact .inr ⟨c,List.mem_append_left _ hc,rfl⟩
  ·rcases List.mem_cons.mp hc with rfl | hc
   ·exact .inl rfl
   ·exact .inr ⟨c,List.mem_append_right _ (List.mem_cons_of_mem _ hc),rfl⟩
 rcases this with z | ⟨c',hc',z⟩
 ·rw [z];exact ha
 ·rw [← z];exact fr c' hc'
theorem RG.putM {pre post:List (Addr×HO)} {a:Addr} {o:HO} (o':HO) (R:RG K cW H0 tr txt H w L sa so l e p) (e1:L=pre++(a,o) :: post) (mu:Mut (some o)):RG K cW H0 tr txt (upd H a o') w (pre++(a,o') :: post) sa so l e p:=
 R.put o' e1 (SqT.putM R.so (R.ce (a,o) (by rw [e1];simp)) mu)
theorem RG.add {pre post:List (Addr×HO)} {a:Addr} (o:HO) (R:RG K cW H0 tr txt H w L sa so l e p) (e1:L=pre++post) (ha:H a=none):RG K cW H0 tr txt (upd H a o) w (pre++(a,o) :: post) sa so l e p:=by
 obtain ⟨dw,aw,hw,_⟩:=R.ws.ob
 have fr:=R.fr
 have ce:=R.ce
 have nd:=R.nd
 rw [e1] at fr ce nd
 have h0:H0 a=none:=by
  cases z:H0 a with
  | none=>rfl
  | some o=>rw [R.s0 _ _ z] at ha;cases ha
 refine ⟨ce.add ha,nd.add ce ha,SqT.new R.so ha,R.ws.same (Same.new ha),Same.trans R.s0 (Same.new ha),R.w0,?_⟩
 intro c hc
 rcases List.mem_append.mp hc with hc | hc
 ·exact fr c (List.mem_append_left _ hc)
 ·rcases List.mem_cons.mp hc with rfl | hc
  ·exact ⟨h0,(fun z=>by rw [← z] at hw;rw [show H a=none from ha] at hw;cases hw),fun z=>by have:=R.ws.tx;rw [← z] at this;rw [show H a=none from ha] at this;cases this⟩
  ·exact fr c (List.mem_append_right _ hc)
end
section
variable {K:W.Frag} {ad:Ad} {H0:Hp} {tr:Addr} {txt:Bytes} {H H':Hp} {t w dx:Addr} {m:MT} {cs:CS} {ks:KS} {T:Tilt.Table} {hk sk:DT} {so:List Str} {l l':List Tilt.Word} {e p p':Nat}
theorem RG.tab (R:RH K ad H0 tr txt H t w dx m cs ks T hk sk so l e p):H t=some (.ins ad.cT dx (zdx m)):=R.ce _ (.head _)
theorem RG.sw (R:RH K ad H0 tr txt H t w dx m cs ks T hk sk so l e p):H m.switches=some (.dT (swD T)):=R.ce _ (.tail _ (.head _))
theorem RG.lm (R:RH K ad H0 tr txt H t w dx m cs ks T hk sk so l e p):H m.lamps=some (.dT (lmD T)):=R.ce _ (.tail _ (.tail _ (.head _)))
theorem RG.co (R:RH K ad H0 tr txt H t w dx m cs ks T hk sk so l e p):H m.coils=some (.dT (coD cs)):=R.ce _ (.tail _ (.tail _ (.tail _ (.head _))))
theorem RG.dv (R:RH K ad H0 tr txt H t w dx m cs ks T hk sk so l e p):H m.devices=some (.dT (dvD T)):=R.ce _ (.tail _ (.tail _ (.tail _ (.tail _ (.head _)))))
theorem RG.ki (R:RH K ad H0 tr txt H t w dx m cs ks T hk sk so l e p):H m.kicks=some (.lst (ks.map fun k=>.ref k.1)):=R.ce _ (.tail _ (.tail _ (.tail _ (.tail _ (.tail _ (.head _))))))
theorem RG.ho (R:RH K ad H0 tr txt H t w dx m cs ks T hk sk so l e p):H m.housed=some (.dT hk):=R.ce _ (.tail _ (.tail _ (.tail _ (.tail _ (.tail _ (.tail _ (.head _)))))))
theorem RG.se (R:RH K ad H0 tr txt H t w dx m cs ks T hk sk so l e p):H m.served=some (.dT sk):=R.ce _ (.tail _ (.tail _ (.tail _ (.tail _ (.tail _ (.tail _ (.tail _ (.head _))))))))
theorem RG.coil (R:RH K ad H0 tr txt H t w dx m cs ks T hk sk so l e p) {c:Addr×Addr×Tilt.Coil} (h:c∈cs):H c.1=some (.ins ad.cC c.2.1 (za4 (mc0 c.2.2))):=
 R.ce (c.1,_) (.tail _ (.tail _ (.tail _ (.tail _ (.tail _ (.tail _ (.tail _ (.tail _ (List.mem_append_left _ (List.mem_map.mpr ⟨c,h,rfl⟩))))))))))
end
theorem Out.loc {α:Type} {C:Addr} {E:XK} {S:Addr→Prop} {H0 H:Hp} {r:Except Tilt.Fault α} {ok ok':α→Prop} (h:Out C E (fun _=>False) H0 r ok) (s:Same H0 H) (n:∀ b,S b→H0 b=none) (k:∀ a,r = .ok a→ok a→ok' a):Out C E S H r ok':=by
 cases r with
 | ok a=>exact k a rfl h
 | error f=>exact fun dx H' e z=>h dx H' e (SameX.of (SameX.new s z n))
theorem zc7 {α:Type} {l:List α} {g:α→Bytes} {v:α→V} {b:Bytes}:(valV (l.map fun s=>(bK (g s),v s)) (bK b)).isSome=(l.map g).contains b:=by
 induction l with
 | nil=>rfl
 | cons x r ih=>
  rw [List.map_cons,List.map_cons,List.contains_cons]
  by_cases h:g x=b
  ·rw [zb4 (p:=(bK (g x),v x)) (by rw [h]),h];simp
  ·rw [zb3 (p:=(bK (g x),v x)) (fun z=>h (zt4 z)),ih]
   have:(b == g x)=false:=by simp;exact fun z=>h z.symm
   rw [this,Bool.false_or]
theorem zws {α:Type} {l:List α} {g:α→Bytes} {v:α→V} {s:α} (h:s∈l) (n:(l.map g).Nodup):valV (l.map fun s=>(bK (g s),v s)) (bK (g s))=some (v s):=by
 induction l with
 | nil=>cases h
 | cons x r ih=>
  rw [List.map_cons,List.nodup_cons] at n
  rw [List.map_cons]
  rcases List.mem_cons.mp h with rfl | h
  ·exact zb4 rfl
  ·rw [zb3 (p:=(bK (g x),v x)) (fun z=>n.1 (by rw [zt4 z];exact List.mem_map_of_mem h)),ih h n.2]
theorem zm8 {α:Type} {l:List α} {g:α→Bytes} {v:α→V} {b:Bytes} (u:V) (h:(l.map g).contains b=false):putK (l.map fun s=>(bK (g s),v s)) (bK b) u=(l.map fun s=>(bK (g s),v s))++[(bK b,u)]:=by
 refine zm7 u ?_
 have e:=zc7 (l:=l) (g:=g) (v:=v) (b:=b)
 rw [h] at e
 cases z:valV (l.map fun s=>(bK (g s),v s)) (bK b) with
 | none=>rfl
 | some y=>rw [z] at e;cases e
theorem zfr {kvs:DT} {b c:Bytes} {u:V}:(valV (putK kvs (bK b) u) (bK c)).isSome=(decide (c=b) || (valV kvs (bK c)).isSome):=by
 rw [zyx]
 by_cases h:c=b
 ·rw [if_pos (by rw [h])];simp [h]
 ·rw [if_neg (fun z=>h (zt4 z))];simp [h]
theorem zvz (T:Tilt.Table) (d:Tilt.Device):Tilt.Table.room { T with devices:=T.devices++[d] }=T.room+(if d.drain=true then d.at_.length else 0):=by
 unfold Tilt.Table.room
 cases h:d.drain<;>simp [List.filter_append,h]
theorem zhh (T:Tilt.Table) (d:Tilt.Device):Tilt.Table.held { T with devices:=T.devices++[d] }=T.held++d.at_:=by
 simp [Tilt.Table.held]
end
section
theorem RG.tabP {K:W.Frag} {ad:Ad} {H0:Hp} {tr:Addr} {txt:Bytes} {H:Hp} {t w dx sa:Addr} {m:MT} (m':MT) {post:List (Addr×HO)} {so:List Str} {l:List Tilt.Word} {e p:Nat} (R:RG K ad.cW H0 tr txt H w ((t, .ins ad.cT dx (zdx m)) :: post) sa so l e p) :
  RG K ad.cW H0 tr txt (upd H t (.ins ad.cT dx (zdx m'))) w ((t, .ins ad.cT dx (zdx m')) :: post) sa so l e p:=R.putM (pre:=[]) _ rfl True.intro
def zmk (e:Nat) (T:Tilt.Table) (l:List Tilt.Word):Except Tilt.Fault (Tilt.Table×List Tilt.Word):=do
 let n ← zos e l
 let m ← Tilt.must e "balls" n.2
 let b ← Tilt.number e 1 8 m
 return ({ T with name:=n.1.w,balls:=b.1.1 },b.2)
def zDo (e:Nat) (l:List Tilt.Word):Except Tilt.Fault (List Tilt.Word):=if l.isEmpty=true then .ok l else Tilt.must e "turned" l
def zz7 (e:Nat) (l:List Tilt.Word):Except Tilt.Fault (Nat×List Tilt.Word):=if l.isEmpty=true then .ok (0,l) else do
 let g ← Tilt.must e "hold" l
 let h ← Tilt.number e 1 15 g
 return (h.1.1,h.2)
def ze2 (e:Nat) (T:Tilt.Table) (l:List Tilt.Word):Except Tilt.Fault (Tilt.Table×List Tilt.Word):=do
 let n ← newR e (T.switches.map (·.name)) Tilt.DRAIN l
 let a ← Tilt.must e "at" n.2
 let p ← Tilt.place e 63 (T.switches.map (·.place)) a
 let b ← Tilt.must e "close" p.2
 let c ← Tilt.number e 1 31 b
 let d ← Tilt.must e "open" c.2
 let o ← Tilt.number e 1 31 d
 let r ← zDo e o.2
 return ({ T with switches:=T.switches++[⟨p.1,c.1.1,o.1.1,!o.2.isEmpty,n.1.w⟩] },r)
def zmp (e:Nat) (T:Tilt.Table) (l:List Tilt.Word):Except Tilt.Fault (Tilt.Table×List Tilt.Word):=do
 let n ← newR e (T.lamps.map (·.name)) Tilt.LOOP l
 let a ← Tilt.must e "at" n.2
 let p ← Tilt.place e 63 (T.lamps.map (·.place)) a
 return ({ T with lamps:=T.lamps++[⟨p.1,n.1.w⟩] },p.2)
def zmd (e:Nat) (T:Tilt.Table) (l:List Tilt.Word):Except Tilt.Fault (Tilt.Table×List Tilt.Word):=do
 let n ← newR e (T.coils.map (·.name)) [] l
 let a ← Tilt.must e "at" n.2
 let p ← Tilt.place e 31 (T.coils.map (·.place)) a
 let b ← Tilt.must e "most" p.2
 let c ← Tilt.number e 1 1023 b
 let d ← Tilt.must e "rest" c.2
 let o ← Tilt.number e 1 4095 d
 let r ← zz7 e o.2
 return ({ T with coils:=T.coils++[⟨p.1,c.1.1,o.1.1,r.1,n.1.w⟩] },r.2)
def spLn (K:W.Frag) (ad:Ad) (pc:Tilt.Table→Prop) (f:Nat→Tilt.Table→List Tilt.Word→Except Tilt.Fault (Tilt.Table×List Tilt.Word)):Sp:=fun vs H Q E=>E8 fun t w tr txt H0 T so l=>E2 fun e p=>A4 (vs=[.ref t, .ref w]) (RS K ad H0 tr txt H t w T so l e p) (pc T) (Out ad.cF E (fun _=>False) H0 (f e T l) fun x=>∀ H' p',RS K ad H0 tr txt H' t w x.1 so x.2 e p'→Q .non H')
theorem zr2 {e:Nat} {had:List Bytes} {bb:Bytes} {l:List Tilt.Word} {x:Tilt.Word×List Tilt.Word} (h:newR e had bb l = .ok x):had.contains x.1.w=false:=by
 unfold newR zos at h
 cases l with
 | nil=>cases h
 | cons y r=>
  simp only [Tilt.next,bind,Except.bind] at h
  split at h
  ·cases h
  ·simp only [pure,Except.pure] at h
   split at h
   ·cases h
   ·split at h
    ·cases h
    ·rename_i hc
     cases h
     cases z:had.contains x.1.w with
     | true=>exact absurd z hc
     | false=>rfl
theorem zm3 {e hi:Nat} {had:List Nat} {l:List Tilt.Word} {x:Nat×List Tilt.Word} (h:Tilt.place e hi had l = .ok x):x.1≤hi∧(had.all fun p=>decide (p<x.1))=true:=by
 unfold Tilt.place Tilt.number at h
 cases l with
 | nil=>cases h
 | cons y r=>
  simp only [Tilt.next,bind,Except.bind] at h
  cases hn:Tilt.numberOf y.w with
  | none=>rw [hn] at h;cases h
  | some n=>
   rw [hn] at h
   simp only [] at h
   split at h
   ·cases h
   ·rename_i v hv
    split at hv
    ·cases hv
    ·rename_i hb
     cases hv
     unfold Tilt.holds at h
     split at h
     ·cases h
     ·rename_i u hu
      split at hu
      ·rename_i ha
       cases h
       exact ⟨by show n≤hi;omega,ha⟩
      ·cases hu
theorem TW.above {l:List Nat} {z:Int} {n:Nat} (h:Above l z) (a:(l.all fun p=>decide (p<n))=true):z<n:=by
 rw [h n] at a
 exact of_decide_eq_true a
section
variable {cW cF cT cC cK:Addr}
abbrev zeb:Stmt:=top 71
theorem zpg:zai ["table","words"] ["table","words"] (zae zeb):=by walk_at "sc"
theorem zn9:zak zeb "read_head" "read_head" ["table","words"]:=fun _ _ _ _ _ _ us hl=>match us,hl with | [_,_],_=>rfl
abbrev zdh:Stmt:=top 72
theorem sc_read_switch:zai ["table","words","name","place"] ["table","words"] (zae zdh):=by walk_at "sc"
theorem zla:zak zdh "read_switch" "read_switch" ["table","words"]:=fun _ _ _ _ _ _ us hl=>match us,hl with | [_,_],_=>rfl
abbrev zed:Stmt:=top 73
theorem sc_read_lamp:zai ["table","words","name","place"] ["table","words"] (zae zed):=by walk_at "sc"
theorem zob:zak zed "read_lamp" "read_lamp" ["table","words"]:=fun _ _ _ _ _ _ us hl=>match us,hl with | [_,_],_=>rfl
abbrev zea:Stmt:=top 74
theorem sc_read_coil:zai ["table","words","name","place","most","rest","hold"] ["table","words"] (zae zea):=by walk_at "sc"
theorem zn8:zak zea "read_coil" "read_coil" ["table","words"]:=fun _ _ _ _ _ _ us hl=>match us,hl with | [_,_],_=>rfl
theorem zo0 (tG:TG K mg) (tWords:zb9 K cW) (tTable:zd0 K cT) (m_Words_take_name:Md P w K mg base (CXF P w cF) cW "take_name" ["self"] 4 (zsi K cW cF)) (m_Words_take_fixed:Md P w K mg base (CXF P w cF) cW "take_fixed" ["self","word"] 4 (zfq K cW cF)) (m_Words_take_number:Md P w K mg base (CXF P w cF) cW "take_number" ["self","least","most"] 4 (zey K cW cF)) (F:FnK K mg "read_head" zeb) :
  Dn P w K mg base (CXF P w cF) "read_head" ["table","words"] 6 (spLn K ⟨cC,cK,cW,cT,cF⟩ (fun _=>True) zmk):=by
 refine F.dnF zpg zn9 (fun vs H Q E h=>?_) (fun f cdv A outer s H vs Q E hr h=>?_)
 ·obtain ⟨t,p,tr,txt,H0,T,so,l,e,pl,rfl,_⟩:=h
  rfl
 ·obtain ⟨t,p,tr,txt,H0,T,so,l,e,pl,rfl,⟨dx,m,cs,ks,hk,sk,tw,R⟩,_,q⟩:=h
  have hu:=za2 hr
  have hu64:=hr.units
  refine ⟨_,(zab (zal (zbk m_Words_take_name tWords.cl hr za0 (pv 1)))
   (zab (zal (pe_m m_Words_take_fixed tWords.cl hr za0 (pv 1) (zaa zb6 zad)))
   (zac (zau (pv 0) (pe_m m_Words_take_number tWords.cl hr za0 (pv 1) (zaa zao (zaa zao zad))) rfl)))),?_⟩
  have f_tWords_cl:=tWords.cl
  have f_tTable_cl:=tTable.cl
  have f_tTable_n_balls:=tTable.n_balls
  obtain ⟨d0,a0,w0,_⟩:=R.ws.ob
  refine ⟨_,rfl,p,_,_,rfl,w0,rfl,p,tr,txt,l,e,pl,rfl,R.ws,(Out.bind q).loc R.s0 R.sp fun n en q H1 t1 h1 _ k1=>?_⟩
  have R1:=R.step k1 h1
  obtain ⟨d1,a1,w1,_⟩:=R1.ws.ob
  refine ⟨_,rfl,p,_,_,rfl,w1,rfl,p,tr,txt,n.2,e,_,"balls","balls",rfl,R1.ws,⟨by decide +kernel,by decide +kernel⟩,(Out.bind q).loc R1.s0 R1.sp fun b eb q H2 p2 h2 k2=>?_⟩
  have R2:=R1.step k2 h2
  obtain ⟨d2,a2,w2,_⟩:=R2.ws.ob
  refine ⟨_,rfl,p,_,_,rfl,w2,rfl,p,tr,txt,b,e,_,1,8,rfl,R2.ws,(Out.bind q).loc R2.s0 R2.sp fun c ec q H3 h3 k3=>?_⟩
  have R3:=R2.step k3 h3
  refine ⟨_,rfl,t,_,_,_,rfl,R3.tab,f_tTable_cl,f_tTable_n_balls,(by show 14<1000;decide),?_⟩
  refine q _ c.1.2 ⟨dx,{ m with balls:=c.1.1 },cs,ks,hk,sk,⟨rfl,tw.dr,tw.ct,tw.ls,tw.ll,tw.lc,tw.lk,tw.sn,tw.sp,tw.cn,tw.cp,tw.sb,tw.lb,tw.cb,tw.c31,tw.dn,tw.kn,tw.hb,tw.hl,tw.hs,tw.vl,tw.vs,tw.kk,tw.hn,tw.hp,tw.vn,tw.vp⟩,RG.tabP (ad:=⟨cC,cK,cW,cT,cF⟩) { m with balls:=c.1.1 } R3⟩
theorem zo2 (tG:TG K mg) (tWords:zb9 K cW) (tTable:zd0 K cT) (m_Words_take_new_name:Md P w K mg base (CXF P w cF) cW "take_new_name" ["self","names","barred"] 5 (ztn K cW cF)) (m_Words_take_fixed:Md P w K mg base (CXF P w cF) cW "take_fixed" ["self","word"] 4 (zfq K cW cF)) (m_Words_take_place:Md P w K mg base (CXF P w cF) cW "take_place" ["self","most","before"] 5 (zkv K cW cF)) (F:FnK K mg "read_lamp" zed) :
  Dn P w K mg base (CXF P w cF) "read_lamp" ["table","words"] 6 (spLn K ⟨cC,cK,cW,cT,cF⟩ (fun _=>True) zmp):=by
 refine F.dnF sc_read_lamp zob (fun vs H Q E h=>?_) (fun f cdv A outer s H vs Q E hr h=>?_)
 ·obtain ⟨t,p,tr,txt,H0,T,so,l,e,pl,rfl,_⟩:=h
  rfl
 ·obtain ⟨t,p,tr,txt,H0,T,so,l,e,pl,rfl,⟨dx,m,cs,ks,hk,sk,tw,R⟩,_,q⟩:=h
  have hu:=za2 hr
  have hu64:=hr.units
  refine ⟨_,(zab (zax (i:=2) sc_read_lamp.nd rfl (Or.inl rfl) (pe_m m_Words_take_new_name tWords.cl hr za0 (pv 1) (zaa (zah (pv 0) rfl) (zaa zb6 zad))))
   (zab (zal (pe_m m_Words_take_fixed tWords.cl hr za0 (pv 1) (zaa zb6 zad)))
   (zab (zax (i:=3) sc_read_lamp.nd rfl (Or.inl rfl) (pe_m m_Words_take_place tWords.cl hr za0 (pv 1) (zaa zao (zaa (zah (pv 0) rfl) zad))))
   (zab (zg1 hu (zah (pv 0) rfl) (pv 2) (pv 3) rfl)
   (zac (zau (pv 0) (pv 3) rfl)))))),?_⟩
  have f_tWords_cl:=tWords.cl
  have f_tTable_cl:=tTable.cl
  have f_tTable_n_lamps:=tTable.n_lamps
  have f_tTable_n_last_lamp:=tTable.n_last_lamp
  obtain ⟨d0,a0,w0,_⟩:=R.ws.ob
  refine ⟨_,rfl,p,_,_,rfl,w0,rfl,_,rfl,t,_,_,_,_,rfl,R.tab,f_tTable_cl,f_tTable_n_lamps,rfl,p,tr,txt,l,e,pl,m.lamps,"loop",Tilt.LOOP,T.lamps.map Tilt.Lamp.name,rfl,R.ws,⟨_,R.lm,fun b=>zc7⟩,⟨by decide +kernel,by decide +kernel⟩,(Out.bind q).loc R.s0 R.sp fun n en q H1 t1 p1 h1 ht k1=>?_⟩
  have R1:=R.step k1 h1
  obtain ⟨d1,a1,w1,_⟩:=R1.ws.ob
  refine ⟨_,rfl,p,_,_,rfl,w1,rfl,p,tr,txt,n.2,e,_,"at","at",rfl,R1.ws,⟨by decide +kernel,by decide +kernel⟩,(Out.bind q).loc R1.s0 R1.sp fun a ea q H2 p2 h2 k2=>?_⟩
  have R2:=R1.step k2 h2
  obtain ⟨d2,a2,w2,_⟩:=R2.ws.ob
  refine ⟨_,rfl,p,_,_,rfl,w2,rfl,_,rfl,t,_,_,_,_,rfl,R2.tab,f_tTable_cl,f_tTable_n_last_lamp,rfl,p,tr,txt,a,e,_,63,m.last_lamp,T.lamps.map Tilt.Lamp.place,rfl,R2.ws,tw.ll,(Out.bind q).loc R2.s0 R2.sp fun c ec q H3 p3 h3 k3=>?_⟩
  have R3:=R2.step k3 h3
  have ht:=R2.tup k3 (R1.tup k2 ht)
  obtain ⟨hc63,hca⟩:=zm3 ec
  have hlt:=TW.above tw.ll hca
  have hnew:=zr2 en
  have hz:(lmD T).length<sizeLine:=by have:=tw.lb;simp [lmD,sizeLine];omega
  refine ⟨_,rfl,_,rfl,t,_,_,_,_,rfl,R3.tab,f_tTable_cl,f_tTable_n_lamps,rfl,_,rfl,m.lamps,_,rfl,DPut.t R3.lm (k:=bK n.1.w) (by rw [bK_V];exact ht) hz,?_⟩
  have R4:=RG.putM (pre:=[_,_]) (.dT (putK (lmD T) (bK n.1.w) (.int c.1))) R3 rfl True.intro
  have e4:putK (lmD T) (bK n.1.w) (.int c.1)=lmD { T with lamps:=T.lamps++[⟨c.1,n.1.w⟩] }:=by unfold lmD;rw [zm8 _ hnew];simp
  rw [e4] at R4 ⊢
  have R4:RH K ⟨cC,cK,cW,cT,cF⟩ H0 tr txt _ t p dx m cs ks { T with lamps:=T.lamps++[⟨c.1,n.1.w⟩] } hk sk so c.2 e p3:=R4
  refine ⟨_,rfl,_,rfl,t,_,_,_,rfl,R4.tab,f_tTable_cl,f_tTable_n_last_lamp,(by show 14<1000;decide),?_⟩
  refine q _ p3 ⟨dx,{ m with last_lamp:=c.1 },cs,ks,hk,sk,⟨tw.bl,tw.dr,tw.ct,tw.ls,?_,tw.lc,tw.lk,tw.sn,tw.sp,tw.cn,tw.cp,tw.sb,?_,tw.cb,tw.c31,tw.dn,tw.kn,tw.hb,tw.hl,tw.hs,tw.vl,tw.vs,tw.kk,tw.hn,tw.hp,tw.vn,tw.vp⟩,RG.tabP (ad:=⟨cC,cK,cW,cT,cF⟩) { m with last_lamp:=c.1 } R4⟩
  ·rw [List.map_append];exact tw.ll.snoc hlt
  ·have:=tw.lb;simp;omega
theorem zlk (tG:TG K mg) (tWords:zb9 K cW) (tTable:zd0 K cT) (m_Words_take_new_name:Md P w K mg base (CXF P w cF) cW "take_new_name" ["self","names","barred"] 5 (ztn K cW cF)) (m_Words_take_fixed:Md P w K mg base (CXF P w cF) cW "take_fixed" ["self","word"] 4 (zfq K cW cF)) (m_Words_take_place:Md P w K mg base (CXF P w cF) cW "take_place" ["self","most","before"] 5 (zkv K cW cF)) (m_Words_take_number:Md P w K mg base (CXF P w cF) cW "take_number" ["self","least","most"] 4 (zey K cW cF)) (m_Words_more:Md P w K mg base CX0 cW "more" ["self"] 1 (zjh K cW)) (F:FnK K mg "read_switch" zdh) :
  Dn P w K mg base (CXF P w cF) "read_switch" ["table","words"] 6 (spLn K ⟨cC,cK,cW,cT,cF⟩ (fun _=>True) ze2):=by
 refine F.dnF sc_read_switch zla (fun vs H Q E h=>?_) (fun f cdv A outer s H vs Q E hr h=>?_)
 ·obtain ⟨t,p,tr,txt,H0,T,so,l,e,pl,rfl,_⟩:=h
  rfl
 ·obtain ⟨t,p,tr,txt,H0,T,so,l,e,pl,rfl,⟨dx,m,cs,ks,hk,sk,tw,R⟩,_,q⟩:=h
  have hu:=za2 hr
  have hu64:=hr.units
  refine ⟨_,(zab (zax (i:=2) sc_read_switch.nd rfl (Or.inl rfl) (pe_m m_Words_take_new_name tWords.cl hr za0 (pv 1) (zaa (zah (pv 0) rfl) (zaa zb6 zad))))
   (zab (zal (pe_m m_Words_take_fixed tWords.cl hr za0 (pv 1) (zaa zb6 zad)))
   (zab (zax (i:=3) sc_read_switch.nd rfl (Or.inl rfl) (pe_m m_Words_take_place tWords.cl hr za0 (pv 1) (zaa zao (zaa (zah (pv 0) rfl) zad))))
   (zab (zal (pe_m m_Words_take_fixed tWords.cl hr za0 (pv 1) (zaa zb6 zad)))
   (zab (zal (pe_m m_Words_take_number tWords.cl hr za0 (pv 1) (zaa zao (zaa zao zad))))
   (zab (zal (pe_m m_Words_take_fixed tWords.cl hr za0 (pv 1) (zaa zb6 zad)))
   (zab (zal (pe_m m_Words_take_number tWords.cl hr za0 (pv 1) (zaa zao (zaa zao zad))))
   (zab (za5 (zct (zbk m_Words_more tWords.cl hr zaz (pv 1))) (zac (zal (pe_m m_Words_take_fixed tWords.cl hr za0 (pv 1) (zaa zb6 zad)))) zaq)
   (zab (zg1 hu (zah (pv 0) rfl) (pv 2) (pv 3) rfl)
   (zac (zau (pv 0) (pv 3) rfl))))))))))),?_⟩
  have f_tWords_cl:=tWords.cl
  have f_tTable_cl:=tTable.cl
  have f_tTable_n_switches:=tTable.n_switches
  have f_tTable_n_last_switch:=tTable.n_last_switch
  obtain ⟨d0,a0,w0,_⟩:=R.ws.ob
  refine ⟨_,rfl,p,_,_,rfl,w0,rfl,_,rfl,t,_,_,_,_,rfl,R.tab,f_tTable_cl,f_tTable_n_switches,rfl,p,tr,txt,l,e,pl,m.switches,"drain",Tilt.DRAIN,T.switches.map Tilt.Switch.name,rfl,R.ws,⟨_,R.sw,fun b=>zc7⟩,⟨by decide +kernel,by decide +kernel⟩,(Out.bind q).loc R.s0 R.sp fun n en q H1 t1 p1 h1 ht k1=>?_⟩
  have R1:=R.step k1 h1
  obtain ⟨d1,a1,w1,_⟩:=R1.ws.ob
  refine ⟨_,rfl,p,_,_,rfl,w1,rfl,p,tr,txt,n.2,e,_,"at","at",rfl,R1.ws,⟨by decide +kernel,by decide +kernel⟩,(Out.bind q).loc R1.s0 R1.sp fun a ea q H2 p2 h2 k2=>?_⟩
  have R2:=R1.step k2 h2
  obtain ⟨d2,a2,w2,_⟩:=R2.ws.ob
  refine ⟨_,rfl,p,_,_,rfl,w2,rfl,_,rfl,t,_,_,_,_,rfl,R2.tab,f_tTable_cl,f_tTable_n_last_switch,rfl,p,tr,txt,a,e,_,63,m.last_switch,T.switches.map Tilt.Switch.place,rfl,R2.ws,tw.ls,(Out.bind q).loc R2.s0 R2.sp fun c ec q H3 p3 h3 k3=>?_⟩
  have R3:=R2.step k3 h3
  have ht:=R2.tup k3 (R1.tup k2 ht)
  obtain ⟨d3,a3,w3,_⟩:=R3.ws.ob
  refine ⟨_,rfl,p,_,_,rfl,w3,rfl,p,tr,txt,c.2,e,_,"close","close",rfl,R3.ws,⟨by decide +kernel,by decide +kernel⟩,(Out.bind q).loc R3.s0 R3.sp fun b eb q H4 p4 h4 k4=>?_⟩
  have R4:=R3.step k4 h4
  have ht:=R3.tup k4 ht
  obtain ⟨d4,a4,w4,_⟩:=R4.ws.ob
  refine ⟨_,rfl,p,_,_,rfl,w4,rfl,p,tr,txt,b,e,_,1,31,rfl,R4.ws,(Out.bind q).loc R4.s0 R4.sp fun cl ecl q H5 h5 k5=>?_⟩
  have R5:=R4.step k5 h5
  have ht:=R4.tup k5 ht
  obtain ⟨d5,a5,w5,_⟩:=R5.ws.ob
  refine ⟨_,rfl,p,_,_,rfl,w5,rfl,p,tr,txt,cl.2,e,_,"open","open",rfl,R5.ws,⟨by decide +kernel,by decide +kernel⟩,(Out.bind q).loc R5.s0 R5.sp fun d ed q H6 p6 h6 k6=>?_⟩
  have R6:=R5.step k6 h6
  have ht:=R5.tup k6 ht
  obtain ⟨d6,a6,w6,_⟩:=R6.ws.ob
  refine ⟨_,rfl,p,_,_,rfl,w6,rfl,p,tr,txt,d,e,_,1,31,rfl,R6.ws,(Out.bind q).loc R6.s0 R6.sp fun o eo q H7 h7 k7=>?_⟩
  have R7:=R6.step k7 h7
  have ht:=R6.tup k7 ht
  obtain ⟨d7,a7,w7,_⟩:=R7.ws.ob
  obtain ⟨hc63,hca⟩:=zm3 ec
  have hlt:=TW.above tw.ls hca
  have hnew:=zr2 en
  have fin:∀ (H8:Hp) (r:List Tilt.Word) (p8:Nat),RH K ⟨cC,cK,cW,cT,cF⟩ H0 tr txt H8 t p dx m cs ks T hk sk so r e p8→H8 t1=some (.tup (bV n.1.w))→
    (∀ H' p',RS K ⟨cC,cK,cW,cT,cF⟩ H0 tr txt H' t p { T with switches:=T.switches++[⟨c.1,cl.1.1,o.1.1,!o.2.isEmpty,n.1.w⟩] } so r e p'→Q .non H')→
    (tSeq (zA6 (tFld K (tVar 0) "switches") (tVar 2) (tVar 3)) (sFld K (tVar 0) (tVar 3) "last_switch")) { nx:=fun _ H'=>Q .non H',rt:=Q } [some (.ref t),some (.ref p),some (.ref t1),some (.int c.1)] H8:=by
   intro H8 r p8 R8 ht q
   have hz:(swD T).length<sizeLine:=by have:=tw.sb;simp [swD,sizeLine];omega
   refine ⟨_,rfl,_,rfl,t,_,_,_,_,rfl,R8.tab,f_tTable_cl,f_tTable_n_switches,rfl,_,rfl,m.switches,_,rfl,DPut.t R8.sw (k:=bK n.1.w) (by rw [bK_V];exact ht) hz,?_⟩
   have R9:=RG.putM (pre:=[_]) (.dT (putK (swD T) (bK n.1.w) (.int c.1))) R8 rfl True.intro
   have e9:putK (swD T) (bK n.1.w) (.int c.1)=swD { T with switches:=T.switches++[⟨c.1,cl.1.1,o.1.1,!o.2.isEmpty,n.1.w⟩] }:=by unfold swD;rw [zm8 _ hnew];simp
   rw [e9] at R9 ⊢
   have R9:RH K ⟨cC,cK,cW,cT,cF⟩ H0 tr txt _ t p dx m cs ks { T with switches:=T.switches++[⟨c.1,cl.1.1,o.1.1,!o.2.isEmpty,n.1.w⟩] } hk sk so r e p8:=R9
   refine ⟨_,rfl,_,rfl,t,_,_,_,rfl,R9.tab,f_tTable_cl,f_tTable_n_last_switch,(by show 14<1000;decide),?_⟩
   refine q _ p8 ⟨dx,{ m with last_switch:=c.1 },cs,ks,hk,sk,⟨tw.bl,tw.dr,tw.ct,?_,tw.ll,tw.lc,tw.lk,?_,?_,tw.cn,tw.cp,?_,tw.lb,tw.cb,tw.c31,tw.dn,tw.kn,tw.hb,tw.hl,?_,tw.vl,tw.vs,tw.kk,fun b hb=>?_,fun x hx=>?_,tw.vn,tw.vp⟩,RG.tabP (ad:=⟨cC,cK,cW,cT,cF⟩) { m with last_switch:=c.1 } R9⟩
   ·rw [List.map_append];exact tw.ls.snoc hlt
   ·rw [List.map_append];refine zio tw.sn ?_;simpa using hnew
   ·rw [List.map_append];exact zio tw.sp (tw.ls.notin hlt)
   ·have:=tw.sb;simp;omega
   ·intro s hs
    rcases List.mem_append.mp hs with hs | hs
    ·exact tw.hs s hs
    ·rw [List.mem_singleton.mp hs]
     have z1:(valV hk (bK n.1.w)).isSome=false:=by
      cases z:(valV hk (bK n.1.w)).isSome with
      | false=>rfl
      | true=>exact absurd (List.elem_eq_true_of_mem (tw.hn _ z)) (by rw [show List.elem n.1.w (T.switches.map Tilt.Switch.name)=false from hnew];decide)
     have z2:T.held.contains c.1=false:=by
      cases z:T.held.contains c.1 with
      | false=>rfl
      | true=>exact absurd (tw.hp _ (by simpa using z)) (tw.ls.notin hlt)
     show (valV hk (bK n.1.w)).isSome=T.held.contains c.1
     rw [z1,z2]
   ·rw [List.map_append];exact List.mem_append_left _ (tw.hn b hb)
   ·rw [List.map_append];exact List.mem_append_left _ (tw.hp x hx)
  refine ⟨_,rfl,p,_,_,rfl,w7,rfl,p,tr,txt,o.2,e,_,rfl,R7.ws,_,rfl,?_⟩
  have q:Out cF E (fun _=>False) H0 (if o.2.isEmpty=true then .ok o.2 else Tilt.must e "turned" o.2) _:=Out.bind q
  cases ho:o.2.isEmpty with
  | true=>
   rw [if_pos ho] at q
   exact iteF (fin _ _ _ R7 ht q)
  | false=>
   rw [if_neg (by rw [ho];decide)] at q
   refine iteT ⟨_,rfl,p,_,_,rfl,w7,rfl,p,tr,txt,o.2,e,_,"turned","turned",rfl,R7.ws,⟨by decide +kernel,by decide +kernel⟩,q.loc R7.s0 R7.sp fun r er q H8 p8 h8 k8=>?_⟩
   exact fin _ _ _ (R7.step k8 h8) (R7.tup k8 ht) q
theorem zoz (tG:TG K mg) (tWords:zb9 K cW) (tTable:zd0 K cT) (m_Words_take_new_name:Md P w K mg base (CXF P w cF) cW "take_new_name" ["self","names","barred"] 5 (ztn K cW cF)) (m_Words_take_fixed:Md P w K mg base (CXF P w cF) cW "take_fixed" ["self","word"] 4 (zfq K cW cF)) (m_Words_take_place:Md P w K mg base (CXF P w cF) cW "take_place" ["self","most","before"] 5 (zkv K cW cF)) (m_Words_take_number:Md P w K mg base (CXF P w cF) cW "take_number" ["self","least","most"] 4 (zey K cW cF)) (m_Words_more:Md P w K mg base CX0 cW "more" ["self"] 1 (zjh K cW)) (i_Coil:Id P w K mg base CX0 cC "Coil" ["self","place","most","rest","hold"] 1 (zfu cC)) (F:FnK K mg "read_coil" zea) :
  Dn P w K mg base (CXF P w cF) "read_coil" ["table","words"] 6 (spLn K ⟨cC,cK,cW,cT,cF⟩ (fun _=>True) zmd):=by
 refine F.dnF sc_read_coil zn8 (fun vs H Q E h=>?_) (fun f cdv A outer s H vs Q E hr h=>?_)
 ·obtain ⟨t,p,tr,txt,H0,T,so,l,e,pl,rfl,_⟩:=h
  rfl
 ·obtain ⟨t,p,tr,txt,H0,T,so,l,e,pl,rfl,⟨dx,m,cs,ks,hk,sk,tw,R⟩,_,q⟩:=h
  have hu:=za2 hr
  have hu64:=hr.units
  refine ⟨_,(zab (zax (i:=2) sc_read_coil.nd rfl (Or.inl rfl) (pe_m m_Words_take_new_name tWords.cl hr za0 (pv 1) (zaa (zah (pv 0) rfl) (zaa (zC3 tG.s_NOT_BARRED) zad))))
   (zab (zal (pe_m m_Words_take_fixed tWords.cl hr za0 (pv 1) (zaa zb6 zad)))
   (zab (zax (i:=3) sc_read_coil.nd rfl (Or.inl rfl) (pe_m m_Words_take_place tWords.cl hr za0 (pv 1) (zaa zao (zaa (zah (pv 0) rfl) zad))))
   (zab (zal (pe_m m_Words_take_fixed tWords.cl hr za0 (pv 1) (zaa zb6 zad)))
   (zab (zax (i:=4) sc_read_coil.nd rfl (Or.inl rfl) (pe_m m_Words_take_number tWords.cl hr za0 (pv 1) (zaa zao (zaa zao zad))))
   (zab (zal (pe_m m_Words_take_fixed tWords.cl hr za0 (pv 1) (zaa zb6 zad)))
   (zab (zax (i:=5) sc_read_coil.nd rfl (Or.inl rfl) (pe_m m_Words_take_number tWords.cl hr za0 (pv 1) (zaa zao (zaa zao zad))))
   (zab (zax (i:=6) sc_read_coil.nd rfl (Or.inl rfl) zao)
   (zab (za5 (zct (zbk m_Words_more tWords.cl hr zaz (pv 1))) (zab (zal (pe_m m_Words_take_fixed tWords.cl hr za0 (pv 1) (zaa zb6 zad)))
   (zac (zax (i:=6) sc_read_coil.nd rfl (Or.inl rfl) (pe_m m_Words_take_number tWords.cl hr za0 (pv 1) (zaa zao (zaa zao zad)))))) zaq)
   (zab (zg1 hu (zah (pv 0) rfl) (pv 2) (pe_i i_Coil hr zaz (zaa (pv 3) (zaa (pv 4) (zaa (pv 5) (zaa (pv 6) zad))))) rfl)
   (zac (zau (pv 0) (pv 3) rfl)))))))))))),?_⟩
  have f_tWords_cl:=tWords.cl
  have f_tTable_cl:=tTable.cl
  have f_tTable_n_coils:=tTable.n_coils
  have f_tTable_n_last_coil:=tTable.n_last_coil
  obtain ⟨d0,a0,w0,_⟩:=R.ws.ob
  refine ⟨_,rfl,p,_,_,rfl,w0,rfl,_,rfl,t,_,_,_,_,rfl,R.tab,f_tTable_cl,f_tTable_n_coils,rfl,p,tr,txt,l,e,pl,m.coils,"",[],T.coils.map Tilt.Coil.name,rfl,R.ws,⟨_,R.co,fun b=>?_⟩,⟨by decide +kernel,by decide +kernel⟩,(Out.bind q).loc R.s0 R.sp fun n en q H1 t1 p1 h1 ht k1=>?_⟩
  ·rw [← tw.ct,List.map_map];exact zc7 (l:=cs) (g:=fun c=>c.2.2.name)
  have R1:=R.step k1 h1
  obtain ⟨d1,a1,w1,_⟩:=R1.ws.ob
  refine ⟨_,rfl,p,_,_,rfl,w1,rfl,p,tr,txt,n.2,e,_,"at","at",rfl,R1.ws,⟨by decide +kernel,by decide +kernel⟩,(Out.bind q).loc R1.s0 R1.sp fun a ea q H2 p2 h2 k2=>?_⟩
  have R2:=R1.step k2 h2
  obtain ⟨d2,a2,w2,_⟩:=R2.ws.ob
  refine ⟨_,rfl,p,_,_,rfl,w2,rfl,_,rfl,t,_,_,_,_,rfl,R2.tab,f_tTable_cl,f_tTable_n_last_coil,rfl,p,tr,txt,a,e,_,31,m.last_coil,T.coils.map Tilt.Coil.place,rfl,R2.ws,tw.lc,(Out.bind q).loc R2.s0 R2.sp fun c ec q H3 p3 h3 k3=>?_⟩
  have R3:=R2.step k3 h3
  have ht:=R2.tup k3 (R1.tup k2 ht)
  obtain ⟨d3,a3,w3,_⟩:=R3.ws.ob
  refine ⟨_,rfl,p,_,_,rfl,w3,rfl,p,tr,txt,c.2,e,_,"most","most",rfl,R3.ws,⟨by decide +kernel,by decide +kernel⟩,(Out.bind q).loc R3.s0 R3.sp fun b eb q H4 p4 h4 k4=>?_⟩
  have R4:=R3.step k4 h4
  have ht:=R3.tup k4 ht
  obtain ⟨d4,a4,w4,_⟩:=R4.ws.ob
  refine ⟨_,rfl,p,_,_,rfl,w4,rfl,p,tr,txt,b,e,_,1,1023,rfl,R4.ws,(Out.bind q).loc R4.s0 R4.sp fun cl ecl q H5 h5 k5=>?_⟩
  have R5:=R4.step k5 h5
  have ht:=R4.tup k5 ht
  obtain ⟨d5,a5,w5,_⟩:=R5.ws.ob
  refine ⟨_,rfl,p,_,_,rfl,w5,rfl,p,tr,txt,cl.2,e,_,"rest","rest",rfl,R5.ws,⟨by decide +kernel,by decide +kernel⟩,(Out.bind q).loc R5.s0 R5.sp fun d ed q H6 p6 h6 k6=>?_⟩
  have R6:=R5.step k6 h6
  have ht:=R5.tup k6 ht
  obtain ⟨d6,a6,w6,_⟩:=R6.ws.ob
  refine ⟨_,rfl,p,_,_,rfl,w6,rfl,p,tr,txt,d,e,_,1,4095,rfl,R6.ws,(Out.bind q).loc R6.s0 R6.sp fun o eo q H7 h7 k7=>?_⟩
  have R7:=R6.step k7 h7
  have ht:=R6.tup k7 ht
  obtain ⟨d7,a7,w7,_⟩:=R7.ws.ob
  obtain ⟨hc63,hca⟩:=zm3 ec
  have hlt:=TW.above tw.lc hca
  have hnew:=zr2 en
  have fin:∀ (H8:Hp) (g:Nat) (r:List Tilt.Word) (p8:Nat),RH K ⟨cC,cK,cW,cT,cF⟩ H0 tr txt H8 t p dx m cs ks T hk sk so r e p8→H8 t1=some (.tup (bV n.1.w))→
    (∀ H' p',RS K ⟨cC,cK,cW,cT,cF⟩ H0 tr txt H' t p { T with coils:=T.coils++[⟨c.1,cl.1.1,o.1.1,g,n.1.w⟩] } so r e p'→Q .non H')→
    (tSeq (zA6 (tFld K (tVar 0) "coils") (tVar 2) (zpi cC (zfu cC) [] E0 (zdk (tVar 3) (zdk (tVar 4) (zdk (tVar 5) (zdk (tVar 6) tNil)))))) (sFld K (tVar 0) (tVar 3) "last_coil")) { nx:=fun _ H'=>Q .non H',rt:=Q } [some (.ref t),some (.ref p),some (.ref t1),some (.int c.1),some (.int cl.1.1),some (.int o.1.1),some (.int g)] H8:=by
   intro H8 g r p8 R8 ht q
   have hz:(coD cs).length<sizeLine:=by
    have h1:=tw.cb
    have h2:=congrArg List.length tw.ct
    simp at h2
    simp [coD,sizeLine];omega
   refine ⟨_,rfl,_,rfl,_,rfl,_,rfl,fun x dc hx hdc ne=>?_⟩
   refine ⟨x,dc,c.1,cl.1.1,o.1.1,g,rfl,zaf,by omega,by omega,rfl,?_⟩
   rw [zc9,show (⟨((c.1:Nat):Int),((cl.1.1:Nat):Int),((o.1.1:Nat):Int),(g:Int),0,0,0,0,false,0⟩ : MC)=mc0 ⟨c.1,cl.1.1,o.1.1,g,n.1.w⟩ from rfl]
   have hx':upd H8 dc (.own x) x=none:=by rw [zag ne.symm];exact hx
   have R8a:=R8.same (Same.new (o:=.own x) hdc)
   have ex:upd H8 dc (.own x)=upd H8 dc (.own x):=rfl
   have R8b:=RG.add (pre:=(t, .ins cT dx (zdx m)) :: (m.switches, .dT (swD T)) :: (m.lamps, .dT (lmD T)) :: (m.coils, .dT (coD cs)) :: (m.devices, .dT (dvD T)) :: (m.kicks, .lst (ks.map fun k=>.ref k.1)) :: (m.housed, .dT hk) :: (m.served, .dT sk) :: coC cC cs) (post:=kiC cK ks) (.ins cC dc (za4 (mc0 ⟨c.1,cl.1.1,o.1.1,g,n.1.w⟩))) R8a rfl hx'
   have ht8:=Same.trans (Same.new (o:=.own x) hdc) (Same.new (o:=.ins cC dc (za4 (mc0 ⟨c.1,cl.1.1,o.1.1,g,n.1.w⟩))) hx') _ _ ht
   refine ⟨_,rfl,t,_,_,_,_,rfl,R8b.ce _ (.head _),f_tTable_cl,f_tTable_n_coils,rfl,_,rfl,m.coils,_,rfl,DPut.t (R8b.ce _ (.tail _ (.tail _ (.tail _ (.head _))))) (k:=bK n.1.w) (by rw [bK_V];exact ht8) hz,?_⟩
   have R9:=RG.putM (pre:=[_,_,_]) (.dT (putK (coD cs) (bK n.1.w) (.ref x))) R8b rfl True.intro
   have e9:putK (coD cs) (bK n.1.w) (.ref x)=coD (cs++[(x,dc,⟨c.1,cl.1.1,o.1.1,g,n.1.w⟩)]):=by
    unfold coD
    rw [zm8 (l:=cs) (g:=fun c=>c.2.2.name) (v:=fun c=>.ref c.1) _ (by rw [← tw.ct,List.map_map] at hnew;exact hnew)];simp
   rw [e9] at R9 ⊢
   generalize upd _ m.coils _=H9 at R9 ⊢
   have R9:RH K ⟨cC,cK,cW,cT,cF⟩ H0 tr txt H9 t p dx m (cs++[(x,dc,⟨c.1,cl.1.1,o.1.1,g,n.1.w⟩)]) ks { T with coils:=T.coils++[⟨c.1,cl.1.1,o.1.1,g,n.1.w⟩] } hk sk so r e p8:=by
    unfold RH cells
    simpa [coC,swD,lmD,dvD] using R9
   refine ⟨_,rfl,_,rfl,t,_,_,_,rfl,R9.tab,f_tTable_cl,f_tTable_n_last_coil,(by show 14<1000;decide),?_⟩
   refine q _ p8 ⟨dx,{ m with last_coil:=c.1 },_,ks,hk,sk,⟨tw.bl,tw.dr,?_,tw.ls,tw.ll,?_,tw.lk,tw.sn,tw.sp,?_,?_,tw.sb,tw.lb,?_,?_,tw.dn,tw.kn,tw.hb,tw.hl,tw.hs,tw.vl,?_,?_,tw.hn,tw.hp,fun b hb=>?_,fun x hx=>?_⟩,RG.tabP (ad:=⟨cC,cK,cW,cT,cF⟩) { m with last_coil:=c.1 } R9⟩
   ·rw [List.map_append,tw.ct];rfl
   ·rw [List.map_append];exact tw.lc.snoc hlt
   ·rw [List.map_append];refine zio tw.cn ?_;simpa using hnew
   ·rw [List.map_append];exact zio tw.cp (tw.lc.notin hlt)
   ·have:=tw.cb;simp;omega
   ·intro y hy
    rcases List.mem_append.mp hy with hy | hy
    ·exact tw.c31 y hy
    ·rw [List.mem_singleton.mp hy];exact hc63
   ·intro s hs
    rcases List.mem_append.mp hs with hs | hs
    ·exact tw.vs s hs
    ·rw [List.mem_singleton.mp hs]
     have z1:(valV sk (bK n.1.w)).isSome=false:=by
      cases z:(valV sk (bK n.1.w)).isSome with
      | false=>rfl
      | true=>exact absurd (List.elem_eq_true_of_mem (tw.vn _ z)) (by rw [show List.elem n.1.w (T.coils.map Tilt.Coil.name)=false from hnew];decide)
     have z2:(udOf T).contains c.1=false:=by
      cases z:(udOf T).contains c.1 with
      | false=>rfl
      | true=>exact absurd (tw.vp _ (by simpa using z)) (tw.lc.notin hlt)
     show (valV sk (bK n.1.w)).isSome=(udOf T).contains c.1
     rw [z1,z2]
   ·refine Paired.mapP tw.kk fun a b h=>?_
    obtain ⟨h1,h2,h3,dc,cc,h4,h5⟩:=h
    exact ⟨h1,h2,h3,dc,cc,List.mem_append_left _ h4,h5⟩
   ·rw [List.map_append];exact List.mem_append_left _ (tw.vn b hb)
   ·rw [List.map_append];exact List.mem_append_left _ (tw.vp x hx)
  refine ⟨_,rfl,p,_,_,rfl,w7,rfl,p,tr,txt,o.2,e,_,rfl,R7.ws,_,rfl,?_⟩
  have q:=Out.bind q
  unfold zz7 at q
  cases ho:o.2.isEmpty with
  | true=>
   rw [if_pos ho] at q
   exact iteF (fin _ 0 _ _ R7 ht q)
  | false=>
   rw [if_neg (by rw [ho];decide)] at q
   refine iteT ⟨_,rfl,p,_,_,rfl,w7,rfl,p,tr,txt,o.2,e,_,"hold","hold",rfl,R7.ws,⟨by decide +kernel,by decide +kernel⟩,(Out.bind q).loc R7.s0 R7.sp fun r er q H8 p8 h8 k8=>?_⟩
   have R8:=R7.step k8 h8
   obtain ⟨d8,a8,w8,_⟩:=R8.ws.ob
   refine ⟨_,rfl,p,_,_,rfl,w8,rfl,p,tr,txt,r,e,_,1,15,rfl,R8.ws,(Out.bind q).loc R8.s0 R8.sp fun g eg q H9 h9 k9=>?_⟩
   exact fin _ g.1.1 _ _ (R8.step k9 h9) (R8.tup k9 (R7.tup k8 ht)) q
end
end
section
def zat (T:Tilt.Table) (b:Bytes):Tilt.Switch:=(T.switches.find? fun s=>s.name == b).getD ⟨0,0,0,false,[]⟩
def zgd (T:Tilt.Table) (b:Bytes):Tilt.Coil:=(T.coils.find? fun s=>s.name == b).getD ⟨0,0,0,0,[]⟩
theorem zmh {α:Type} {l:List α} {g:α→Bytes} {b:Bytes} {d:α} (h:(l.map g).contains b=true):(l.find? fun s=>g s == b).getD d∈l∧g ((l.find? fun s=>g s == b).getD d)=b:=by
 induction l with
 | nil=>cases h
 | cons x r ih=>
  by_cases hx:g x=b
  ·simp [List.find?_cons,hx]
  ·have hb:(g x == b)=false:=by simp [hx]
   rw [List.map_cons,List.contains_cons] at h
   have h2:(b == g x)=false:=by simp;exact fun z=>hx z.symm
   rw [h2,Bool.false_or] at h
   rw [List.find?_cons,hb]
   exact ⟨List.mem_cons_of_mem _ (ih h).1,(ih h).2⟩
def zup (e:Nat) (T:Tilt.Table) (ud:List Nat) (l:List Tilt.Word):Except Tilt.Fault (Tilt.Coil×List Tilt.Word):=do
 let x ← zfj e (T.coils.map Tilt.Coil.name) l
 let _ ← Tilt.holds (!ud.contains (zgd T x.1.w).place) 7 x.1.at_
 return (zgd T x.1.w,x.2)
def zlt (T:Tilt.Table) (hd:List Nat) (b:Bytes) (p:Nat):Except Tilt.Fault Nat:=do
 let _ ← kn (T.switches.map Tilt.Switch.name) b p
 let _ ← Tilt.holds (!hd.contains (zat T b).place) 7 p
 return (zat T b).place
def zgq (e:Nat) (T:Tilt.Table):Nat→List Nat→List Tilt.Word→Except Tilt.Fault ((List Nat×Bool)×List Tilt.Word)
 | 0,had,l=>match l with
  | []=>.ok ((had,false),[])
  | w :: r=>if w.w=Tilt.DRAIN then .ok ((had,true),r) else .error ⟨3,w.at_⟩
 | k+1,had,l=>match l with
  | []=>if had=[] then .error ⟨3,e⟩ else .ok ((had,false),[])
  | w :: r=>if had≠[]∧w.w=Tilt.DRAIN then .ok ((had,true),r) else do
   let p ← zlt T (T.held++had) w.w w.at_
   zgq e T k (had++[p]) r
def zes (e:Nat) (T:Tilt.Table) (l:List Tilt.Word):Except Tilt.Fault (Tilt.Table×List Tilt.Word):=do
 let n ← newR e (T.devices.map Tilt.Device.name) [] l
 let a ← Tilt.must e "by" n.2
 let c ← zup e T (udOf T) a
 let b ← Tilt.must e "holds" c.2
 let h ← zgq e T 8 [] b
 return ({ T with devices:=T.devices++[⟨c.1.place,h.1.1,h.1.2,n.1.w⟩] },h.2)
def zBo (e:Nat) (T:Tilt.Table) (p:Nat) (l:List Tilt.Word):Except Tilt.Fault (Option Nat×List Tilt.Word):=if l.isEmpty=true then .ok (none,l) else do
 let a ← Tilt.must e "till" l
 let u ← zfj e (T.switches.map Tilt.Switch.name) a
 let _ ← Tilt.holds ((zat T u.1.w).place != p) 7 u.1.at_
 return (some (zat T u.1.w).place,u.2)
def zp8 (e:Nat) (T:Tilt.Table) (l:List Tilt.Word):Except Tilt.Fault (Tilt.Table×List Tilt.Word):=do
 let s ← zfj e (T.switches.map Tilt.Switch.name) l
 let _ ← Tilt.holds (T.kicks.all fun k=>decide (k.first<(zat T s.1.w).place)) 5 s.1.at_
 let _ ← Tilt.holds (!T.held.contains (zat T s.1.w).place) 7 s.1.at_
 let c ← zup e T (udOf T) s.2
 let d ← Tilt.must e "for" c.2
 let t ← Tilt.number e 1 255 d
 let _ ← Tilt.holds (decide (t.1.1≤c.1.most)) 7 t.1.2
 let r ← zBo e T (zat T s.1.w).place t.2
 return ({ T with kicks:=T.kicks++[⟨(zat T s.1.w).place,c.1.place,t.1.1,r.1⟩] },r.2)
theorem zmn {e:Nat} {had:List Bytes} {l:List Tilt.Word} {x:Tilt.Word×List Tilt.Word} (h:zfj e had l = .ok x):had.contains x.1.w=true:=by
 unfold zfj at h
 cases l with
 | nil=>cases h
 | cons y r=>
  simp only [Tilt.next,bind,Except.bind,kn] at h
  split at h
  ·cases h
  ·rename_i u hu
   split at hu
   ·cases hu
   ·split at hu
    ·cases hu
    ·rename_i hc
     cases h
     cases z:had.contains y.w with
     | true=>rfl
     | false=>exact absurd z hc
theorem zDz {had:List Bytes} {b:Bytes} {p:Nat} {u:Unit} (h:kn had b p = .ok u):had.contains b=true:=by
 unfold kn at h
 split at h
 ·cases h
 ·split at h
  ·cases h
  ·rename_i hc
   cases z:had.contains b with
   | true=>rfl
   | false=>exact absurd z hc
theorem zxo {b:Bool} {k p:Nat} {u:Unit} (h:Tilt.holds b k p = .ok u):b=true:=by
 unfold Tilt.holds at h
 split at h
 ·assumption
 ·cases h
theorem zx3 {α β:Type} {l:List α} {g:α→β} (n:(l.map g).Nodup) {x y:α} (hx:x∈l) (hy:y∈l) (e:g x=g y):x=y:=by
 induction l with
 | nil=>cases hx
 | cons z r ih=>
  rw [List.map_cons,List.nodup_cons] at n
  rcases List.mem_cons.mp hx with h1 | h1<;>rcases List.mem_cons.mp hy with h2 | h2
  ·rw [h1,h2]
  ·exact absurd (by rw [← h1,e];exact List.mem_map_of_mem h2) n.1
  ·exact absurd (by rw [← h2,← e];exact List.mem_map_of_mem h1) n.1
  ·exact ih n.2 h1 h2
theorem zof (l:List Nat) (a b:Nat):(l++[a]).contains b=(decide (b=a) || l.contains b):=by
 rw [List.contains_eq_any_beq,List.contains_eq_any_beq,List.any_append]
 by_cases h:b=a<;>simp [h,Bool.or_comm]
section
variable {cW cF cT cC cK:Addr}
def zsh (K:W.Frag) (ad:Ad):Sp:=fun vs H Q E=>E8 fun t w tr txt H0 dx m cs=>E8 fun ks T hk sk rm hd ud so=>E3 fun l e p=>A4 (vs=[.ref t, .ref w]) (RM K ad H0 tr txt H t w dx m cs ks T hk sk rm hd ud so l e p) (ud.length≤1000) (Out ad.cF E (fun _=>False) H0 (zup e T ud l) fun x=>∀ H' sk' p' a dc,(a,dc,x.1)∈cs→RM K ad H0 tr txt H' t w dx m cs ks T hk sk' rm hd (ud++[x.1.place]) so x.2 e p'→(∀ b xs,H b=some (.tup xs)→H' b=some (.tup xs))→Q (.ref a) H')
def zq0 (K:W.Frag) (ad:Ad):Sp:=fun vs H Q E=>E8 fun t w tr txt H0 dx m cs=>E8 fun ks T hk sk rm hd ud so=>E5 fun l e p x b=>A6 (vs=[.ref t, .ref w, .ref x]) (RM K ad H0 tr txt H t w dx m cs ks T hk sk rm hd ud so l e p) (hd.length≤1000) (H x=some (.tup (bV b))) (b≠[]) (Out ad.cF E (fun _=>False) H0 (zlt T hd b p) fun x=>∀ H' hk',RM K ad H0 tr txt H' t w dx m cs ks T hk' sk rm (hd++[x]) ud so l e p→(∀ b xs,H b=some (.tup xs)→H' b=some (.tup xs))→Q .non H')
abbrev zcq:Stmt:=top 76
theorem sc_take_free_coil:zai ["table","words","name"] ["table","words"] (zae zcq):=by walk_at "sc"
theorem zie:zak zcq "take_free_coil" "take_free_coil" ["table","words"]:=fun _ _ _ _ _ _ us hl=>match us,hl with | [_,_],_=>rfl
abbrev zc6:Stmt:=top 78
theorem zku:zai ["table","words","word"] ["table","words","word"] (zae zc6):=by walk_at "sc"
theorem zj3:zak zc6 "house_switch" "house_switch" ["table","words","word"]:=fun _ _ _ _ _ _ us hl=>match us,hl with | [_,_,_],_=>rfl
theorem zml {K:W.Frag} {ad:Ad} {H0:Hp} {tr:Addr} {txt:Bytes} {H:Hp} {t w dx:Addr} {m:MT} {cs:CS} {ks:KS} {T:Tilt.Table} {hk sk:DT} {so:List Str} {l:List Tilt.Word} {e p:Nat} (R:RH K ad H0 tr txt H t w dx m cs ks T hk sk so l e p) {a:Addr} {o o':HO} (ha:H a=some o) (mu:Mut (some o)):∀ b xs,H b=some (.tup xs)→upd H a o' b=some (.tup xs):=fun b xs hb=>by
 have:b≠a:=fun z=>by rw [z,ha] at hb;cases hb;exact mu
 rw [zag this];exact hb
theorem zkk (tG:TG K mg) (tWords:zb9 K cW) (tTable:zd0 K cT) (m_Words_check_known:Md P w K mg base (CXF P w cF) cW "check_known" ["self","word","names"] 4 (zd4 K cW cF)) (m_Words_check:Md P w K mg base (CXF P w cF) cW "check" ["self","right","kind"] 3 (zc8 K cW cF)) (F:FnK K mg "house_switch" zc6) :
  Dn P w K mg base (CXF P w cF) "house_switch" ["table","words","word"] 5 (zq0 K ⟨cC,cK,cW,cT,cF⟩):=by
 refine F.dnF zku zj3 (fun vs H Q E h=>?_) (fun f cdv A outer s H vs Q E hr h=>?_)
 ·obtain ⟨t,p,tr,txt,H0,dx,m,cs,ks,T,hk,sk,rm,hd,ud,so,l,e,pl,x,b,rfl,_⟩:=h
  rfl
 ·obtain ⟨t,p,tr,txt,H0,dx,m,cs,ks,T,hk,sk,rm,hd,ud,so,l,e,pl,x,b,rfl,⟨tw,R⟩,hz,hx,hb,q⟩:=h
  have hu:=za2 hr
  have hu64:=hr.units
  refine ⟨_,(zab (zal (pe_m m_Words_check_known tWords.cl hr za0 (pv 1) (zaa (pv 2) (zaa (zah (pv 0) rfl) zad))))
   (zab (zal (pe_m m_Words_check tWords.cl hr za0 (pv 1) (zaa (zo7 (zeo hu (pv 2) (zah (pv 0) rfl))) (zaa (zap tG.g_NOT_FREE) zad))))
   (zac (zg1 hu (zah (pv 0) rfl) (pv 2) zei rfl)))),?_⟩
  have f_tWords_cl:=tWords.cl
  have f_tTable_cl:=tTable.cl
  have f_tTable_n_switches:=tTable.n_switches
  have f_tTable_n_housed:=tTable.n_housed
  obtain ⟨d0,a0,w0,_⟩:=R.ws.ob
  refine ⟨_,rfl,p,_,_,rfl,w0,rfl,_,rfl,_,rfl,t,_,_,_,_,rfl,R.tab,f_tTable_cl,f_tTable_n_switches,rfl,p,tr,txt,l,e,pl,m.switches,T.switches.map Tilt.Switch.name,x,b,rfl,R.ws,⟨_,R.sw,fun b=>zc7⟩,hx,hb,(Out.bind q).loc R.s0 R.sp fun u eu q H1 k1=>?_⟩
  have R1:=R.same k1
  have hx:=k1 _ _ hx
  obtain ⟨d1,a1,w1,_⟩:=R1.ws.ob
  obtain ⟨hs1,hs2⟩:=zmh (d:=⟨0,0,0,false,[]⟩) (zDz eu)
  have hs:=tw.hs _ hs1
  rw [hs2] at hs
  refine ⟨_,rfl,p,_,_,rfl,w1,rfl,_,rfl,_,rfl,t,_,_,_,_,rfl,R1.tab,f_tTable_cl,f_tTable_n_housed,rfl,m.housed,_,rfl,DGet.t R1.ho (k:=bK b) (by rw [bK_V];exact hx),p,tr,txt,l,e,pl,_,7,rfl,R1.ws,?_⟩
  rw [hs]
  refine (Out.bind q).loc R1.s0 R1.sp fun u eu q=>?_
  refine ⟨_,rfl,t,_,_,_,_,rfl,R1.tab,f_tTable_cl,f_tTable_n_housed,rfl,_,rfl,m.housed,_,rfl,DPut.t R1.ho (k:=bK b) (by rw [bK_V];exact hx) (by have:=tw.hl;simp [sizeLine];omega),?_⟩
  have R2:=RG.putM (pre:=[_,_,_,_,_,_]) (.dT (putK hk (bK b) (.bl true))) R1 rfl True.intro
  refine q _ _ ⟨⟨tw.bl,tw.dr,tw.ct,tw.ls,tw.ll,tw.lc,tw.lk,tw.sn,tw.sp,tw.cn,tw.cp,tw.sb,tw.lb,tw.cb,tw.c31,tw.dn,tw.kn,tw.hb,?_,?_,tw.vl,tw.vs,tw.kk,?_,?_,tw.vn,tw.vp⟩,R2⟩ fun c xs hc=>zml R1 R1.ho True.intro c xs (k1 _ _ hc)
  ·have:=zdu hk (bK b) (.bl true)
   have:=tw.hl
   simp;omega
  ·intro s hs
   rw [zfr,tw.hs s hs,zof]
   congr 1
   by_cases h:s.name=b
   ·have:s=(zat T b):=zx3 tw.sn hs hs1 (by rw [h];exact hs2.symm)
    rw [decide_eq_true h,decide_eq_true (show s.place=(zat T b).place by rw [this])]
   ·have:¬s.place=(zat T b).place:=fun z=>h (by rw [zx3 tw.sp hs hs1 z];exact hs2)
    rw [decide_eq_false h,decide_eq_false this]
  ·intro c hc
   rw [zfr,Bool.or_eq_true] at hc
   rcases hc with hc | hc
   ·rw [of_decide_eq_true hc,← hs2];exact List.mem_map_of_mem hs1
   ·exact tw.hn c hc
  ·intro c hc
   rcases List.mem_append.mp hc with hc | hc
   ·exact tw.hp c hc
   ·rw [List.mem_singleton.mp hc];exact List.mem_map_of_mem hs1
theorem ziy (tG:TG K mg) (tWords:zb9 K cW) (tTable:zd0 K cT) (m_Words_take_known_name:Md P w K mg base (CXF P w cF) cW "take_known_name" ["self","names"] 5 (znm K cW cF)) (m_Words_check:Md P w K mg base (CXF P w cF) cW "check" ["self","right","kind"] 3 (zc8 K cW cF)) (F:FnK K mg "take_free_coil" zcq) :
  Dn P w K mg base (CXF P w cF) "take_free_coil" ["table","words"] 6 (zsh K ⟨cC,cK,cW,cT,cF⟩):=by
 refine F.dnF sc_take_free_coil zie (fun vs H Q E h=>?_) (fun f cdv A outer s H vs Q E hr h=>?_)
 ·obtain ⟨t,p,tr,txt,H0,dx,m,cs,ks,T,hk,sk,rm,hd,ud,so,l,e,pl,rfl,_⟩:=h
  rfl
 ·obtain ⟨t,p,tr,txt,H0,dx,m,cs,ks,T,hk,sk,rm,hd,ud,so,l,e,pl,rfl,⟨tw,R⟩,hz,q⟩:=h
  have hu:=za2 hr
  have hu64:=hr.units
  refine ⟨_,(zab (zax (i:=2) sc_take_free_coil.nd rfl (Or.inl rfl) (pe_m m_Words_take_known_name tWords.cl hr za0 (pv 1) (zaa (zah (pv 0) rfl) zad)))
   (zab (zal (pe_m m_Words_check tWords.cl hr za0 (pv 1) (zaa (zo7 (zeo hu (pv 2) (zah (pv 0) rfl))) (zaa (zap tG.g_NOT_FREE) zad))))
   (zab (zg1 hu (zah (pv 0) rfl) (pv 2) zei rfl)
   (zac (zar (zdl hu (zah (pv 0) rfl) (pv 2) (fun _ _=>rfl))))))),?_⟩
  have f_tWords_cl:=tWords.cl
  have f_tTable_cl:=tTable.cl
  have f_tTable_n_coils:=tTable.n_coils
  have f_tTable_n_served:=tTable.n_served
  obtain ⟨d0,a0,w0,_⟩:=R.ws.ob
  refine ⟨_,rfl,p,_,_,rfl,w0,rfl,_,rfl,t,_,_,_,_,rfl,R.tab,f_tTable_cl,f_tTable_n_coils,rfl,p,tr,txt,l,e,pl,m.coils,T.coils.map Tilt.Coil.name,rfl,R.ws,⟨_,R.co,fun b=>?_⟩,(Out.bind q).loc R.s0 R.sp fun n en q H1 t1 h1 ht k1=>?_⟩
  ·rw [← tw.ct,List.map_map];exact zc7 (l:=cs) (g:=fun c=>c.2.2.name)
  have R1:=R.step k1 h1
  obtain ⟨d1,a1,w1,_⟩:=R1.ws.ob
  obtain ⟨hs1,hs2⟩:=zmh (d:=⟨0,0,0,0,[]⟩) (zmn en)
  have hs1:zgd T n.1.w∈T.coils:=hs1
  have hs2:(zgd T n.1.w).name=n.1.w:=hs2
  obtain ⟨c,hc,ec⟩ : ∃ c∈cs,c.2.2=zgd T n.1.w:=by
   have:=hs1
   rw [← tw.ct] at this
   obtain ⟨c,hc,e⟩:=List.mem_map.mp this
   exact ⟨c,hc,e⟩
  have hs:=tw.vs _ hs1
  rw [hs2] at hs
  refine ⟨_,rfl,p,_,_,rfl,w1,rfl,_,rfl,_,rfl,t,_,_,_,_,rfl,R1.tab,f_tTable_cl,f_tTable_n_served,rfl,m.served,_,rfl,DGet.t R1.se (k:=bK n.1.w) (by rw [bK_V];exact ht),p,tr,txt,n.2,e,n.1.at_,_,7,rfl,R1.ws,?_⟩
  rw [hs]
  refine (Out.bind q).loc R1.s0 R1.sp fun u eu q=>?_
  refine ⟨_,rfl,t,_,_,_,_,rfl,R1.tab,f_tTable_cl,f_tTable_n_served,rfl,_,rfl,m.served,_,rfl,DPut.t R1.se (k:=bK n.1.w) (by rw [bK_V];exact ht) (by have:=tw.vl;simp [sizeLine];omega),?_⟩
  have R2:=RG.putM (pre:=[_,_,_,_,_,_,_]) (.dT (putK sk (bK n.1.w) (.bl true))) R1 rfl True.intro
  have R2:RH K ⟨cC,cK,cW,cT,cF⟩ H0 tr txt _ t p dx m cs ks T hk (putK sk (bK n.1.w) (.bl true)) so n.2 e n.1.at_:=R2
  have ht2:=zml R1 (o':=.dT (putK sk (bK n.1.w) (.bl true))) R1.se True.intro _ _ ht
  have hv:valV (coD cs) (bK n.1.w)=some (.ref c.1):=by
   have:=zws (l:=cs) (g:=fun c=>c.2.2.name) (v:=fun c=>V.ref c.1) hc (by have:=tw.cn;rw [← tw.ct,List.map_map] at this;exact this)
   rw [ec,hs2] at this
   exact this
  refine ⟨_,rfl,t,_,_,_,_,rfl,R2.tab,f_tTable_cl,f_tTable_n_coils,rfl,_,rfl,m.coils,_,rfl,by rw [← hv];exact DGet.t R2.co (k:=bK n.1.w) (by rw [bK_V];exact ht2),?_⟩
  refine q _ _ n.1.at_ c.1 c.2.1 (by rw [← ec];exact hc) ⟨⟨tw.bl,tw.dr,tw.ct,tw.ls,tw.ll,tw.lc,tw.lk,tw.sn,tw.sp,tw.cn,tw.cp,tw.sb,tw.lb,tw.cb,tw.c31,tw.dn,tw.kn,tw.hb,tw.hl,tw.hs,?_,?_,tw.kk,tw.hn,tw.hp,?_,?_⟩,R2⟩ fun b xs hb=>zml R1 R1.se True.intro b xs (R.tup k1 hb)
  ·have:=zdu sk (bK n.1.w) (.bl true)
   have:=tw.vl
   simp;omega
  ·intro s hs
   rw [zfr,tw.vs s hs,zof]
   congr 1
   by_cases h:s.name=n.1.w
   ·have:s=(zgd T n.1.w):=zx3 tw.cn hs hs1 (by rw [h];exact hs2.symm)
    rw [decide_eq_true h,decide_eq_true (show s.place=(zgd T n.1.w).place by rw [this])]
   ·have:¬s.place=(zgd T n.1.w).place:=fun z=>h (by rw [zx3 tw.cp hs hs1 z];exact hs2)
    rw [decide_eq_false h,decide_eq_false this]
  ·intro c hc
   rw [zfr,Bool.or_eq_true] at hc
   rcases hc with hc | hc
   ·rw [of_decide_eq_true hc,← hs2];exact List.mem_map_of_mem hs1
   ·exact tw.vn c hc
  ·intro c hc
   rcases List.mem_append.mp hc with hc | hc
   ·exact tw.vp c hc
   ·rw [List.mem_singleton.mp hc];exact List.mem_map_of_mem hs1
end
end
section
section
variable {cW cF cT cC cK:Addr}
def zwe (K:W.Frag) (ad:Ad):Sp:=fun vs H Q E=>E8 fun t w tr txt H0 dx m cs=>E8 fun ks T hk sk ud so l e=>∃ p,A3 (vs=[.ref t, .ref w]) (RM K ad H0 tr txt H t w dx m cs ks T hk sk T.room T.held ud so l e p) (Out ad.cF E (fun _=>False) H0 (zgq e T 8 [] l) fun x=>∀ H' m' hk' p',m'.devices=m.devices→x.1.1.length≤8→RM K ad H0 tr txt H' t w dx m' cs ks T hk' sk (T.room+if x.1.2=true then x.1.1.length else 0) (T.held++x.1.1) ud so x.2 e p'→(∀ b xs,H b=some (.tup xs)→H' b=some (.tup xs))→Q .non H')
abbrev zbn:Stmt:=top 77
theorem sc_read_switches_held:zai ["table","words","many","word"] ["table","words"] (zae zbn):=by walk_at "sc"
theorem zff:zak zbn "read_switches_held" "read_switches_held" ["table","words"]:=fun _ _ _ _ _ _ us hl=>match us,hl with | [_,_],_=>rfl
abbrev zdg:Stmt:=top 75
theorem sc_read_device:zai ["table","words","name"] ["table","words"] (zae zdg):=by walk_at "sc"
theorem zk9:zak zdg "read_device" "read_device" ["table","words"]:=fun _ _ _ _ _ _ us hl=>match us,hl with | [_,_],_=>rfl
theorem zs0 {e:Nat} {T:Tilt.Table} {k:Nat} {had:List Nat} (h:had≠[]):zgq e T k had [] = .ok ((had,false),[]):=by
 cases k with
 | zero=>rfl
 | succ k=>show (if had=[] then _ else _)=_;rw [if_neg h]
theorem zfl (tG:TG K mg) (tWords:zb9 K cW) (tTable:zd0 K cT) (d_house_switch:Dn P w K mg base (CXF P w cF) "house_switch" ["table","words","word"] 5 (zq0 K ⟨cC,cK,cW,cT,cF⟩)) (m_Words_take:Md P w K mg base (CXF P w cF) cW "take" ["self"] 3 (zji K cW cF)) (m_Words_more:Md P w K mg base CX0 cW "more" ["self"] 1 (zjh K cW)) (d_spelled:Dn P w K mg base CX0 "spelled" ["word"] 1 (zdw)) (m_Words_check:Md P w K mg base (CXF P w cF) cW "check" ["self","right","kind"] 3 (zc8 K cW cF)) (F:FnK K mg "read_switches_held" zbn) :
  Dn P w K mg base (CXF P w cF) "read_switches_held" ["table","words"] 6 (zwe K ⟨cC,cK,cW,cT,cF⟩):=by
 refine F.dnF sc_read_switches_held zff (fun vs H Q E h=>?_) (fun f cdv A outer s H vs Q E hr h=>?_)
 ·obtain ⟨t,p,tr,txt,H0,dx,m,cs,ks,T,hk,sk,ud,so,l,e,pl,rfl,_⟩:=h
  rfl
 ·obtain ⟨t,p,tr,txt,H0,dx,m,cs,ks,T,hk,sk,ud,so,l,e,pl,rfl,⟨tw,R⟩,q⟩:=h
  have hu:=za2 hr
  have hu64:=hr.units
  refine ⟨_,(zab (zal (pe_d d_house_switch hr za0 (zaa (pv 0) (zaa (pv 1) (zaa (zbk m_Words_take tWords.cl hr za0 (pv 1)) zad)))))
   (zab (zax (i:=2) sc_read_switches_held.nd rfl (Or.inl rfl) zao)
   (zac (zhx PassesOwn.leaving (zct (zbk m_Words_more tWords.cl hr zaz (pv 1)))
    (zab (zax (i:=3) sc_read_switches_held.nd rfl (Or.inl rfl) (zbk m_Words_take tWords.cl hr za0 (pv 1)))
   (zab (za5 (zan (zvj hu64) (pv 3) (pe_d d_spelled hr zaz (zaa zb6 zad)) (zam _)) (zab (zep (pv 0) (pv 2) zrr)
   (zac zm4)) zaq)
   (zab (zal (pe_m m_Words_check tWords.cl hr za0 (pv 1) (zaa (zba ziz (pv 2) (zap tG.g_MOST_SWITCHES_HELD) (zam _)) (zaa (zap tG.g_WRONG_WORD) zad))))
   (zab (zal (pe_d d_house_switch hr za0 (zaa (pv 0) (zaa (pv 1) (zaa (pv 3) zad)))))
   (zac (zsd (i:=2) sc_read_switches_held.nd rfl (Or.inl rfl) zao zrs)))))))))),?_⟩
  have f_tWords_cl:=tWords.cl
  have f_tTable_cl:=tTable.cl
  have f_tTable_n_drained:=tTable.n_drained
  have hb0:T.held.length≤64:=by have:=tw.hb;have:=tw.dn;omega
  obtain ⟨d0,a0,w0,_⟩:=R.ws.ob
  refine ⟨_,rfl,_,rfl,_,rfl,p,_,_,rfl,w0,rfl,p,tr,txt,l,e,pl,rfl,R.ws,?_⟩
  cases l with
  | nil=>exact Out.loc (α:=Tilt.Word×List Tilt.Word) (r:=.error ⟨3,e⟩) (ok:=fun _=>True) q R.s0 R.sp fun a ea=>by cases ea
  | cons y r=>
   intro H1 t1 h1 ht k1 hy1 hy2
   have R1:=R.step k1 h1
   have q:Out cF E (fun _=>False) H0 (if ([]:List Nat)≠[]∧y.w=Tilt.DRAIN then .ok (([],true),r) else (zlt T (T.held++[]) y.w y.at_ >>= fun p=>zgq e T 7 ([]++[p]) r)) _:=q
   rw [if_neg (fun z=>z.1 rfl),List.append_nil] at q
   refine ⟨t,p,tr,txt,H0,dx,m,cs,ks,T,hk,sk,T.room,T.held,ud,so,r,e,y.at_,t1,y.w,rfl,⟨tw,R1⟩,by omega,ht,hy1,(Out.bind q).loc (Same.refl H0) (fun b z=>z.elim) fun x ex q H2 hk2 R2 kt=>?_⟩
   obtain ⟨W,hW⟩ : ∃ W:Nat→St→Hp→Prop,∀ mm σ H',W mm σ H'↔∃ (k:Nat) (had:List Nat) (l:List Tilt.Word) (hk':DT) (p':Nat) (y:Option V),mm=l.length∧had≠[]∧had.length+k=8∧σ=[some (.ref t),some (.ref p),some (.int (had.length:Nat)),y]∧
     RM K ⟨cC,cK,cW,cT,cF⟩ H0 tr txt H' t p dx m cs ks T hk' sk T.room (T.held++had) ud so l e p'∧(∀ b xs,H b=some (.tup xs)→H' b=some (.tup xs))∧
     Out cF E (fun _=>False) H0 (zgq e T k had l) fun x=>∀ H' m' hk' p',m'.devices=m.devices→x.1.1.length≤8→RM K ⟨cC,cK,cW,cT,cF⟩ H0 tr txt H' t p dx m' cs ks T hk' sk (T.room+if x.1.2=true then x.1.1.length else 0) (T.held++x.1.1) ud so x.2 e p'→(∀ b xs,H b=some (.tup xs)→H' b=some (.tup xs))→Q .non H':=⟨_,fun _ _ _=>Iff.rfl⟩
   refine ⟨W,⟨r.length,(hW _ _ _).mpr ⟨7,[x],r,hk2,y.at_,none,rfl,by simp,rfl,rfl,R2,fun b xs hb=>kt b xs (R.tup k1 hb),q⟩⟩,fun mm σ H' hw=>?_⟩
   obtain ⟨k,had,l,hk',p',yv,rfl,hne,hk8,rfl,⟨tw',R'⟩,kt',q⟩:=(hW _ _ _).mp hw
   obtain ⟨d2,a2,w2,_⟩:=R'.ws.ob
   refine ⟨_,rfl,p,_,_,rfl,w2,rfl,p,tr,txt,l,e,p',rfl,R'.ws,_,rfl,?_⟩
   cases l with
   | nil=>
    rw [zs0 hne] at q
    exact iteF (q H' m hk' p' rfl (by show had.length≤8;omega) (by simpa using ⟨tw',R'⟩) kt')
   | cons z r2=>
    refine iteT ⟨_,fun _ _ h=>h,_,rfl,p,_,_,rfl,w2,rfl,p,tr,txt,z :: r2,e,p',rfl,R'.ws,?_⟩
    intro H3 t3 h3 ht3 k3 hz1 hz2
    have R3:=R'.step k3 h3
    refine ⟨_,rfl,"drain",rfl,by decide +kernel,fun H4 s4 k4 h4=>?_⟩
    have R4:=R3.same k4
    have ht4:=k4 _ _ ht3
    have kt4:∀ b xs,H b=some (.tup xs)→H4 b=some (.tup xs):=fun b xs hb=>k4 _ _ (R'.tup k3 (kt' b xs hb))
    refine ⟨t3,s4,bI z.w,bI Tilt.DRAIN,rfl,rfl,SqT.of ht4,SqT.of (by rw [h4];exact congrArg (fun l=>some (HO.tup l)) (by decide +kernel)),_,rfl,?_⟩
    rw [zrf]
    obtain ⟨d4,a4,w4,_⟩:=R4.ws.ob
    by_cases hd:z.w=Tilt.DRAIN
    ·rw [decide_eq_true hd]
     have eq1:zgq e T k had (z :: r2) = .ok ((had,true),r2):=by cases k<;>simp [zgq,hd,hne]
     rw [eq1] at q
     refine iteT ⟨_,rfl,t,_,_,_,_,rfl,R4.tab,f_tTable_cl,f_tTable_n_drained,rfl,_,rfl,_,_,rfl,rfl,_,_,R4.tab,(by show 14<1000;decide),?_⟩
     refine q _ { m with drained:=m.drained+had.length } hk' _ rfl (by show had.length≤8;omega) ⟨⟨tw'.bl,?_,tw'.ct,tw'.ls,tw'.ll,tw'.lc,tw'.lk,tw'.sn,tw'.sp,tw'.cn,tw'.cp,tw'.sb,tw'.lb,tw'.cb,tw'.c31,tw'.dn,tw'.kn,tw'.hb,tw'.hl,tw'.hs,tw'.vl,tw'.vs,tw'.kk,tw'.hn,tw'.hp,tw'.vn,tw'.vp⟩,RG.tabP (ad:=⟨cC,cK,cW,cT,cF⟩) { m with drained:=m.drained+had.length } R4⟩ fun b xs hb=>zml R4 R4.tab True.intro b xs (kt4 b xs hb)
     show m.drained+had.length=_
     rw [tw'.dr];simp
    ·rw [decide_eq_false hd]
     refine iteF ⟨_,rfl,p,_,_,rfl,w4,rfl,_,rfl,_,_,rfl,rfl,p,tr,txt,r2,e,z.at_,_,3,rfl,R4.ws,?_⟩
     cases k with
     | zero=>
      have hl:¬((had.length:Nat):Int)<8:=by omega
      rw [decide_eq_false hl]
      have q:ErX cF E (fun _=>False) H0 ⟨3,z.at_⟩:=by
       simp only [zgq,if_neg hd] at q
       exact q
      exact Out.loc (α:=Unit) (r:=.error ⟨3,z.at_⟩) (ok:=fun _=>True) q R4.s0 R4.sp fun a ea=>by cases ea
     | succ k=>
      have hl:((had.length:Nat):Int)<8:=by omega
      rw [decide_eq_true hl]
      have e1:zgq e T (k+1) had (z :: r2)=(zlt T (T.held++had) z.w z.at_ >>= fun p=>zgq e T k (had++[p]) r2):=by
       show (if had≠[]∧z.w=Tilt.DRAIN then _ else _)=_
       rw [if_neg (fun h=>hd h.2)]
      rw [e1] at q
      refine ⟨_,rfl,_,rfl,_,rfl,t,p,tr,txt,H0,dx,m,cs,ks,T,hk',sk,T.room,T.held++had,ud,so,r2,e,z.at_,t3,z.w,rfl,⟨tw',R4⟩,by simp;omega,ht4,hz1,(Out.bind q).loc (Same.refl H0) (fun b z=>z.elim) fun x ex q H5 hk5 R5 kt5=>?_⟩
      refine ⟨_,rfl,_,_,rfl,rfl,r2.length,by simp,(hW _ _ _).mpr ⟨k,had++[x],r2,hk5,z.at_,_,rfl,by simp,by simp;omega,by simp;rfl,by rw [← List.append_assoc];exact R5,fun b xs hb=>kt5 b xs (kt4 b xs hb),q⟩⟩
theorem zlj (tG:TG K mg) (tWords:zb9 K cW) (tTable:zd0 K cT) (m_Words_take_new_name:Md P w K mg base (CXF P w cF) cW "take_new_name" ["self","names","barred"] 5 (ztn K cW cF)) (m_Words_take_fixed:Md P w K mg base (CXF P w cF) cW "take_fixed" ["self","word"] 4 (zfq K cW cF)) (d_take_free_coil:Dn P w K mg base (CXF P w cF) "take_free_coil" ["table","words"] 6 (zsh K ⟨cC,cK,cW,cT,cF⟩)) (d_read_switches_held:Dn P w K mg base (CXF P w cF) "read_switches_held" ["table","words"] 6 (zwe K ⟨cC,cK,cW,cT,cF⟩)) (F:FnK K mg "read_device" zdg) :
  Dn P w K mg base (CXF P w cF) "read_device" ["table","words"] 7 (spLn K ⟨cC,cK,cW,cT,cF⟩ (fun T=>T.kicks=[]∧T.devices.length<8) zes):=by
 refine F.dnF sc_read_device zk9 (fun vs H Q E h=>?_) (fun f cdv A outer s H vs Q E hr h=>?_)
 ·obtain ⟨t,p,tr,txt,H0,T,so,l,e,pl,rfl,_⟩:=h
  rfl
 ·obtain ⟨t,p,tr,txt,H0,T,so,l,e,pl,rfl,⟨dx,m,cs,ks,hk,sk,tw,R⟩,⟨pc1,pc2⟩,q⟩:=h
  have hu:=za2 hr
  have hu64:=hr.units
  refine ⟨_,(zab (zax (i:=2) sc_read_device.nd rfl (Or.inl rfl) (pe_m m_Words_take_new_name tWords.cl hr za0 (pv 1) (zaa (zah (pv 0) rfl) (zaa (zC3 tG.s_NOT_BARRED) zad))))
   (zab (zal (pe_m m_Words_take_fixed tWords.cl hr za0 (pv 1) (zaa zb6 zad)))
   (zab (zal (pe_d d_take_free_coil hr za0 (zaa (pv 0) (zaa (pv 1) zad))))
   (zab (zal (pe_m m_Words_take_fixed tWords.cl hr za0 (pv 1) (zaa zb6 zad)))
   (zab (zal (pe_d d_read_switches_held hr za0 (zaa (pv 0) (zaa (pv 1) zad))))
   (zac (zg1 hu (zah (pv 0) rfl) (pv 2) zei rfl))))))),?_⟩
  have f_tWords_cl:=tWords.cl
  have f_tTable_cl:=tTable.cl
  have f_tTable_n_devices:=tTable.n_devices
  obtain ⟨d0,a0,w0,_⟩:=R.ws.ob
  refine ⟨_,rfl,p,_,_,rfl,w0,rfl,_,rfl,t,_,_,_,_,rfl,R.tab,f_tTable_cl,f_tTable_n_devices,rfl,p,tr,txt,l,e,pl,m.devices,"",[],T.devices.map Tilt.Device.name,rfl,R.ws,⟨_,R.dv,fun b=>zc7⟩,⟨by decide +kernel,by decide +kernel⟩,(Out.bind q).loc R.s0 R.sp fun n en q H1 t1 p1 h1 ht k1=>?_⟩
  have R1:=R.step k1 h1
  obtain ⟨d1,a1,w1,_⟩:=R1.ws.ob
  refine ⟨_,rfl,p,_,_,rfl,w1,rfl,p,tr,txt,n.2,e,_,"by","by",rfl,R1.ws,⟨by decide +kernel,by decide +kernel⟩,(Out.bind q).loc R1.s0 R1.sp fun a ea q H2 p2 h2 k2=>?_⟩
  have R2:=R1.step k2 h2
  have ht:=R1.tup k2 ht
  have hud:(udOf T).length≤16:=by have:=tw.dn;have:=tw.kn;simp [udOf];omega
  refine ⟨_,rfl,_,rfl,t,p,tr,txt,H0,dx,m,cs,ks,T,hk,sk,T.room,T.held,udOf T,so,a,e,p2,rfl,⟨tw,R2⟩,by omega,(Out.bind q).loc (Same.refl H0) (fun b z=>z.elim) fun c ec q H3 sk3 p3 ca dc hc R3 kt3=>?_⟩
  obtain ⟨tw3,R3⟩:=R3
  have ht:=kt3 _ _ ht
  obtain ⟨d3,a3,w3,_⟩:=R3.ws.ob
  refine ⟨_,rfl,p,_,_,rfl,w3,rfl,p,tr,txt,c.2,e,_,"holds","holds",rfl,R3.ws,⟨by decide +kernel,by decide +kernel⟩,(Out.bind q).loc R3.s0 R3.sp fun b eb q H4 p4 h4 k4=>?_⟩
  have R4:=R3.step k4 h4
  have ht:=R3.tup k4 ht
  refine ⟨_,rfl,_,rfl,t,p,tr,txt,H0,dx,m,cs,ks,T,hk,sk3,_,so,b,e,p4,rfl,⟨tw3,R4⟩,(Out.bind q).loc (Same.refl H0) (fun b z=>z.elim) fun h eh q H5 m5 hk5 p5 em hl8 R5 kt5=>?_⟩
  obtain ⟨tw5,R5⟩:=R5
  have ht:=kt5 _ _ ht
  have hnew:=zr2 en
  refine ⟨_,rfl,t,_,_,_,_,rfl,R5.tab,f_tTable_cl,f_tTable_n_devices,rfl,_,rfl,m5.devices,_,rfl,DPut.t R5.dv (k:=bK n.1.w) (by rw [bK_V];exact ht) (by have:=tw.dn;simp [dvD,sizeLine];omega),?_⟩
  have R6:=RG.putM (pre:=[_,_,_,_]) (.dT (putK (dvD T) (bK n.1.w) (.bl true))) R5 rfl True.intro
  have e6:putK (dvD T) (bK n.1.w) (.bl true)=dvD { T with devices:=T.devices++[⟨c.1.place,h.1.1,h.1.2,n.1.w⟩] }:=by unfold dvD;rw [zm8 _ hnew];simp
  rw [e6] at R6 ⊢
  refine q _ p5 ⟨dx,m5,cs,ks,hk5,sk3,⟨tw5.bl,?_,tw5.ct,tw5.ls,tw5.ll,tw5.lc,tw5.lk,tw5.sn,tw5.sp,tw5.cn,tw5.cp,tw5.sb,tw5.lb,tw5.cb,tw5.c31,?_,tw5.kn,?_,?_,?_,?_,?_,tw5.kk,tw5.hn,?_,tw5.vn,?_⟩,R6⟩
  ·rw [tw5.dr,zvz]
  ·simp;omega
  ·rw [zhh];have:=tw.hb;simp;omega
  ·rw [zhh];exact tw5.hl
  ·rw [zhh];exact tw5.hs
  ·have:=tw5.vl;simp [udOf,pc1] at this ⊢;exact this
  ·have:=tw5.vs;simp [udOf,pc1] at this ⊢;exact this
  ·rw [zhh];exact tw5.hp
  ·have:=tw5.vp;simp only [udOf,pc1,List.map_nil,List.append_nil,List.map_append,List.map_cons] at this ⊢;exact this
end
end
section
section
variable {cW cF cT cC cK:Addr}
def znl (cK:Addr):Sp:=fun vs H Q _=>E6 fun p dx f c n s=>A3 (vs=[.ref p, .int f, .ref c, .int n,s]) (H p=some (.ins cK dx [])) (Q .non (upd H p (.ins cK dx (zmm ⟨f,c,n,s⟩))))
abbrev zcx:Stmt:=zaw (top 39) 0
theorem zjy:zai ["self","first","coil","length","second"] ["self","first","coil","length","second"] (zae zcx):=by walk_at "sc"
theorem zjn:zak zcx "__init__" "Kick.__init__" ["self","first","coil","length","second"]:=fun _ _ _ _ _ _ us hl=>match us,hl with | [_,_,_,_,_],_=>rfl
abbrev zec:Stmt:=top 79
theorem sc_read_kick:zai ["table","words","name","first","coil","length","second"] ["table","words"] (zae zec):=by walk_at "sc"
theorem zoa:zak zec "read_kick" "read_kick" ["table","words"]:=fun _ _ _ _ _ _ us hl=>match us,hl with | [_,_],_=>rfl
theorem zjs (tG:TG K mg) (tKick:ztw K cK) (F:InK K mg cK "Kick" "Kick.__init__" zcx) :
  Id P w K mg base CX0 cK "Kick" ["self","first","coil","length","second"] 1 (znl cK):=by
 refine F.id zjy zjn (fun vs H Q E h=>?_) (fun f cdv A outer s H vs Q E hr h=>?_)
 ·obtain ⟨p,dx,a,c,n,s,rfl,_⟩:=h
  rfl
 ·obtain ⟨p,dx,a,c,n,s,rfl,hp,q⟩:=h
  have hu:=za2 hr
  have hu64:=hr.units
  refine ⟨_,(zab (zau (pv 0) (pv 1) rfl)
   (zab (zau (pv 0) (pv 2) rfl)
   (zab (zau (pv 0) (pv 3) rfl)
   (zac (zau (pv 0) (pv 4) rfl))))),?_⟩
  have f_tKick_cl:=tKick.cl
  have f_tKick_n_first:=tKick.n_first
  have f_tKick_n_coil:=tKick.n_coil
  have f_tKick_n_length:=tKick.n_length
  have f_tKick_n_second:=tKick.n_second
  walk_at "rd"
  simp (decide:=true) [putF]
  exact q
theorem zo1 (tG:TG K mg) (tWords:zb9 K cW) (tTable:zd0 K cT) (tCoil:zdt K cC) (m_Words_take_known_name:Md P w K mg base (CXF P w cF) cW "take_known_name" ["self","names"] 5 (znm K cW cF)) (m_Words_check:Md P w K mg base (CXF P w cF) cW "check" ["self","right","kind"] 3 (zc8 K cW cF)) (d_take_free_coil:Dn P w K mg base (CXF P w cF) "take_free_coil" ["table","words"] 6 (zsh K ⟨cC,cK,cW,cT,cF⟩)) (m_Words_take_fixed:Md P w K mg base (CXF P w cF) cW "take_fixed" ["self","word"] 4 (zfq K cW cF)) (m_Words_take_number:Md P w K mg base (CXF P w cF) cW "take_number" ["self","least","most"] 4 (zey K cW cF)) (m_Words_more:Md P w K mg base CX0 cW "more" ["self"] 1 (zjh K cW)) (i_Kick:Id P w K mg base CX0 cK "Kick" ["self","first","coil","length","second"] 1 (znl cK)) (F:FnK K mg "read_kick" zec) :
  Dn P w K mg base (CXF P w cF) "read_kick" ["table","words"] 7 (spLn K ⟨cC,cK,cW,cT,cF⟩ (fun T=>T.kicks.length<8) zp8):=by
 refine F.dnF sc_read_kick zoa (fun vs H Q E h=>?_) (fun f cdv A outer s H vs Q E hr h=>?_)
 ·obtain ⟨t,p,tr,txt,H0,T,so,l,e,pl,rfl,_⟩:=h
  rfl
 ·obtain ⟨t,p,tr,txt,H0,T,so,l,e,pl,rfl,⟨dx,m,cs,ks,hk,sk,tw,R⟩,pc,q⟩:=h
  have hu:=za2 hr
  have hu64:=hr.units
  refine ⟨_,(zab (zax (i:=2) sc_read_kick.nd rfl (Or.inl rfl) (pe_m m_Words_take_known_name tWords.cl hr za0 (pv 1) (zaa (zah (pv 0) rfl) zad)))
   (zab (zax (i:=3) sc_read_kick.nd rfl (Or.inl rfl) (zdl hu (zah (pv 0) rfl) (pv 2) (fun _ _=>rfl)))
   (zab (zal (pe_m m_Words_check tWords.cl hr za0 (pv 1) (zaa (zba zfm (pv 3) (zah (pv 0) rfl) (zam _)) (zaa (zap tG.g_NOT_NEW) zad))))
   (zab (zal (pe_m m_Words_check tWords.cl hr za0 (pv 1) (zaa (zo7 (zeo hu (pv 2) (zah (pv 0) rfl))) (zaa (zap tG.g_NOT_FREE) zad))))
   (zab (zax (i:=4) sc_read_kick.nd rfl (Or.inl rfl) (pe_d d_take_free_coil hr za0 (zaa (pv 0) (zaa (pv 1) zad))))
   (zab (zal (pe_m m_Words_take_fixed tWords.cl hr za0 (pv 1) (zaa zb6 zad)))
   (zab (zax (i:=5) sc_read_kick.nd rfl (Or.inl rfl) (pe_m m_Words_take_number tWords.cl hr za0 (pv 1) (zaa zao (zaa zao zad))))
   (zab (zal (pe_m m_Words_check tWords.cl hr za0 (pv 1) (zaa (zba zju (pv 5) (zah (pv 4) rfl) (zam _)) (zaa (zap tG.g_NOT_FREE) zad))))
   (zab (zax (i:=6) sc_read_kick.nd rfl (Or.inl rfl) zo8)
   (zab (za5 (zct (zbk m_Words_more tWords.cl hr zaz (pv 1))) (zab (zal (pe_m m_Words_take_fixed tWords.cl hr za0 (pv 1) (zaa zb6 zad)))
   (zab (zax (i:=6) sc_read_kick.nd rfl (Or.inl rfl) (zdl hu (zah (pv 0) rfl) (pe_m m_Words_take_known_name tWords.cl hr za0 (pv 1) (zaa (zah (pv 0) rfl) zad)) (fun _ _=>rfl)))
   (zac (zal (pe_m m_Words_check tWords.cl hr za0 (pv 1) (zaa (zba zqm (pv 6) (pv 3) (zam _)) (zaa (zap tG.g_NOT_FREE) zad))))))) zaq)
   (zab (zal (zte PySem.F.plainAttrs_list PySem.F.slot_list_append PySem.F.type_list_append zhk (zah (pv 0) rfl) (zaa (pe_i i_Kick hr zaz (zaa (pv 3) (zaa (pv 4) (zaa (pv 5) (zaa (pv 6) zad))))) zad)))
   (zac (zau (pv 0) (pv 3) rfl))))))))))))),?_⟩
  have f_tWords_cl:=tWords.cl
  have f_tTable_cl:=tTable.cl
  have f_tTable_n_switches:=tTable.n_switches
  have f_tTable_n_last_kick:=tTable.n_last_kick
  have f_tTable_n_housed:=tTable.n_housed
  have f_tCoil_cl:=tCoil.cl
  have f_tCoil_n_most:=tCoil.n_most
  have f_tTable_n_kicks:=tTable.n_kicks
  obtain ⟨d0,a0,w0,_⟩:=R.ws.ob
  refine ⟨_,rfl,p,_,_,rfl,w0,rfl,_,rfl,t,_,_,_,_,rfl,R.tab,f_tTable_cl,f_tTable_n_switches,rfl,p,tr,txt,l,e,pl,m.switches,T.switches.map Tilt.Switch.name,rfl,R.ws,⟨_,R.sw,fun b=>zc7⟩,(Out.bind q).loc R.s0 R.sp fun n en q H1 t1 h1 ht k1=>?_⟩
  have R1:=R.step k1 h1
  obtain ⟨d1,a1,w1,_⟩:=R1.ws.ob
  obtain ⟨hs1,hs2⟩:=zmh (d:=⟨0,0,0,false,[]⟩) (zmn en)
  have hs1:zat T n.1.w∈T.switches:=hs1
  have hs2:(zat T n.1.w).name=n.1.w:=hs2
  have hv:valV (swD T) (bK n.1.w)=some (.int (zat T n.1.w).place):=by
   have:=zws (l:=T.switches) (g:=Tilt.Switch.name) (v:=fun c=>V.int c.place) hs1 tw.sn
   rw [hs2] at this
   exact this
  refine ⟨_,rfl,t,_,_,_,_,rfl,R1.tab,f_tTable_cl,f_tTable_n_switches,rfl,_,rfl,m.switches,_,rfl,by rw [← hv];exact DGet.t R1.sw (k:=bK n.1.w) (by rw [bK_V];exact ht),?_⟩
  refine ⟨_,rfl,p,_,_,rfl,w1,rfl,_,rfl,_,rfl,t,_,_,_,_,rfl,R1.tab,f_tTable_cl,f_tTable_n_last_kick,rfl,_,_,rfl,rfl,p,tr,txt,n.2,e,n.1.at_,_,5,rfl,R1.ws,?_⟩
  have hlk:=tw.lk (zat T n.1.w).place
  rw [List.all_map] at hlk
  rw [← hlk]
  refine (Out.bind q).loc R1.s0 R1.sp fun u eu q=>?_
  have hlt:m.last_kick<((zat T n.1.w).place:Int):=by
   have:=zxo eu
   exact of_decide_eq_true (hlk.symm.trans this)
  have hs:=tw.hs _ hs1
  rw [hs2] at hs
  refine ⟨_,rfl,p,_,_,rfl,w1,rfl,_,rfl,_,rfl,t,_,_,_,_,rfl,R1.tab,f_tTable_cl,f_tTable_n_housed,rfl,m.housed,_,rfl,DGet.t R1.ho (k:=bK n.1.w) (by rw [bK_V];exact ht),p,tr,txt,n.2,e,n.1.at_,_,7,rfl,R1.ws,?_⟩
  rw [hs]
  refine (Out.bind q).loc R1.s0 R1.sp fun u eu q=>?_
  have hud:(udOf T).length≤16:=by have:=tw.dn;have:=tw.kn;simp [udOf];omega
  refine ⟨_,rfl,_,rfl,t,p,tr,txt,H0,dx,m,cs,ks,T,hk,sk,T.room,T.held,udOf T,so,n.2,e,_,rfl,⟨tw,R1⟩,by omega,(Out.bind q).loc (Same.refl H0) (fun b z=>z.elim) fun c ec q H3 sk3 p3 ca dc hc R3 kt3=>?_⟩
  obtain ⟨tw3,R3⟩:=R3
  obtain ⟨d3,a3,w3,_⟩:=R3.ws.ob
  refine ⟨_,rfl,p,_,_,rfl,w3,rfl,p,tr,txt,c.2,e,_,"for","for",rfl,R3.ws,⟨by decide +kernel,by decide +kernel⟩,(Out.bind q).loc R3.s0 R3.sp fun b eb q H4 p4 h4 k4=>?_⟩
  have R4:=R3.step k4 h4
  obtain ⟨d4,a4,w4,_⟩:=R4.ws.ob
  refine ⟨_,rfl,p,_,_,rfl,w4,rfl,p,tr,txt,b,e,_,1,255,rfl,R4.ws,(Out.bind q).loc R4.s0 R4.sp fun tt et q H5 h5 k5=>?_⟩
  have R5:=R4.step k5 h5
  obtain ⟨d5,a5,w5,_⟩:=R5.ws.ob
  refine ⟨_,rfl,p,_,_,rfl,w5,rfl,_,rfl,_,rfl,ca,_,_,_,_,rfl,R5.coil hc,f_tCoil_cl,f_tCoil_n_most,rfl,_,_,rfl,rfl,p,tr,txt,tt.2,e,tt.1.2,_,7,rfl,R5.ws,?_⟩
  have hdec:decide ((tt.1.1:Int)≤(mc0 c.1).most)=decide (tt.1.1≤c.1.most):=by
   by_cases h:tt.1.1≤c.1.most
   ·rw [decide_eq_true h,decide_eq_true];show ((tt.1.1:Nat):Int)≤((c.1.most:Nat):Int);omega
   ·rw [decide_eq_false h,decide_eq_false];show ¬((tt.1.1:Nat):Int)≤((c.1.most:Nat):Int);omega
  rw [hdec]
  refine (Out.bind q).loc R5.s0 R5.sp fun u eu q=>?_
  have fin:∀ (H8:Hp) (g:Option Nat) (r:List Tilt.Word) (p8:Nat),RH K ⟨cC,cK,cW,cT,cF⟩ H0 tr txt H8 t p dx m cs ks T hk sk3 so r e p8→
    (∀ H' p',RS K ⟨cC,cK,cW,cT,cF⟩ H0 tr txt H' t p { T with kicks:=T.kicks++[⟨(zat T n.1.w).place,c.1.place,tt.1.1,g⟩] } so r e p'→Q .non H')→
    (tSeq (znq (tBM K "list" zqr (tFld K (tVar 0) "kicks") (zdk (zpi cK (znl cK) [] E0 (zdk (tVar 3) (zdk (tVar 4) (zdk (tVar 5) (zdk (tVar 6) tNil))))) tNil))) (sFld K (tVar 0) (tVar 3) "last_kick")) { nx:=fun _ H'=>Q .non H',rt:=Q } [some (.ref t),some (.ref p),some (.ref t1),some (.int (zat T n.1.w).place),some (.ref ca),some (.int tt.1.1),some (zk0 g)] H8:=by
   intro H8 g r p8 R8 q
   have hkl:ks.length≤8:=by
    have:=tw.kn
    have h2:ks.length=T.kicks.length:=tw.kk.length
    omega
   refine ⟨_,rfl,t,_,_,_,_,rfl,R8.tab,f_tTable_cl,f_tTable_n_kicks,rfl, .inl ⟨rfl,_,SqL.of R8.ki⟩,_,rfl,_,rfl,_,rfl,_,rfl,fun x dk hx hdk ne=>?_⟩
   refine ⟨x,dk,(zat T n.1.w).place,ca,tt.1.1,zk0 g,rfl,zaf,rfl,?_⟩
   rw [zc9]
   have hx':upd H8 dk (.own x) x=none:=by rw [zag ne.symm];exact hx
   have R8a:=R8.same (Same.new (o:=.own x) hdk)
   have R8b:=RG.add (pre:=(t, .ins cT dx (zdx m)) :: (m.switches, .dT (swD T)) :: (m.lamps, .dT (lmD T)) :: (m.coils, .dT (coD cs)) :: (m.devices, .dT (dvD T)) :: (m.kicks, .lst (ks.map fun k=>.ref k.1)) :: (m.housed, .dT hk) :: (m.served, .dT sk3) :: (coC cC cs++kiC cK ks)) (post:=[]) (.ins cK dk (zmm ⟨(zat T n.1.w).place,ca,tt.1.1,zk0 g⟩)) R8a (by simp [cells]) hx'
   refine ⟨m.kicks,_, .ref x,rfl,rfl,R8b.ce _ (.tail _ (.tail _ (.tail _ (.tail _ (.tail _ (.head _)))))),(by simp [sizeLine];omega),?_⟩
   have R9:=RG.putM (pre:=[_,_,_,_,_]) (.lst ((ks.map fun k=>.ref k.1)++[.ref x])) R8b rfl True.intro
   generalize upd _ m.kicks _=H9 at R9 ⊢
   have R9:RH K ⟨cC,cK,cW,cT,cF⟩ H0 tr txt H9 t p dx m cs (ks++[(x,dk,⟨(zat T n.1.w).place,ca,tt.1.1,zk0 g⟩)]) { T with kicks:=T.kicks++[⟨(zat T n.1.w).place,c.1.place,tt.1.1,g⟩] } hk sk3 so r e p8:=by
    unfold RH cells
    simpa [kiC,swD,lmD,dvD] using R9
   refine ⟨_,rfl,_,rfl,t,_,_,_,rfl,R9.tab,f_tTable_cl,f_tTable_n_last_kick,(by show 14<1000;decide),?_⟩
   refine q _ p8 ⟨dx,{ m with last_kick:=(zat T n.1.w).place },cs,_,hk,sk3,⟨tw3.bl,tw3.dr,tw3.ct,tw3.ls,tw3.ll,tw3.lc,?_,tw3.sn,tw3.sp,tw3.cn,tw3.cp,tw3.sb,tw3.lb,tw3.cb,tw3.c31,tw3.dn,?_,tw3.hb,tw3.hl,tw3.hs,?_,?_,?_,tw3.hn,tw3.hp,tw3.vn,?_⟩,RG.tabP (ad:=⟨cC,cK,cW,cT,cF⟩) { m with last_kick:=(zat T n.1.w).place } R9⟩
   ·rw [List.map_append];exact tw.lk.snoc hlt
   ·have:T.kicks.length<8:=pc
    simp;omega
   ·have:=tw3.vl;simp [udOf] at this ⊢;omega
   ·have:=tw3.vs;simpa [udOf] using this
   ·exact Paired.snoc tw3.kk ⟨rfl,rfl,rfl,dc,c.1,hc,rfl⟩
   ·have:=tw3.vp;simp only [udOf,List.map_append,List.map_cons,List.map_nil,← List.append_assoc] at this ⊢;exact this
  refine ⟨_,rfl,p,_,_,rfl,w5,rfl,p,tr,txt,tt.2,e,_,rfl,R5.ws,_,rfl,?_⟩
  have q:=Out.bind q
  unfold zBo at q
  cases ho:tt.2.isEmpty with
  | true=>
   rw [if_pos ho] at q
   exact iteF (fin _ none _ _ R5 q)
  | false=>
   rw [if_neg (by rw [ho];decide)] at q
   refine iteT ⟨_,rfl,p,_,_,rfl,w5,rfl,p,tr,txt,tt.2,e,_,"till","till",rfl,R5.ws,⟨by decide +kernel,by decide +kernel⟩,(Out.bind q).loc R5.s0 R5.sp fun r er q H8 p8 h8 k8=>?_⟩
   have R8:=R5.step k8 h8
   obtain ⟨d8,a8,w8,_⟩:=R8.ws.ob
   refine ⟨_,rfl,t,_,_,_,_,rfl,R8.tab,f_tTable_cl,f_tTable_n_switches,rfl,_,rfl,p,_,_,rfl,w8,rfl,_,rfl,t,_,_,_,_,rfl,R8.tab,f_tTable_cl,f_tTable_n_switches,rfl,p,tr,txt,r,e,p8,m.switches,T.switches.map Tilt.Switch.name,rfl,R8.ws,⟨_,R8.sw,fun b=>zc7⟩,(Out.bind q).loc R8.s0 R8.sp fun u eu q H9 t9 h9 ht9 k9=>?_⟩
   have R9:=R8.step k9 h9
   obtain ⟨d9,a9,w9,_⟩:=R9.ws.ob
   obtain ⟨hu1,hu2⟩:=zmh (d:=⟨0,0,0,false,[]⟩) (zmn eu)
   have hu1:zat T u.1.w∈T.switches:=hu1
   have hu2:(zat T u.1.w).name=u.1.w:=hu2
   have hv2:valV (swD T) (bK u.1.w)=some (.int (zat T u.1.w).place):=by
    have:=zws (l:=T.switches) (g:=Tilt.Switch.name) (v:=fun c=>V.int c.place) hu1 tw.sn
    rw [hu2] at this
    exact this
   refine ⟨m.switches,_,rfl,by rw [← hv2];exact DGet.t R9.sw (k:=bK u.1.w) (by rw [bK_V];exact ht9),?_⟩
   refine ⟨_,rfl,p,_,_,rfl,w9,rfl,_,rfl,_,rfl,rfl,p,tr,txt,u.2,e,u.1.at_,_,7,rfl,R9.ws,?_⟩
   have hne:(!decide (V.int ((zat T u.1.w).place:Nat)=V.int ((zat T n.1.w).place:Nat)))=((zat T u.1.w).place != (zat T n.1.w).place):=by
    rw [zas]
    by_cases h:(zat T u.1.w).place=(zat T n.1.w).place
    ·simp [h]
    ·rw [decide_eq_false (show ¬((zat T u.1.w).place:Int)=((zat T n.1.w).place:Int) by omega)];simp [h]
   rw [hne]
   refine (Out.bind q).loc R9.s0 R9.sp fun u2 eu2 q=>?_
   exact fin _ (some _) _ _ R9 q
end
end
section
def GTd (K:W.Frag) (mg:Str→Option Value) (x:Str) (ys:List Str):Prop:=∃ a,mg x=some (.ref a)∧SqT K (fun _=>none) a (ys.map V.str)∧∃ o,K.lookup a=some o∧o.cls = .type "tuple"∧o.dict=none
def tGD (K:W.Frag) (ys:List Str):TE:=fun _ H Q=>∀ a,SqT K H a (ys.map V.str)→tyV K "tuple" (.ref a) H→Q (.ref a) H
theorem zD2 {X:Cx} {x:Str} {ys:List Str} {pos:Pos} (h:GTd X.K X.mg x ys) (hg:Gl X x:=by rfl) (hd:(x == ("__debug__" : Str))=false:=by decide):PE X (.Name x pos) (tGD X.K ys):=by
 obtain ⟨a,h,q,o,h1,h2,h3⟩:=h
 intro pins s σ H Q I hw
 refine zkl (v:=.ref a) hg h rfl hd pins s σ H Q I (hw a ?_ (.inr (.inl ⟨rfl,o,h1,h2,h3⟩)))
 rcases q with q | q
 ·rcases q with q | ⟨o,q⟩<;>cases q
 ·exact .inr q
def sN (i:Nat):Str:=(["table","switch","lamp","coil","device","kick"]:List Str).getD i ""
def soIx:Option Tilt.Had→List Nat
 | none=>[0]
 | some y=>(List.range 6).drop (max 1 y.sort)
def soOf (h:Option Tilt.Had):List Str:=(soIx h).map sN
def ixOf (b:Bytes):Option Nat:=Tilt.SORTS.findIdx? fun n=>Tilt.ascii n == b
def zbl:Option Tilt.Had→Tilt.Table
 | none=>Tilt.noTable
 | some y=>y.T
theorem zyq (i:Nat) (h:i<6):(sN i).cps.size≤1000∧((sN i).cps.toList.map fun (c:Nat)=>V.int c)=bV (Tilt.ascii (Tilt.SORTS.getD i "")):=by
 have:i=0∨i=1∨i=2∨i=3∨i=4∨i=5:=by omega
 rcases this with rfl | rfl | rfl | rfl | rfl | rfl<;>exact ⟨by decide +kernel,by decide +kernel⟩
theorem zCk (b:Bytes) (i:Nat) (h:i<6):decide (Tilt.ascii (Tilt.SORTS.getD i "")=b)=decide (ixOf b=some i):=by
 by_cases hb:Tilt.ascii (Tilt.SORTS.getD i "")=b
 ·rw [decide_eq_true hb,decide_eq_true]
  subst hb
  have:i=0∨i=1∨i=2∨i=3∨i=4∨i=5:=by omega
  rcases this with rfl | rfl | rfl | rfl | rfl | rfl<;>decide +kernel
 ·rw [decide_eq_false hb,decide_eq_false]
  intro hi
  unfold ixOf at hi
  rw [List.findIdx?_eq_some_iff_getElem] at hi
  obtain ⟨h1,h2,_⟩:=hi
  apply hb
  have e:Tilt.SORTS.getD i ""=Tilt.SORTS[i]:=by rw [List.getD_eq_getElem?_getD,List.getElem?_eq_getElem h1];rfl
  rw [e]
  exact eq_of_beq h2
theorem zCl {b:Bytes} {i:Nat} (h:ixOf b=some i):i<6:=by
 unfold ixOf at h
 rw [List.findIdx?_eq_some_iff_getElem] at h
 obtain ⟨h1,_⟩:=h
 exact h1
def zv7 (e:Nat) (h:Option Tilt.Had) (T:Tilt.Table) (l:List Tilt.Word):Except Tilt.Fault (Nat×List Tilt.Word):=do
 let w ← Tilt.next e l
 match ixOf w.1.w with
 | none=>.error ⟨3,w.1.at_⟩
 | some i=>if i∉soIx h∨(i=4∧8≤T.devices.length)∨(i=5∧8≤T.kicks.length) then .error ⟨3,w.1.at_⟩ else return (i,w.2)
theorem zxk (b:Bytes) (h:Option Tilt.Had):(soIx h).filter (fun i=>decide (ixOf b=some i))=match ixOf b with | none=>[] | some i=>if i∈soIx h then [i] else []:=by
 have key:∀ (l:List Nat),l.Nodup→l.filter (fun i=>decide (ixOf b=some i))=match ixOf b with | none=>[] | some i=>if i∈l then [i] else []:=by
  intro l hl
  cases hb:ixOf b with
  | none=>simp
  | some i=>
   induction l with
   | nil=>rfl
   | cons x r ih=>
    rw [List.nodup_cons] at hl
    have ih:=ih hl.2
    by_cases hx:i=x
    ·subst hx
     have e:r.filter (fun j=>decide (some i=some j))=[]:=by
      rw [List.filter_eq_nil_iff]
      intro y hy
      simp
      exact fun z=>hl.1 (z▸hy)
     rw [List.filter_cons,if_pos (by simp),e]
     simp
    ·rw [List.filter_cons,if_neg (by simpa using hx),ih]
     simp [hx]
 refine key _ ?_
 cases h with
 | none=>decide
 | some y=>exact (List.nodup_range).sublist (List.drop_sublist _ _)
theorem zBa {h:Option Tilt.Had} {i:Nat} (hi:i∈soIx h):i<6:=by
 cases h with
 | none=>simp [soIx] at hi;omega
 | some y=>exact List.mem_range.mp (List.mem_of_mem_drop hi)
theorem zAt {X:Cx} {K:W.Frag} (hK:X.K=K) (hu:X.A.units+64<cLine):OpR X (compareOp .Eq) (rEqT K):=by
 subst hK
 exact zvj hu
theorem zwo {ta tb:TE} {σ:St} {H:Hp} {Q:VK} (c d:Bool) (ha:∀ Q':VK,Q' (.bl c) H→ta σ H Q') (hb:∀ Q':VK,Q' (.bl d) H→tb σ H Q') (q:Q (.bl (c || d)) H):tOrV ta tb σ H Q:=by
 refine ha _ ⟨c,rfl,?_⟩
 cases c with
 | false=>exact iteF (hb _ (by simpa using q))
 | true=>exact iteT (by simpa using q)
theorem zxv {K:W.Frag} {cT t p t1 dx:Addr} {m:MT} {H:Hp} {b:Bytes} {ix:List Nat} {Q:VK} (c1:Cls K cT) (c2:NoAttr K cT "sorts") (hT:H t=some (.ins cT dx (zdx m))) (hs:SqT K H m.sorts ((ix.map sN).map V.str)) (hb:H t1=some (.tup (bV b))) (h6:∀ i∈ix,i<6) (h10:ix.length≤10)
  (q:∀ D H' fl,fl=ix.filter (fun i=>decide (ixOf b=some i))→Same H H'→H' D=some (.lst (fl.map fun i=>V.str (sN i)))→Q (.ref D) H') :
  tLc (iTup K (tFld K (tVar 0) "sorts")) (zke 4) (zky (tOp (rEqT K) (zq8 zdw [] E0 (zdk (tVar 4) tNil)) (tVar 2))) (tVar 4) [4] [some (.ref t),some (.ref p),some (.ref t1),none,none] H Q:=by
 refine ⟨_,rfl,t,_,_,_,_,rfl,hT,c1,c2,rfl,m.sorts,rfl,⟨_,hs⟩,fun D hD=>zoo (n:=ix.length) (fun i H'=>Same H H'∧H' D=some (.lst (((ix.take i).filter fun i=>decide (ixOf b=some i)).map fun i=>V.str (sN i)))) ⟨Same.new hD,zaf⟩ (fun H' e=>⟨⟨_,Same.sqT e.1 hs,by simp⟩,?_⟩) fun i H' hi e=>⟨⟨_,_,Same.sqT e.1 hs,List.getElem?_eq_getElem (by simpa using hi)⟩,fun v H2 y=>?_⟩⟩
 ·have e2:=e.2
  rw [List.take_length] at e2
  exact q D H' _ rfl e.1 e2
 ·obtain ⟨rfl,y⟩:=y
  have y:=y _ (Same.sqT e.1 hs)
  obtain ⟨j,hj,rfl⟩ : ∃ j,ix[i]? = some j∧v=V.str (sN j):=by
   simp only [List.getElem?_map,Option.map_eq_some_iff] at y
   obtain ⟨a,⟨a2,h1,h2⟩,h3⟩:=y
   exact ⟨a2,h1,by rw [← h3,← h2]⟩
  have hj6:=h6 j (List.mem_of_getElem? hj)
  obtain ⟨s1,s2⟩:=zyq j hj6
  refine ⟨rfl,?_⟩
  refine ⟨_,rfl,sN j,rfl,s1,fun H3 s3 k3 h3=>⟨_,rfl,s3,t1,bI (Tilt.ascii (Tilt.SORTS.getD j "")),bI b,rfl,rfl,SqT.of (by rw [h3,s2];rfl),SqT.of (k3 _ _ (e.1 _ _ hb)),_,rfl,?_⟩⟩
  rw [zrf,zCk b j hj6]
  have hD3:=k3 _ _ e.2
  have s3':Same H H3:=Same.trans e.1 k3
  have hDn:∀ o,H D≠some o:=fun o z=>by rw [hD] at z;cases z
  by_cases hx:ixOf b=some j
  ·rw [decide_eq_true hx]
   refine iteT ⟨_,rfl,_,hD3,?_,?_,?_⟩
   ·have:=List.length_filter_le (fun i=>decide (ixOf b=some i)) (ix.take i)
    simp [sizeLine]
    simp at this
    omega
   ·intro c o hc
    rw [zag (fun z=>hDn o (by rw [← z];exact hc))]
    exact s3' c o hc
   ·rw [zaf,zbe hj,List.filter_append]
    simp [hx]
  ·rw [decide_eq_false hx]
   refine iteF ⟨s3',?_⟩
   rw [hD3,zbe hj,List.filter_append]
   simp [hx]
section
variable {cW cF cT cC cK:Addr}
def zwk (K:W.Frag) (ad:Ad):Sp:=fun vs H Q E=>E8 fun t w tr txt H0 T h l=>E2 fun e p=>A3 (vs=[.ref t, .ref w]) (RS K ad H0 tr txt H t w T (soOf h) l e p) (Out ad.cF E (fun _=>False) H0 (zv7 e h T l) fun x=>∀ H' p',x.1<6→RS K ad H0 tr txt H' t w T (soOf (some ⟨x.1,T⟩)) x.2 e p'→Q (.str (sN x.1)) H')
abbrev zef:Stmt:=top 70
theorem sc_take_sort:zai ["table","words","word","found","sort"] ["table","words"] (zae zef):=by walk_at "sc"
theorem zod:zak zef "take_sort" "take_sort" ["table","words"]:=fun _ _ _ _ _ _ us hl=>match us,hl with | [_,_],_=>rfl
theorem zo4 (tG:TG K mg) (tWords:zb9 K cW) (tTable:zd0 K cT) (m_Words_take:Md P w K mg base (CXF P w cF) cW "take" ["self"] 3 (zji K cW cF)) (d_spelled:Dn P w K mg base CX0 "spelled" ["word"] 1 (zdw)) (m_Words_check:Md P w K mg base (CXF P w cF) cW "check" ["self","right","kind"] 3 (zc8 K cW cF)) (tL:GTd K mg "LATER_SORTS" ["switch","lamp","coil","device","kick"]) (F:FnK K mg "take_sort" zef) :
  Dn P w K mg base (CXF P w cF) "take_sort" ["table","words"] 4 (zwk K ⟨cC,cK,cW,cT,cF⟩):=by
 refine F.dnF sc_take_sort zod (fun vs H Q E h=>?_) (fun f cdv A outer s H vs Q E hr h=>?_)
 ·obtain ⟨t,p,tr,txt,H0,T,hh,l,e,pl,rfl,_⟩:=h
  rfl
 ·obtain ⟨t,p,tr,txt,H0,T,hh,l,e,pl,rfl,⟨dx,m,cs,ks,hk,sk,tw,R⟩,q⟩:=h
  have hu:=za2 hr
  have hu64:=hr.units
  refine ⟨_,(zab (zax (i:=2) sc_take_sort.nd rfl (Or.inr rfl) (zbk m_Words_take tWords.cl hr za0 (pv 1)))
   (zab (zm5 rfl sc_take_sort.nd (i:=3) rfl rfl (zq7 rfl rfl rfl rfl) (zsb (zah (pv 0) rfl)) (zeq (own:=[("sort",4)]) rfl) (fun _ _ _ _ _=>zbp (i:=4) sc_take_sort.nd rfl (Or.inl rfl)) (fun _ _ _ _ _=>(zqq (zan (zAt (K:=K) rfl hu64) (pe_d d_spelled hr zaz (zaa (pv 4) zad)) (pv 2) (zam _)))) (fun _ _ _ _ _=>(pv 4)))
   (zab (zal (pe_m m_Words_check tWords.cl hr za0 (pv 1) (zaa (zba zbg (za7 zav (by rfl) tG.b_len zcs (zaa (pv 3) zad)) zao (zam _)) (zaa (zap tG.g_WRONG_WORD) zad))))
   (zab (zax (i:=4) sc_take_sort.nd rfl (Or.inl rfl) (zdy zbu (pv 3) zao (fun _ _=>rfl)))
   (zab (zal (pe_m m_Words_check tWords.cl hr za0 (pv 1) (zaa (ztg (zba zqm (pv 4) zb6 (zam _)) (zje (zba ziz (za7 zt9 (by rfl) tG.b_len zcs (zaa (zah (pv 0) rfl) zad)) (zap tG.g_MOST_DEVICES) (zam _)))) (zaa (zap tG.g_WRONG_WORD) zad))))
   (zab (zal (pe_m m_Words_check tWords.cl hr za0 (pv 1) (zaa (ztg (zba zqm (pv 4) zb6 (zam _)) (zje (zba ziz (za7 zav (by rfl) tG.b_len zcs (zaa (zah (pv 0) rfl) zad)) (zap tG.g_MOST_KICKS) (zam _)))) (zaa (zap tG.g_WRONG_WORD) zad))))
   (zab (za5 (zan zbg (pv 4) zb6 (zam _)) (zac (zau (pv 0) (zAw tG.t_LATER_SORTS) rfl)) (zac (zau (pv 0) (zhu zA9 (zAw tG.t_LATER_SORTS) (zfo (zte PySem.F.plainAttrs_tuple PySem.F.slot_tuple_index PySem.F.type_tuple_index zvc (zD2 tL) (zaa (pv 4) zad))) zvv) rfl)))
   (zac (zar (pv 4)))))))))),?_⟩
  have f_tWords_cl:=tWords.cl
  have f_tTable_cl:=tTable.cl
  have f_tTable_n_sorts:=tTable.n_sorts
  have f_tTable_n_devices:=tTable.n_devices
  have f_tTable_n_kicks:=tTable.n_kicks
  obtain ⟨d0,a0,w0,_⟩:=R.ws.ob
  refine ⟨_,rfl,p,_,_,rfl,w0,rfl,p,tr,txt,l,e,pl,rfl,R.ws,(Out.bind q).loc R.s0 R.sp fun y ey q H1 t1 h1 ht k1 hy1 hy2=>?_⟩
  have R1:=R.step k1 h1
  dsimp only [zke,tSeq,tAsg]
  refine zxv (ix:=soIx hh) f_tTable_cl f_tTable_n_sorts R1.tab R1.so ht (fun i hi=>zBa hi) ?_ fun D H2 fl hfl k2 hD=>?_
  ·cases hh with
   | none=>decide
   | some y=>simp [soIx];omega
  have R2:=R1.same k2
  obtain ⟨d2,a2,w2,_⟩:=R2.ws.ob
  refine ⟨_,rfl,p,_,_,rfl,w2,rfl,_,rfl,D,_,rfl, .inl (SqL.of hD),rfl,p,tr,txt,y.2,e,y.1.at_,_,3,rfl,R2.ws,?_⟩
  rw [zas]
  rw [zxk] at hfl
  have er:∀ {b:Bool} {k:Nat} {φ:Unit→Prop},Out cF E (fun _=>False) H0 (.error ⟨3,y.1.at_⟩ : Except Tilt.Fault (Nat×List Tilt.Word)) (fun _=>True)→b=false→k=3→Out cF E (only p) H2 (Tilt.holds b k y.1.at_) φ:=by
   intro b k φ z hb hk
   subst hb hk
   exact Out.loc (α:=Unit) (r:=.error ⟨3,y.1.at_⟩) (ok:=fun _=>True) z R2.s0 R2.sp fun a ea=>by cases ea
  cases hix:ixOf y.1.w with
  | none=>
   rw [hix] at q hfl
   subst hfl
   exact er q (by simp) rfl
  | some i=>
   have hi6:=zCl hix
   rw [hix] at q hfl
   simp only at q hfl
   by_cases hin:i∈soIx hh
   ·rw [if_pos hin] at hfl
    subst hfl
    simp only [List.map_cons,List.map_nil,List.length_cons,List.length_nil,Nat.zero_add] at hD ⊢
    have hD:H2 D=some (.lst [V.str (sN i)]):=hD
    refine ⟨_,rfl,_,_,0, .str (sN i),rfl,rfl,SqL.of hD,rfl,?_⟩
    have w2':=w2
    have hsn:∀ j:Nat,j<6→(decide (V.str (sN i)=V.str (sN j)))=decide (i=j):=by
     intro j hj
     have hi:i=0∨i=1∨i=2∨i=3∨i=4∨i=5:=by omega
     have hj:j=0∨j=1∨j=2∨j=3∨j=4∨j=5:=by omega
     rcases hi with rfl | rfl | rfl | rfl | rfl | rfl<;>rcases hj with rfl | rfl | rfl | rfl | rfl | rfl<;>decide +kernel
    have few:∀ (k n:Nat),(!decide (i=k) || decide ((n:Int)<8)) = !decide (i=k∧8≤n):=by
     intro k n
     by_cases h1:i=k
     ·by_cases h2:8≤n
      ·have h3:¬(n:Int)<8:=by omega
       simp [h1,h2,h3]
      ·have h3:(n:Int)<8:=by omega
       simp [h1,h2,h3]
     ·simp [h1]
    have e4:decide (V.str (sN i)=V.str "device")=decide (i=4):=hsn 4 (by decide)
    have e5:decide (V.str (sN i)=V.str "kick")=decide (i=5):=hsn 5 (by decide)
    have e0:decide (V.str (sN i)=V.str "table")=decide (i=0):=hsn 0 (by decide)
    refine ⟨_,rfl,p,_,_,rfl,w2,rfl,zwo (!decide (i=4)) (decide ((T.devices.length:Int)<8)) (fun Q' h=>⟨_,rfl,rfl,by rw [e4];exact h⟩)
     (fun Q' h=>⟨_,rfl,t,_,_,_,_,rfl,R2.tab,f_tTable_cl,f_tTable_n_devices,rfl,m.devices,_,rfl,R2.dv,_,_,rfl,rfl,by rw [show (dvD T).length=T.devices.length by simp [dvD]];exact h⟩) ⟨p,tr,txt,y.2,e,y.1.at_,_,3,rfl,R2.ws,?_⟩⟩
    rw [few]
    by_cases h4:i=4∧8≤T.devices.length
    ·rw [if_pos (.inr (.inl h4))] at q
     exact er q (by rw [decide_eq_true h4];rfl) rfl
    rw [decide_eq_false h4]
    refine ⟨_,rfl,p,_,_,rfl,w2,rfl,zwo (!decide (i=5)) (decide ((T.kicks.length:Int)<8)) (fun Q' h=>⟨_,rfl,rfl,by rw [e5];exact h⟩)
     (fun Q' h=>⟨_,rfl,t,_,_,_,_,rfl,R2.tab,f_tTable_cl,f_tTable_n_kicks,rfl,m.kicks,_,rfl, .inl (SqL.of R2.ki),_,_,rfl,rfl,by rw [List.length_map,show ks.length=T.kicks.length from tw.kk.length];exact h⟩) ⟨p,tr,txt,y.2,e,y.1.at_,_,3,rfl,R2.ws,?_⟩⟩
    rw [few]
    by_cases h5:i=5∧8≤T.kicks.length
    ·rw [if_pos (.inr (.inr h5))] at q
     exact er q (by rw [decide_eq_true h5];rfl) rfl
    rw [decide_eq_false h5]
    rw [if_neg (fun z=>z.elim (fun z=>z hin) fun z=>z.elim h4 h5)] at q
    refine ⟨_,rfl,rfl,_,rfl,?_⟩
    rw [e0]
    have sorts:∀ (a:Addr) (H3:Hp),Same H2 H3→SqT K H3 a ((soOf (some ⟨i,T⟩)).map V.str)→RS K ⟨cC,cK,cW,cT,cF⟩ H0 tr txt (upd H3 t (.ins cT dx (zdx { m with sorts:=a }))) t p T (soOf (some ⟨i,T⟩)) y.2 e y.1.at_:=by
     intro a H3 k3 h3
     have R3:=R2.same k3
     refine ⟨dx,{ m with sorts:=a },cs,ks,hk,sk,⟨tw.bl,tw.dr,tw.ct,tw.ls,tw.ll,tw.lc,tw.lk,tw.sn,tw.sp,tw.cn,tw.cp,tw.sb,tw.lb,tw.cb,tw.c31,tw.dn,tw.kn,tw.hb,tw.hl,tw.hs,tw.vl,tw.vs,tw.kk,tw.hn,tw.hp,tw.vn,tw.vp⟩,?_⟩
     exact RG.put (pre:=[]) (.ins cT dx (zdx { m with sorts:=a })) R3 rfl (SqT.putM h3 R3.tab True.intro)
    by_cases h0:i=0
    ·rw [decide_eq_true h0]
     refine iteT fun a ha=>⟨_,rfl,t,_,_,_,rfl,R2.tab,f_tTable_cl,f_tTable_n_sorts,(by show 14<1000;decide),?_⟩
     refine ⟨_,rfl,q _ _ hi6 (sorts a H2 (Same.refl H2) ?_)⟩
     subst h0
     exact ha
    ·rw [decide_eq_false h0]
     refine iteF fun a ha b hb ty=>⟨ty,_,rfl,b,_, .str (sN i),i-1, .str (sN i),rfl,rfl,hb,rfl,rfl,?_,?_,?_,_,rfl,a,_,rfl,ha,fun c H3 h3 k3=>⟨_,rfl,t,_,_,_,rfl,k3 _ _ R2.tab,f_tTable_cl,f_tTable_n_sorts,(by show 14<1000;decide),_,rfl,q _ _ hi6 (sorts c H3 k3 ?_)⟩⟩
     ·have:i=1∨i=2∨i=3∨i=4∨i=5:=by omega
      rcases this with rfl | rfl | rfl | rfl | rfl<;>rfl
     ·simp [eqV]
     ·intro mm z hm hz
      have h1:i=1∨i=2∨i=3∨i=4∨i=5:=by omega
      have h2:mm=0∨mm=1∨mm=2∨mm=3:=by omega
      rcases h1 with rfl | rfl | rfl | rfl | rfl<;>rcases h2 with rfl | rfl | rfl | rfl<;>first | omega | (cases hz;decide +kernel)
     ·have:i=1∨i=2∨i=3∨i=4∨i=5:=by omega
      rcases this with rfl | rfl | rfl | rfl | rfl<;>exact h3
   ·rw [if_neg hin] at hfl
    subst hfl
    rw [if_pos (.inl hin)] at q
    exact er q (by simp) rfl
end
end
section
def ze9 (s e:Nat) (T:Tilt.Table) (l:List Tilt.Word):Except Tilt.Fault (Tilt.Table×List Tilt.Word):=
 if s=0 then zmk e T l else if s=1 then ze2 e T l else if s=2 then zmp e T l else if s=3 then zmd e T l else if s=4 then zes e T l else zp8 e T l
def zu3 (h:Option Tilt.Had) (T:Tilt.Table) (e:Nat) (l:List Tilt.Word):Except Tilt.Fault Tilt.Had:=do
 let s ← zv7 e h T l
 let x ← ze9 s.1 e T s.2
 let _ ← Tilt.closed x.2
 return ⟨s.1,x.1⟩
def HI:Option Tilt.Had→Prop
 | none=>True
 | some y=>y.sort≤5∧(y.sort≤4→y.T.kicks=[])
def zb8 (x:Except Tilt.Fault (Tilt.Table×List Tilt.Word)):Except Tilt.Fault Tilt.Table:=do
 let y ← x
 let _ ← Tilt.closed y.2
 return y.1
theorem zay {α β:Type} {x:Except Tilt.Fault α} {f g:α→Except Tilt.Fault β} (h:∀ a,x = .ok a→f a=g a):(x >>= f)=(x >>= g):=by
 cases x with
 | ok a=>exact h a rfl
 | error e=>rfl
theorem za6 {α β γ:Type} (x:Except Tilt.Fault α) (f:α→Except Tilt.Fault β) (g:β→Except Tilt.Fault γ):((x >>= f) >>= g)=(x >>= fun a=>f a >>= g):=by
 cases x<;>rfl
theorem zbd {α β:Type} (a:α) (f:α→Except Tilt.Fault β):((pure a:Except Tilt.Fault α) >>= f)=f a:=rfl
theorem zet {α β:Type} (a:α) (f:α→Except Tilt.Fault β):((Except.ok a:Except Tilt.Fault α) >>= f)=f a:=rfl
theorem zig {α β:Type} (e:Tilt.Fault) (f:α→Except Tilt.Fault β):((Except.error e:Except Tilt.Fault α) >>= f) = .error e:=rfl
theorem zvd {β:Type} (e:Nat) (had:List Bytes) (bb:Bytes) (l:List Tilt.Word) (k:Bytes×List Tilt.Word→Except Tilt.Fault β) :
  (Tilt.notCalled bb l >>= fun _=>Tilt.newName e had l >>= k)=(newR e had bb l >>= fun x=>k (x.1.w,x.2)):=by
 cases l with
 | nil=>rfl
 | cons y r=>
  unfold Tilt.notCalled Tilt.newName newR zos Tilt.holds
  simp only [Tilt.next,zet,za6]
  by_cases hb:y.w=bb
  ·have h1:(y.w != bb)=false:=by simp [hb]
   cases hn:Tilt.isName y.w with
   | false=>simp [h1,hn,zig]
   | true=>simp [h1,hn,hb,zig,zbd]
  ·have h1:(y.w != bb)=true:=by simp [hb]
   cases hn:Tilt.isName y.w with
   | false=>simp [h1,hn,zig,zet]
   | true=>
    simp only [h1,if_true,zet,Bool.true_eq_false,if_false,zbd,hb,hn]
    cases hc:had.contains y.w with
    | true=>simp [zig]
    | false=>simp [zbd]
theorem zr1 {β:Type} (e:Nat) (had:List Bytes) (l:List Tilt.Word) (k:Bytes×List Tilt.Word→Except Tilt.Fault β):(Tilt.newName e had l >>= k)=(newR e had [] l >>= fun x=>k (x.1.w,x.2)):=by
 cases l with
 | nil=>rfl
 | cons y r=>
  unfold Tilt.newName newR zos
  simp only [Tilt.next,zet,za6]
  cases hn:Tilt.isName y.w with
  | false=>simp [zig]
  | true=>
   have hb:¬y.w=[]:=fun z=>by rw [z] at hn;simp [Tilt.isName] at hn
   simp only [Bool.true_eq_false,if_false,zbd,hb,hn]
   cases hc:had.contains y.w with
   | true=>simp [zig]
   | false=>simp [zbd]
theorem zx4 {β:Type} (e:Nat) (l:List Tilt.Word) (k:Bytes×List Tilt.Word→Except Tilt.Fault β):(Tilt.newName e [] l >>= k)=(zos e l >>= fun x=>k (x.1.w,x.2)):=by
 cases l with
 | nil=>rfl
 | cons y r=>
  unfold Tilt.newName zos
  simp only [Tilt.next,zet,za6]
  cases hn:Tilt.isName y.w with
  | false=>simp [zig]
  | true=>simp [zbd]
theorem zz6 (e:Nat) (l:List Tilt.Word):Tilt.firstIn e l=zb8 (zmk e Tilt.noTable l):=by
 unfold Tilt.firstIn zb8 zmk
 rw [zx4]
 simp only [za6,zbd]
theorem zwn (e:Nat) (T:Tilt.Table) (l:List Tilt.Word):Tilt.switchIn e T l=zb8 (ze2 e T l):=by
 unfold Tilt.switchIn zb8 ze2
 rw [zvd]
 simp only [za6,zbd]
 refine zay fun n _=>zay fun a _=>zay fun p _=>zay fun b _=>zay fun c _=>zay fun d _=>zay fun o _=>?_
 unfold zDo
 cases ho:o.2.isEmpty with
 | true=>
  have:o.2=[]:=List.isEmpty_iff.mp ho
  simp [zet,this,Tilt.closed]
  rfl
 | false=>
  simp [ho,za6]
theorem zAk (e:Nat) (T:Tilt.Table) (l:List Tilt.Word):Tilt.lampIn e T l=zb8 (zmp e T l):=by
 unfold Tilt.lampIn zb8 zmp
 rw [zvd]
 simp only [za6,zbd]
theorem zz1 (e:Nat) (T:Tilt.Table) (l:List Tilt.Word):Tilt.coilIn e T l=zb8 (zmd e T l):=by
 unfold Tilt.coilIn zb8 zmd
 rw [zr1]
 simp only [za6,zbd]
 refine zay fun n _=>zay fun a _=>zay fun p _=>zay fun b _=>zay fun c _=>zay fun d _=>zay fun o _=>?_
 unfold zz7
 cases ho:o.2.isEmpty with
 | true=>
  have:o.2=[]:=List.isEmpty_iff.mp ho
  simp [zet,this,Tilt.closed]
  rfl
 | false=>
  simp [ho,za6,zbd]
end
section
theorem zxh {α:Type} {l:List α} {g:α→Bytes} {b:Bytes}:match (l.map g).findIdx? (fun n=>n == b) with
  | none=>(l.map g).contains b=false
  | some i=>(l.map g).contains b=true∧l[i]? = l.find? (fun s=>g s == b):=by
 induction l with
 | nil=>rfl
 | cons x r ih=>
  rw [List.map_cons,List.findIdx?_cons,List.contains_cons,List.find?_cons]
  by_cases hx:g x=b
  ·simp [hx]
  ·have h1:(g x == b)=false:=by simp [hx]
   have h2:(b == g x)=false:=by simp;exact fun z=>hx z.symm
   rw [h1,h2]
   simp only [Bool.false_eq_true,if_false,Bool.false_or]
   cases hf:(r.map g).findIdx? (fun n=>n == b) with
   | none=>rw [hf] at ih;exact ih
   | some i=>rw [hf] at ih;exact ih
theorem zrt {α β:Type} (e:Nat) (l:List α) (g:α→Bytes) (ws:List Tilt.Word) (k:Option α→Nat→List Tilt.Word→Except Tilt.Fault β) :
  (Tilt.known e (l.map g) ws >>= fun x=>k (l[x.1.1]?) x.1.2 x.2)=(zfj e (l.map g) ws >>= fun x=>k (l.find? fun s=>g s == x.1.w) x.1.at_ x.2):=by
 cases ws with
 | nil=>rfl
 | cons y r=>
  unfold Tilt.known zfj kn
  simp only [Tilt.next,zet,za6]
  cases hn:Tilt.isName y.w with
  | false=>simp [zig]
  | true=>
   simp only [Bool.true_eq_false,if_false]
   have:=zxh (l:=l) (g:=g) (b:=y.w)
   cases hf:(l.map g).findIdx? (fun n=>n == y.w) with
   | none=>
    rw [hf] at this
    have h3:(l.map g).contains y.w=false:=this
    simp only [h3,if_true,zig]
   | some i=>
    rw [hf] at this
    have h3:(l.map g).contains y.w=true:=this.1
    simp only [h3,Bool.true_eq_false,if_false,zet,zbd]
    rw [this.2]
theorem zuc {β:Type} (e:Nat) (T:Tilt.Table) (ws:List Tilt.Word) (k:(Tilt.Coil×Nat)×List Tilt.Word→Except Tilt.Fault β) :
  (Tilt.coilNamed e T ws >>= k)=(zfj e (T.coils.map Tilt.Coil.name) ws >>= fun x=>k ((zgd T x.1.w,x.1.at_),x.2)):=by
 unfold Tilt.coilNamed
 simp only [za6,zbd]
 exact zrt e T.coils Tilt.Coil.name ws fun o p r=>k ((o.getD ⟨0,0,0,0,[]⟩,p),r)
theorem zyv (T:Tilt.Table) (b:Bytes):((T.switches.find? fun s=>s.name == b).map fun (s:Tilt.Switch)=>s.place).getD 0=(zat T b).place:=by
 unfold zat
 cases T.switches.find? fun s=>s.name == b<;>rfl
theorem zmo {β:Type} (e:Nat) (T:Tilt.Table) (ws:List Tilt.Word) (k:Nat→Nat→List Tilt.Word→Except Tilt.Fault β) :
  (Tilt.known e (T.switches.map Tilt.Switch.name) ws >>= fun x=>k (((T.switches[x.1.1]?).map fun (s:Tilt.Switch)=>s.place).getD 0) x.1.2 x.2)=(zfj e (T.switches.map Tilt.Switch.name) ws >>= fun x=>k (zat T x.1.w).place x.1.at_ x.2):=by
 have:=zrt e T.switches Tilt.Switch.name ws fun o p r=>k ((o.map fun (s:Tilt.Switch)=>s.place).getD 0) p r
 simp only [zyv] at this
 exact this
theorem zlo (r:List Tilt.Word) {α:Type} (x:α):((Tilt.closed r).map fun (_:Unit)=>x)=(Tilt.closed r >>= fun _=>.ok x):=by
 cases Tilt.closed r<;>rfl
theorem zus (e:Nat) (T:Tilt.Table):∀ (k:Nat) (had:List Nat) (l:List Tilt.Word),(k=0→had≠[])→Tilt.heldIn e T k had l=(zgq e T k had l >>= fun x=>Tilt.closed x.2 >>= fun _=>.ok x.1)
 | 0,had,l,h=>by
  cases l with
  | nil=>rfl
  | cons w r=>
   unfold Tilt.heldIn zgq
   by_cases hd:w.w=Tilt.DRAIN
   ·simp only [hd,if_true,zlo,zet]
   ·simp only [hd,if_false,zig]
 | k+1,had,l,h=>by
  cases l with
  | nil=>
   cases had with
   | nil=>rfl
   | cons a b=>rfl
  | cons w r=>
   have e1:Tilt.heldIn e T (k+1) had (w :: r)=if had≠[]∧w.w=Tilt.DRAIN then (Tilt.closed r).map fun (_:Unit)=>(had,true) else (Tilt.known e (T.switches.map Tilt.Switch.name) (w :: r) >>= fun x=>Tilt.holds (!(T.held++had).contains (((T.switches[x.1.1]?).map fun (s:Tilt.Switch)=>s.place).getD 0)) 7 x.1.2 >>= fun _=>Tilt.heldIn e T k (had++[((T.switches[x.1.1]?).map fun (s:Tilt.Switch)=>s.place).getD 0]) x.2):=by
    cases had<;>rfl
   have e2:zgq e T (k+1) had (w :: r)=if had≠[]∧w.w=Tilt.DRAIN then .ok ((had,true),r) else (zlt T (T.held++had) w.w w.at_ >>= fun p=>zgq e T k (had++[p]) r):=rfl
   rw [e1,e2]
   by_cases hc:had≠[]∧w.w=Tilt.DRAIN
   ·rw [if_pos hc,if_pos hc,zlo,zet]
   ·rw [if_neg hc,if_neg hc,zmo e T (w :: r) fun p a r=>Tilt.holds (!(T.held++had).contains p) 7 a >>= fun _=>Tilt.heldIn e T k (had++[p]) r]
    unfold zfj zlt
    simp only [Tilt.next,zet,za6,zbd]
    refine zay fun _ _=>zay fun _ _=>?_
    exact zus e T k _ r fun _=>by simp
theorem zz3 (T:Tilt.Table) (p:Nat) (h:T.kicks=[]):(T.devices.any fun (d:Tilt.Device)=>d.coil == p)=(udOf T).contains p:=by
 unfold udOf
 rw [h,List.map_nil,List.append_nil,List.contains_eq_any_beq,List.any_map]
 congr 1
 funext d
 rw [Bool.eq_iff_iff,beq_iff_eq,Function.comp,beq_iff_eq]
 exact eq_comm
theorem zDq (T:Tilt.Table) (p:Nat):(!(T.devices.any fun (d:Tilt.Device)=>d.coil == p) && !(T.kicks.any fun (k:Tilt.Kick)=>k.coil == p)) = !(udOf T).contains p:=by
 unfold udOf
 rw [List.contains_eq_any_beq,List.any_append,List.any_map,List.any_map,Bool.not_or]
 congr 2<;>(congr 1;funext d;rw [Bool.eq_iff_iff,beq_iff_eq,Function.comp,beq_iff_eq];exact eq_comm)
theorem zuj (e:Nat) (T:Tilt.Table) (l:List Tilt.Word) (h:T.kicks=[]):Tilt.deviceIn e T l=zb8 (zes e T l):=by
 unfold Tilt.deviceIn zb8 zes zup
 rw [zr1]
 simp only [za6,zbd,zuc]
 refine zay fun n _=>zay fun a _=>zay fun c _=>?_
 rw [zz3 T _ h]
 refine zay fun _ _=>zay fun b _=>?_
 rw [zus e T 8 [] b (by simp)]
 simp only [za6,zet]
def zAd (e:Nat) (T:Tilt.Table) (p a:Nat) (r:List Tilt.Word):Except Tilt.Fault Tilt.Table:=do
 let _ ← Tilt.holds (T.kicks.all fun (k:Tilt.Kick)=>decide (k.first<p)) 5 a
 let _ ← Tilt.holds (!T.held.contains p) 7 a
 let c ← Tilt.coilNamed e T r
 let _ ← Tilt.holds (!(T.devices.any fun (d:Tilt.Device)=>d.coil == c.1.1.place) && !(T.kicks.any fun (k:Tilt.Kick)=>k.coil == c.1.1.place)) 7 c.1.2
 let t ← Tilt.number e 1 255 (← Tilt.must e "for" c.2)
 let _ ← Tilt.holds (decide (t.1.1≤c.1.1.most)) 7 t.1.2
 if t.2.isEmpty=true then return { T with kicks:=T.kicks++[⟨p,c.1.1.place,t.1.1,none⟩] }
 else
  let u ← Tilt.known e (T.switches.map fun (s:Tilt.Switch)=>s.name) (← Tilt.must e "till" t.2)
  let q:=((T.switches[u.1.1]?).map fun (s:Tilt.Switch)=>s.place).getD 0
  let _ ← Tilt.holds (q != p) 7 u.1.2
  let _ ← Tilt.closed u.2
  return { T with kicks:=T.kicks++[⟨p,c.1.1.place,t.1.1,some q⟩] }
theorem zAe (e:Nat) (T:Tilt.Table) (l:List Tilt.Word):Tilt.kickIn e T l=zb8 (zp8 e T l):=by
 have e1:Tilt.kickIn e T l=(Tilt.known e (T.switches.map Tilt.Switch.name) l >>= fun s=>zAd e T (((T.switches[s.1.1]?).map fun (s:Tilt.Switch)=>s.place).getD 0) s.1.2 s.2):=rfl
 rw [e1,zmo e T l (zAd e T)]
 unfold zAd
 unfold zb8 zp8 zup
 simp only [za6,zbd,zuc]
 refine zay fun s _=>zay fun _ _=>zay fun _ _=>zay fun c _=>?_
 rw [zDq]
 refine zay fun _ _=>zay fun d _=>zay fun t _=>zay fun _ _=>?_
 unfold zBo
 cases ho:t.2.isEmpty with
 | true=>
  have:t.2=[]:=List.isEmpty_iff.mp ho
  simp [zet,this,Tilt.closed]
  rfl
 | false=>
  simp only [Bool.false_eq_true,if_false,za6,zbd]
  refine zay fun a _=>?_
  exact zmo e T a fun q at_ r=>Tilt.holds (q != (zat T s.1.w).place) 7 at_ >>= fun _=>Tilt.closed r >>= fun _=>(pure { T with kicks:=T.kicks++[⟨(zat T s.1.w).place,(zgd T c.1.w).place,t.1.1,some q⟩] }:Except Tilt.Fault Tilt.Table)
theorem zAl (h:Option Tilt.Had) (hi:HI h) (e:Nat) (l:List Tilt.Word):Tilt.lineIn h ⟨l,e⟩=(zu3 h (zbl h) e l >>= fun y=>.ok (some y)):=by
 unfold Tilt.lineIn zu3 zv7
 simp only [za6]
 refine zay fun w _=>?_
 cases h with
 | none=>
  have hw:w.1.w=Tilt.ascii "table"↔ixOf w.1.w=some 0:=by
   have:=zCk w.1.w 0 (by decide)
   constructor
   ·intro z
    exact of_decide_eq_true (this▸decide_eq_true z.symm)
   ·intro z
    exact (of_decide_eq_true (this.symm▸decide_eq_true z:decide (Tilt.ascii (Tilt.SORTS.getD 0 "")=w.1.w)=true)).symm
  by_cases hx:w.1.w=Tilt.ascii "table"
  ·have h0:=hw.mp hx
   simp only [hx,if_true,zz6]
   rw [← hx,h0]
   simp [soIx,zet,zbd,ze9,zbl,zb8,za6]
   rfl
  ·simp only [hx,if_false]
   cases hix:ixOf w.1.w with
   | none=>rfl
   | some i=>
    have:i≠0:=fun z=>hx (hw.mpr (by rw [hix,z]))
    simp [soIx,this,zig]
 | some y=>
  obtain ⟨hi5,hik⟩:=hi
  simp only [show ∀ b,List.findIdx? (fun n=>Tilt.ascii n == b) Tilt.SORTS=ixOf b from fun b=>rfl]
  cases hix:ixOf w.1.w with
  | none=>simp [zig]
  | some i=>
   have hi6:=zCl hix
   have hmem:i∈soIx (some y)↔¬(i=0∨i<y.sort):=by
    unfold soIx
    rw [List.mem_drop_iff_getElem]
    constructor
    ·rintro ⟨j,hj,rfl⟩
     simp at *
     omega
    ·intro hn
     refine ⟨i-max 1 y.sort,by simp;omega,by simp;omega⟩
   simp only [Option.getD_some]
   by_cases hc:i=0∨i<y.sort∨(i=4∧Tilt.EIGHT≤y.T.devices.length)∨(i=5∧Tilt.EIGHT≤y.T.kicks.length)
   ·have hc2:i∉soIx (some y)∨(i=4∧8≤(zbl (some y)).devices.length)∨(i=5∧8≤(zbl (some y)).kicks.length):=by
     rw [hmem]
     unfold Tilt.EIGHT at hc
     simp only [zbl]
     omega
    rw [if_pos hc,if_pos hc2,zig]
   ·have hc2:¬(i∉soIx (some y)∨(i=4∧8≤(zbl (some y)).devices.length)∨(i=5∧8≤(zbl (some y)).kicks.length)):=by
     rw [hmem]
     unfold Tilt.EIGHT at hc
     simp only [zbl]
     omega
    rw [if_neg hc,if_neg hc2,zbd]
    have hk:i=4→y.T.kicks=[]:=fun z=>hik (by omega)
    unfold ze9
    simp only [zbl]
    have:i=1∨i=2∨i=3∨i=4∨i=5:=by omega
    rcases this with rfl | rfl | rfl | rfl | rfl
    ·simp [zwn,zb8,za6,zbd];rfl
    ·simp [zAk,zb8,za6,zbd];rfl
    ·simp [zz1,zb8,za6,zbd];rfl
    ·simp [zuj _ _ _ (hk rfl),zb8,za6,zbd];rfl
    ·simp [zAe,zb8,za6,zbd];rfl
end
section
theorem zbb {α β:Type} {r:Except Tilt.Fault α} {f:α→Except Tilt.Fault β} {y:β} (h:(r >>= f) = .ok y):∃ a,f a = .ok y:=by
 cases r with
 | ok a=>exact ⟨a,h⟩
 | error e=>cases h
theorem zCh {e:Nat} {T:Tilt.Table} {l:List Tilt.Word} {x:Tilt.Table×List Tilt.Word} (h:zmk e T l = .ok x):x.1.kicks=T.kicks:=by
 unfold zmk at h
 obtain ⟨_,h⟩:=zbb h
 obtain ⟨_,h⟩:=zbb h
 obtain ⟨_,h⟩:=zbb h
 cases h
 rfl
theorem zyw {e:Nat} {T:Tilt.Table} {l:List Tilt.Word} {x:Tilt.Table×List Tilt.Word} (h:ze2 e T l = .ok x):x.1.kicks=T.kicks:=by
 unfold ze2 at h
 obtain ⟨_,h⟩:=zbb h
 obtain ⟨_,h⟩:=zbb h
 obtain ⟨_,h⟩:=zbb h
 obtain ⟨_,h⟩:=zbb h
 obtain ⟨_,h⟩:=zbb h
 obtain ⟨_,h⟩:=zbb h
 obtain ⟨_,h⟩:=zbb h
 obtain ⟨_,h⟩:=zbb h
 cases h
 rfl
theorem zCr {e:Nat} {T:Tilt.Table} {l:List Tilt.Word} {x:Tilt.Table×List Tilt.Word} (h:zmp e T l = .ok x):x.1.kicks=T.kicks:=by
 unfold zmp at h
 obtain ⟨_,h⟩:=zbb h
 obtain ⟨_,h⟩:=zbb h
 obtain ⟨_,h⟩:=zbb h
 cases h
 rfl
theorem zB8 {e:Nat} {T:Tilt.Table} {l:List Tilt.Word} {x:Tilt.Table×List Tilt.Word} (h:zmd e T l = .ok x):x.1.kicks=T.kicks:=by
 unfold zmd at h
 obtain ⟨_,h⟩:=zbb h
 obtain ⟨_,h⟩:=zbb h
 obtain ⟨_,h⟩:=zbb h
 obtain ⟨_,h⟩:=zbb h
 obtain ⟨_,h⟩:=zbb h
 obtain ⟨_,h⟩:=zbb h
 obtain ⟨_,h⟩:=zbb h
 obtain ⟨_,h⟩:=zbb h
 cases h
 rfl
theorem zxc {e:Nat} {T:Tilt.Table} {l:List Tilt.Word} {x:Tilt.Table×List Tilt.Word} (h:zes e T l = .ok x):x.1.kicks=T.kicks:=by
 unfold zes at h
 obtain ⟨_,h⟩:=zbb h
 obtain ⟨_,h⟩:=zbb h
 obtain ⟨_,h⟩:=zbb h
 obtain ⟨_,h⟩:=zbb h
 obtain ⟨_,h⟩:=zbb h
 cases h
 rfl
theorem zsu {s e:Nat} {T:Tilt.Table} {l:List Tilt.Word} {x:Tilt.Table×List Tilt.Word} (h:ze9 s e T l = .ok x) (hs:s≤4):x.1.kicks=T.kicks:=by
 unfold ze9 at h
 by_cases h0:s=0
 ·rw [if_pos h0] at h;exact zCh h
 rw [if_neg h0] at h
 by_cases h1:s=1
 ·rw [if_pos h1] at h;exact zyw h
 rw [if_neg h1] at h
 by_cases h2:s=2
 ·rw [if_pos h2] at h;exact zCr h
 rw [if_neg h2] at h
 by_cases h3:s=3
 ·rw [if_pos h3] at h;exact zB8 h
 rw [if_neg h3] at h
 by_cases h4:s=4
 ·rw [if_pos h4] at h;exact zxc h
 omega
theorem zBb {e:Nat} {h:Option Tilt.Had} {T:Tilt.Table} {l:List Tilt.Word} {x:Nat×List Tilt.Word} (hx:zv7 e h T l = .ok x):x.1∈soIx h∧(x.1=4→T.devices.length<8)∧(x.1=5→T.kicks.length<8):=by
 unfold zv7 at hx
 cases l with
 | nil=>cases hx
 | cons y r=>
  simp only [Tilt.next,zet] at hx
  split at hx
  ·cases hx
  ·split at hx
   ·cases hx
   ·rename_i hc
    cases hx
    refine ⟨?_,fun z=>?_,fun z=>?_⟩
    ·exact Classical.byContradiction fun z=>hc (.inl z)
    ·exact Nat.lt_of_not_le fun h=>hc (.inr (.inl ⟨z,h⟩))
    ·exact Nat.lt_of_not_le fun h=>hc (.inr (.inr ⟨z,h⟩))
theorem zl1 {h:Option Tilt.Had} (hi:HI h) {i:Nat} (hm:i∈soIx h) (h4:i≤4):(zbl h).kicks=[]:=by
 cases h with
 | none=>rfl
 | some y=>
  refine hi.2 ?_
  unfold soIx at hm
  rw [List.mem_drop_iff_getElem] at hm
  obtain ⟨j,hj,rfl⟩:=hm
  simp at h4
  omega
end
section
section
variable {cW cF cT cC cK:Addr}
def zwf (K:W.Frag) (ad:Ad):Sp:=fun vs H Q E=>E8 fun t w tr txt H0 h l e=>∃ p,A4 (vs=[.ref t, .ref w]) (RS K ad H0 tr txt H t w (zbl h) (soOf h) l e p) (HI h) (Out ad.cF E (fun _=>False) H0 (zu3 h (zbl h) e l) fun y=>∀ H' p',RS K ad H0 tr txt H' t w y.T (soOf (some y)) [] e p'→HI (some y)→Q .non H')
abbrev zee:Stmt:=top 69
theorem sc_read_line:zai ["table","words","sort"] ["table","words"] (zae zee):=by walk_at "sc"
theorem zoc:zak zee "read_line" "read_line" ["table","words"]:=fun _ _ _ _ _ _ us hl=>match us,hl with | [_,_],_=>rfl
theorem zo3 (tG:TG K mg) (tWords:zb9 K cW) (d_take_sort:Dn P w K mg base (CXF P w cF) "take_sort" ["table","words"] 4 (zwk K ⟨cC,cK,cW,cT,cF⟩)) (d_read_head:Dn P w K mg base (CXF P w cF) "read_head" ["table","words"] 6 (spLn K ⟨cC,cK,cW,cT,cF⟩ (fun _=>True) zmk)) (d_read_switch:Dn P w K mg base (CXF P w cF) "read_switch" ["table","words"] 6 (spLn K ⟨cC,cK,cW,cT,cF⟩ (fun _=>True) ze2)) (d_read_lamp:Dn P w K mg base (CXF P w cF) "read_lamp" ["table","words"] 6 (spLn K ⟨cC,cK,cW,cT,cF⟩ (fun _=>True) zmp)) (d_read_coil:Dn P w K mg base (CXF P w cF) "read_coil" ["table","words"] 6 (spLn K ⟨cC,cK,cW,cT,cF⟩ (fun _=>True) zmd)) (d_read_device:Dn P w K mg base (CXF P w cF) "read_device" ["table","words"] 7 (spLn K ⟨cC,cK,cW,cT,cF⟩ (fun T=>T.kicks=[]∧T.devices.length<8) zes)) (d_read_kick:Dn P w K mg base (CXF P w cF) "read_kick" ["table","words"] 7 (spLn K ⟨cC,cK,cW,cT,cF⟩ (fun T=>T.kicks.length<8) zp8)) (m_Words_check_ended:Md P w K mg base (CXF P w cF) cW "check_ended" ["self"] 3 (znk K cW cF)) (F:FnK K mg "read_line" zee) :
  Dn P w K mg base (CXF P w cF) "read_line" ["table","words"] 8 (zwf K ⟨cC,cK,cW,cT,cF⟩):=by
 refine F.dnF sc_read_line zoc (fun vs H Q E h=>?_) (fun f cdv A outer s H vs Q E hr h=>?_)
 ·obtain ⟨t,p,tr,txt,H0,hh,l,e,pl,rfl,_⟩:=h
  rfl
 ·obtain ⟨t,p,tr,txt,H0,hh,l,e,pl,rfl,R,hi,q⟩:=h
  have hu:=za2 hr
  have hu64:=hr.units
  refine ⟨_,(zab (zax (i:=2) sc_read_line.nd rfl (Or.inl rfl) (pe_d d_take_sort hr za0 (zaa (pv 0) (zaa (pv 1) zad))))
   (zab (za5 (zan zbg (pv 2) zb6 (zam _)) (zac (zal (pe_d d_read_head hr za0 (zaa (pv 0) (zaa (pv 1) zad))))) (zac (za5 (zan zbg (pv 2) zb6 (zam _)) (zac (zal (pe_d d_read_switch hr za0 (zaa (pv 0) (zaa (pv 1) zad))))) (zac (za5 (zan zbg (pv 2) zb6 (zam _)) (zac (zal (pe_d d_read_lamp hr za0 (zaa (pv 0) (zaa (pv 1) zad))))) (zac (za5 (zan zbg (pv 2) zb6 (zam _)) (zac (zal (pe_d d_read_coil hr za0 (zaa (pv 0) (zaa (pv 1) zad))))) (zac (za5 (zan zbg (pv 2) zb6 (zam _)) (zac (zal (pe_d d_read_device hr za0 (zaa (pv 0) (zaa (pv 1) zad))))) (zac (zal (pe_d d_read_kick hr za0 (zaa (pv 0) (zaa (pv 1) zad))))))))))))))
   (zac (zal (zbk m_Words_check_ended tWords.cl hr za0 (pv 1)))))),?_⟩
  have f_tWords_cl:=tWords.cl
  refine ⟨_,rfl,_,rfl,t,p,tr,txt,H0,zbl hh,hh,l,e,pl,rfl,R,(Out.bind q).loc (Same.refl H0) (fun b z=>z.elim) fun s es q H1 p1 hs6 R1=>?_⟩
  obtain ⟨hm,hd8,hk8⟩:=zBb es
  have hsn:∀ j:Nat,j<6→(decide (V.str (sN s.1)=V.str (sN j)))=decide (s.1=j):=by
   intro j hj
   have hi:s.1=0∨s.1=1∨s.1=2∨s.1=3∨s.1=4∨s.1=5:=by omega
   have hj:j=0∨j=1∨j=2∨j=3∨j=4∨j=5:=by omega
   rcases hi with hi | hi | hi | hi | hi | hi<;>rw [hi]<;>rcases hj with rfl | rfl | rfl | rfl | rfl | rfl<;>decide +kernel
  have fin:∀ H2 p2 (x:Tilt.Table×List Tilt.Word),ze9 s.1 e (zbl hh) s.2 = .ok x→RS K ⟨cC,cK,cW,cT,cF⟩ H0 tr txt H2 t p x.1 (soOf (some ⟨s.1,zbl hh⟩)) x.2 e p2→Out cF E (fun _=>False) H0 (Tilt.closed x.2 >>= fun _=>pure ⟨s.1,x.1⟩) (fun y=>∀ H' p',RS K ⟨cC,cK,cW,cT,cF⟩ H0 tr txt H' t p y.T (soOf (some y)) [] e p'→HI (some y)→Q .non H')→
    znq (zkx cW "check_ended" (znk K cW cF) [] E (tVar 1) tNil) { nx:=fun _ H'=>Q .non H',rt:=Q } [some (.ref t),some (.ref p),some (.str (sN s.1))] H2:=by
   intro H2 p2 x ex R2 q
   obtain ⟨dx,m,cs,ks,hk,sk,tw,R2⟩:=R2
   obtain ⟨d2,a2,w2,_⟩:=R2.ws.ob
   refine ⟨_,rfl,p,_,_,rfl,w2,rfl,p,tr,txt,x.2,e,p2,rfl,R2.ws,(Out.bind q).loc R2.s0 R2.sp fun u eu q=>?_⟩
   have hx:x.2=[]:=by
    cases hx:x.2 with
    | nil=>rfl
    | cons a b=>rw [hx] at eu;cases eu
   refine q H2 p2 ⟨dx,m,cs,ks,hk,sk,tw,by rw [hx] at R2;exact R2⟩ ⟨by show s.1≤5;omega,fun h4=>?_⟩
   have h4:s.1≤4:=h4
   show x.1.kicks=[]
   rw [zsu ex h4]
   exact zl1 hi hm h4
  have e0:decide (V.str (sN s.1)=V.str "table")=decide (s.1=0):=hsn 0 (by decide)
  have e1:decide (V.str (sN s.1)=V.str "switch")=decide (s.1=1):=hsn 1 (by decide)
  have e2:decide (V.str (sN s.1)=V.str "lamp")=decide (s.1=2):=hsn 2 (by decide)
  have e3:decide (V.str (sN s.1)=V.str "coil")=decide (s.1=3):=hsn 3 (by decide)
  have e4:decide (V.str (sN s.1)=V.str "device")=decide (s.1=4):=hsn 4 (by decide)
  have q:=Out.bind q
  refine ⟨_,rfl,rfl,_,rfl,?_⟩
  rw [e0]
  by_cases h0:s.1=0
  ·rw [decide_eq_true h0]
   have eb:ze9 s.1 e (zbl hh) s.2=zmk e (zbl hh) s.2:=by unfold ze9;rw [if_pos h0]
   rw [eb] at q
   exact iteT ⟨_,rfl,_,rfl,t,p,tr,txt,H0,zbl hh,_,s.2,e,p1,rfl,R1,trivial,q.loc (Same.refl H0) (fun b z=>z.elim) fun x ex q H2 p2 R2=>fin H2 p2 x (eb.trans ex) R2 q⟩
  rw [decide_eq_false h0]
  refine iteF ⟨_,rfl,rfl,_,rfl,?_⟩
  rw [e1]
  by_cases h1:s.1=1
  ·rw [decide_eq_true h1]
   have eb:ze9 s.1 e (zbl hh) s.2=ze2 e (zbl hh) s.2:=by unfold ze9;rw [if_neg h0,if_pos h1]
   rw [eb] at q
   exact iteT ⟨_,rfl,_,rfl,t,p,tr,txt,H0,zbl hh,_,s.2,e,p1,rfl,R1,trivial,q.loc (Same.refl H0) (fun b z=>z.elim) fun x ex q H2 p2 R2=>fin H2 p2 x (eb.trans ex) R2 q⟩
  rw [decide_eq_false h1]
  refine iteF ⟨_,rfl,rfl,_,rfl,?_⟩
  rw [e2]
  by_cases h2:s.1=2
  ·rw [decide_eq_true h2]
   have eb:ze9 s.1 e (zbl hh) s.2=zmp e (zbl hh) s.2:=by unfold ze9;rw [if_neg h0,if_neg h1,if_pos h2]
   rw [eb] at q
   exact iteT ⟨_,rfl,_,rfl,t,p,tr,txt,H0,zbl hh,_,s.2,e,p1,rfl,R1,trivial,q.loc (Same.refl H0) (fun b z=>z.elim) fun x ex q H2 p2 R2=>fin H2 p2 x (eb.trans ex) R2 q⟩
  rw [decide_eq_false h2]
  refine iteF ⟨_,rfl,rfl,_,rfl,?_⟩
  rw [e3]
  by_cases h3:s.1=3
  ·rw [decide_eq_true h3]
   have eb:ze9 s.1 e (zbl hh) s.2=zmd e (zbl hh) s.2:=by unfold ze9;rw [if_neg h0,if_neg h1,if_neg h2,if_pos h3]
   rw [eb] at q
   exact iteT ⟨_,rfl,_,rfl,t,p,tr,txt,H0,zbl hh,_,s.2,e,p1,rfl,R1,trivial,q.loc (Same.refl H0) (fun b z=>z.elim) fun x ex q H2 p2 R2=>fin H2 p2 x (eb.trans ex) R2 q⟩
  rw [decide_eq_false h3]
  refine iteF ⟨_,rfl,rfl,_,rfl,?_⟩
  rw [e4]
  by_cases h4:s.1=4
  ·rw [decide_eq_true h4]
   have eb:ze9 s.1 e (zbl hh) s.2=zes e (zbl hh) s.2:=by unfold ze9;rw [if_neg h0,if_neg h1,if_neg h2,if_neg h3,if_pos h4]
   rw [eb] at q
   exact iteT ⟨_,rfl,_,rfl,t,p,tr,txt,H0,zbl hh,_,s.2,e,p1,rfl,R1,⟨zl1 hi hm (by omega),hd8 h4⟩,q.loc (Same.refl H0) (fun b z=>z.elim) fun x ex q H2 p2 R2=>fin H2 p2 x (eb.trans ex) R2 q⟩
  rw [decide_eq_false h4]
  have eb:ze9 s.1 e (zbl hh) s.2=zp8 e (zbl hh) s.2:=by unfold ze9;rw [if_neg h0,if_neg h1,if_neg h2,if_neg h3,if_neg h4]
  rw [eb] at q
  exact iteF ⟨_,rfl,_,rfl,t,p,tr,txt,H0,zbl hh,_,s.2,e,p1,rfl,R1,hk8 (by omega),q.loc (Same.refl H0) (fun b z=>z.elim) fun x ex q H2 p2 R2=>fin H2 p2 x (eb.trans ex) R2 q⟩
end
end
section
theorem zrb:∀ (b:Bytes) (i:Nat),(∀ j,j<i→b[j]?≠some 10)→b[i]? = some 10→Tilt.upTo b=some (b.take i,b.drop (i+1))
 | [],i,_,h=>by simp at h
 | c :: r,0,_,h=>by
  simp at h
  simp [Tilt.upTo,h]
 | c :: r,i+1,hn,h=>by
  have hc:¬c=10:=fun z=>hn 0 (by omega) (by simp [z])
  have:=zrb r i (fun j hj z=>hn (j+1) (by omega) (by simpa using z)) (by simpa using h)
  simp [Tilt.upTo,hc,this]
theorem zk1:∀ (b:Bytes),(∀ j,j<b.length→b[j]?≠some 10)→Tilt.upTo b=none
 | [],_=>rfl
 | c :: r,hn=>by
  have hc:¬c=10:=fun z=>hn 0 (by simp) (by simp [z])
  have:=zk1 r (fun j hj z=>hn (j+1) (by simp;omega) (by simpa using z))
  simp [Tilt.upTo,hc,this]
theorem zfd (g:Bool) (p:Nat) (c:UInt8) (r:Bytes):Tilt.badByte g p (c :: r)=if c<32∨126<c then some p else if c=32 then (if g=true then some p else if r.isEmpty=true then some p else Tilt.badByte true (p+1) r) else Tilt.badByte false (p+1) r:=rfl
def zeu (txt:Bytes) (s:Nat):Except Tilt.Fault Nat:=match Tilt.upTo (txt.drop s) with
 | none=>.error ⟨1,s+(txt.drop s).length⟩
 | some x=>.ok (s+x.1.length)
def seg (txt:Bytes) (s e:Nat):Bytes:=(txt.drop s).take (e-s)
def chk (txt:Bytes) (s e:Nat):Except Tilt.Fault Unit:=match Tilt.badByte true 0 (seg txt s e) with
 | some i=>.error ⟨2,s+i⟩
 | none=>.ok ()
def gp (b:Bytes):Nat→Bool
 | 0=>true
 | i+1=>b[i]? == some 32
def zyu (txt:Bytes) (s e p:Nat):Bool:=decide (p=s) || (decide (p+1=e) || (txt[p-1]? == some 32))
theorem zv5 {txt:Bytes} {s e i:Nat} (h:i<e-s):(seg txt s e)[i]? = txt[s+i]? := by
 unfold seg
 rw [List.getElem?_take,if_pos h,List.getElem?_drop]
theorem zqw {txt:Bytes} {s e:Nat} (h:e≤txt.length):(seg txt s e).length=e-s:=by
 unfold seg
 rw [List.length_take,List.length_drop]
 omega
section
variable {cW cF cT cC cK:Addr}
def zq4:Sp:=fun vs H Q _=>E5 fun tr txt s e p=>A6 (vs=[.ref tr, .int (s:Nat), .int (e:Nat), .int (p:Nat)]) (H tr=some (.lst (bV txt))) (s≤p) (p<e) (e≤txt.length) (Q (.bl (zyu txt s e p)) H)
def zBd (cF:Addr):Sp:=fun vs H Q E=>E4 fun tr txt s e=>A6 (vs=[.ref tr, .int (s:Nat), .int (e:Nat)]) (H tr=some (.lst (bV txt))) (s≤e) (e≤txt.length) (txt.length≤16384) (Out cF E (fun _=>False) H (chk txt s e) fun _=>Q .non H)
def zBe (cF:Addr):Sp:=fun vs H Q E=>E3 fun tr txt s=>A4 (vs=[.ref tr, .int (s:Nat)]) (H tr=some (.lst (bV txt))) (s≤txt.length) (Out cF E (fun _=>False) H (zeu txt s) fun e=>Q (.int (e:Nat)) H)
abbrev zcp:Stmt:=top 68
theorem zi8:zai ["text","start","end","place"] ["text","start","end","place"] (zae zcp):=by walk_at "sc"
theorem zid:zak zcp "is_stray_blank" "is_stray_blank" ["text","start","end","place"]:=fun _ _ _ _ _ _ us hl=>match us,hl with | [_,_,_,_],_=>rfl
abbrev zdf:Stmt:=top 67
theorem sc_check_bytes:zai ["text","start","end","place"] ["text","start","end"] (zae zdf):=by walk_at "sc"
theorem zk8:zak zdf "check_bytes" "check_bytes" ["text","start","end"]:=fun _ _ _ _ _ _ us hl=>match us,hl with | [_,_,_],_=>rfl
abbrev zcy:Stmt:=top 66
theorem sc_find_line_end:zai ["text","start","end"] ["text","start"] (zae zcy):=by walk_at "sc"
theorem zjo:zak zcy "find_line_end" "find_line_end" ["text","start"]:=fun _ _ _ _ _ _ us hl=>match us,hl with | [_,_],_=>rfl
theorem zix (tG:TG K mg) (F:FnK K mg "is_stray_blank" zcp) :
  Dn P w K mg base CX0 "is_stray_blank" ["text","start","end","place"] 1 (zq4):=by
 refine F.dn zi8 zid (fun vs H Q E h=>?_) (fun f cdv A outer s H vs Q E hr h=>?_)
 ·obtain ⟨tr,txt,s,e,p,rfl,_⟩:=h
  rfl
 ·obtain ⟨tr,txt,s,e,p,rfl,ht,h1,h2,h3,q⟩:=h
  have hu:=za2 hr
  have hu64:=hr.units
  refine ⟨_,(zac (zar (ztg (zba zbg (pv 3) (pv 1) (zam _)) (ztg (zba zbg (zej ze4 (pv 3) zao) (pv 2) (zam _)) (zje (zba zbg (zdy zbu (pv 0) (zej zvm (pv 3) zao) (fun _ _=>rfl)) (zap tG.g_BLANK) (zam _))))))),?_⟩
  have ht:SqL K H tr (bV txt):=SqL.of ht
  refine ⟨_,rfl,_,rfl,rfl,_,rfl,?_⟩
  rw [zas]
  unfold zyu at q
  by_cases hp:p=s
  ·rw [decide_eq_true hp,Bool.true_or] at q
   rw [decide_eq_true (show (p:Int)=(s:Int) by omega)]
   exact iteT q
  rw [decide_eq_false hp,Bool.false_or] at q
  rw [decide_eq_false (show ¬(p:Int)=(s:Int) by omega)]
  refine iteF ⟨_,rfl,_,_,rfl,rfl,_,rfl,rfl,_,rfl,?_⟩
  rw [zas]
  by_cases hp2:p+1=e
  ·rw [decide_eq_true hp2,Bool.true_or] at q
   rw [decide_eq_true (show (p:Int)+1=(e:Int) by omega)]
   exact iteT q
  rw [decide_eq_false hp2,Bool.false_or] at q
  rw [decide_eq_false (show ¬(p:Int)+1=(e:Int) by omega)]
  obtain ⟨c,hc⟩ : ∃ c,txt[p-1]? = some c:=⟨_,List.getElem?_eq_getElem (by omega)⟩
  refine iteF ⟨_,rfl,_,rfl,_,_,rfl,rfl,tr,_,_, .int c.toNat,rfl,rfl,ht,zjj (j:=p-1) (by omega) (znx hc),rfl,?_⟩
  rw [zas]
  rw [hc] at q
  have e1:decide ((c.toNat:Int)=32)=(some c == some 32):=by
   have:=b_eq c 32
   by_cases h:c=32
   ·subst h;rfl
   ·have h2:¬(c.toNat:Int)=32:=fun z=>h (UInt8.toNat_inj.mp (by simp;omega))
    simp [h,h2]
  rw [e1]
  exact q
theorem zjt (tG:TG K mg) (tF:TF P w K mg base cF) (F:FnK K mg "find_line_end" zcy) :
  Dn P w K mg base (CXF P w cF) "find_line_end" ["text","start"] 3 (zBe cF):=by
 refine F.dnF sc_find_line_end zjo (fun vs H Q E h=>?_) (fun f cdv A outer s H vs Q E hr h=>?_)
 ·obtain ⟨tr,txt,s,rfl,_⟩:=h
  rfl
 ·obtain ⟨tr,txt,s,rfl,ht,h1,q⟩:=h
  have hu:=za2 hr
  have hu64:=hr.units
  refine ⟨_,(zab (zax (i:=2) sc_find_line_end.nd rfl (Or.inl rfl) (pv 1))
   (zab (zhx PassesOwn.leaving (PW.pt (zko (zan ziz (pv 2) (za7 zav (by rfl) tG.b_len zcs (zaa (pv 0) zad)) (zam _)) (zi0 (zan zqm (zdy zbu (pv 0) (pv 2) (fun _ _=>rfl)) (zap tG.g_LINE_END) (zam _)))))
    (zac (zsd (i:=2) sc_find_line_end.nd rfl (Or.inl rfl) zao zrs)))
   (zab (za5 (zan zbg (pv 2) (za7 zav (by rfl) tG.b_len zcs (zaa (pv 0) zad)) (zam _)) (zac (zdj tF hr (zaa (zap tG.g_NOT_ENDED) (zaa (pv 2) zad)))) zaq)
   (zac (zar (pv 2)))))),?_⟩
  have ht:SqL K H tr (bV txt):=SqL.of ht
  refine ⟨_,rfl,fun m σ H'=>H'=H∧∃ i:Nat,s+i≤txt.length∧m=txt.length-(s+i)∧σ=[some (.ref tr),some (.int s),some (.int ((s+i:Nat):Int))]∧∀ j,j<i→(txt.drop s)[j]?≠some 10,⟨_,rfl,0,h1,rfl,rfl,fun j hj=>by omega⟩,fun m σ H' hw=>?_⟩
  obtain ⟨rfl,i,hi,rfl,rfl,hn⟩:=hw
  have hd:∀ j:Nat,(txt.drop s)[j]? = txt[s+j]? := fun j=>List.getElem?_drop
  have hdl:(txt.drop s).length=txt.length-s:=by simp
  refine ⟨_,rfl,_,rfl,tr,_,rfl, .inl ht,_,_,rfl,rfl,_,rfl,?_⟩
  rw [zfc]
  have fin:(txt[s+i]? = some 10∨s+i=txt.length)→(tSeq (tIfS (zky (tOp rEq (tVar 2) (tCB (fun xs H Q=>∃ p ys,xs=[.ref p]∧(SqL K H p ys∨SqT K H p ys)∧Q (.int ys.length) H) (zdk (tVar 0) tNil)))) (fun D σ H=>(zdk (tC (.int 1)) (zdk (tVar 2) tNil)) σ H fun vs H1=>∃ k p,vs=[.int k, .int p]∧Rs cF E k p H1) zpj) (tRet (tVar 2))) { nx:=fun _ H'=>Q .non H',rt:=Q } [some (.ref tr),some (.int s),some (.int ((s+i:Nat):Int))] H':=by
   intro hf
   refine ⟨_,rfl,_,rfl,tr,_,rfl, .inl ht,rfl,_,rfl,?_⟩
   rw [zas,zfc]
   by_cases hl:s+i=txt.length
   ·rw [decide_eq_true (show ((s+i:Nat):Int)=(txt.length:Int) by omega)]
    have e:zeu txt s = .error ⟨1,s+i⟩:=by
     unfold zeu
     rw [zk1 _ (fun j hj=>hn j (by omega))]
     rw [hdl]
     show Except.error _=_
     congr 2
     omega
    rw [e] at q
    exact iteT ⟨_,rfl,_,_,rfl,ErX.rs q⟩
   ·rw [decide_eq_false (show ¬((s+i:Nat):Int)=(txt.length:Int) by omega)]
    have h10:txt[s+i]? = some 10:=hf.resolve_right hl
    have e:zeu txt s = .ok (s+i):=by
     unfold zeu
     rw [zrb _ i hn (by rw [hd];exact h10)]
     show Except.ok _=_
     congr 1
     rw [List.length_take]
     omega
    rw [e] at q
    exact iteF ⟨_,rfl,q⟩
  by_cases hl:s+i<txt.length
  ·rw [decide_eq_true (show ((s+i:Nat):Int)<(txt.length:Int) by omega)]
   obtain ⟨c,hc⟩ : ∃ c,txt[s+i]? = some c:=⟨_,List.getElem?_eq_getElem hl⟩
   refine iteT ⟨_,rfl,_,rfl,tr,_,_, .int c.toNat,rfl,rfl,ht,zh4 (znx hc),rfl,_,rfl,?_⟩
   rw [zas]
   by_cases h10:c=10
   ·subst h10
    exact fin (.inl hc)
   ·have:¬(c.toNat:Int)=10:=fun z=>h10 (UInt8.toNat_inj.mp (by simp;omega))
    rw [decide_eq_false this]
    refine ⟨_,fun _ _ h=>h,_,rfl,_,_,rfl,rfl,txt.length-(s+(i+1)),by omega,rfl,i+1,by omega,rfl,by simp;omega,fun j hj=>?_⟩
    rcases Nat.lt_or_ge j i with z | z
    ·exact hn j z
    ·have:j=i:=by omega
     rw [this,hd,hc]
     exact fun z=>h10 (Option.some.inj z)
  ·rw [decide_eq_false (show ¬((s+i:Nat):Int)<(txt.length:Int) by omega)]
   exact fin (.inr (by omega))
theorem zz0 (c:UInt8):decide ((c.toNat:Int)<32)=decide (c<32):=by
 rw [Bool.eq_iff_iff]
 simp only [decide_eq_true_eq,UInt8.lt_iff_toNat_lt]
 show (c.toNat:Int)<32↔c.toNat<32
 omega
theorem zzz (c:UInt8):decide ((126:Int)<(c.toNat:Int))=decide (126<c):=by
 rw [Bool.eq_iff_iff]
 simp only [decide_eq_true_eq,UInt8.lt_iff_toNat_lt]
 show (126:Int)<(c.toNat:Int)↔126<c.toNat
 omega
theorem zli (tG:TG K mg) (tF:TF P w K mg base cF) (d_is_stray_blank:Dn P w K mg base CX0 "is_stray_blank" ["text","start","end","place"] 1 (zq4)) (F:FnK K mg "check_bytes" zdf) :
  Dn P w K mg base (CXF P w cF) "check_bytes" ["text","start","end"] 3 (zBd cF):=by
 refine F.dnF sc_check_bytes zk8 (fun vs H Q E h=>?_) (fun f cdv A outer s H vs Q E hr h=>?_)
 ·obtain ⟨tr,txt,s,e,rfl,_⟩:=h
  rfl
 ·obtain ⟨tr,txt,s,e,rfl,ht0,h1,h2,h3,q⟩:=h
  have hu:=za2 hr
  have hu64:=hr.units
  refine ⟨_,(zac (zd3 PassesOwn.leaving rfl (zvq rfl tG.b_range (zaa (pv 1) (zaa (pv 2) zad))) (zbp (i:=3) sc_check_bytes.nd rfl (Or.inl rfl))
    (zab (za5 (PW.pt (zpd (zan ziz (zdy zbu (pv 0) (pv 3) (fun _ _=>rfl)) (zap tG.g_BLANK) (zam _)) (zkp (zan zfm (zdy zbu (pv 0) (pv 3) (fun _ _=>rfl)) (zap tG.g_LAST_SIGN) (zam _))))) (zac (zdj tF hr (zaa (zap tG.g_WRONG_BYTE) (zaa (pv 3) zad)))) zaq)
   (zac (za5 (PW.pt (zko (zan zbg (zdy zbu (pv 0) (pv 3) (fun _ _=>rfl)) (zap tG.g_BLANK) (zam _)) (zi0 (zct (pe_d d_is_stray_blank hr zaz (zaa (pv 0) (zaa (pv 1) (zaa (pv 2) (zaa (pv 3) zad))))))))) (zac (zdj tF hr (zaa (zap tG.g_WRONG_BYTE) (zaa (pv 3) zad)))) zaq))))),?_⟩
  have ht:SqL K H tr (bV txt):=SqL.of ht0
  have hes:((e:Int)-(s:Int)).toNat=e-s:=by omega
  refine ⟨_,rfl,_,rfl,_,_,rfl,⟨by omega,by omega,by omega,by omega⟩,?_⟩
  rw [hes]
  have hsl:=zqw (txt:=txt) (s:=s) h2
  unfold chk at q
  generalize hb:seg txt s e=b at q hsl
  refine zok (fun i σ H'=>H'=H∧(∃ y,σ=[some (.ref tr),some (.int s),some (.int e),y])∧Tilt.badByte true 0 b=Tilt.badByte (gp b i) i (b.drop i)∧(i=e-s→0<i→gp b i=false)) ⟨rfl,⟨none,rfl⟩,rfl,fun _ z=>absurd z (Nat.lt_irrefl _)⟩ (fun i σ H' hi hp=>?_) (fun σ H' hp=>?_)
  ·obtain ⟨rfl,⟨y,rfl⟩,hbb,_⟩:=hp
   obtain ⟨c,hc⟩ : ∃ c,txt[s+i]? = some c:=⟨_,List.getElem?_eq_getElem (by omega)⟩
   have hbc:b[i]? = some c:=by rw [← hb,zv5 hi];exact hc
   have hdrop:b.drop i=c :: b.drop (i+1):=by
    have hlt:i<b.length:=by omega
    rw [List.drop_eq_getElem_cons hlt]
    congr 1
    rw [List.getElem?_eq_getElem hlt] at hbc
    exact Option.some.inj hbc
   rw [hdrop,zfd] at hbb
   have hpl:((s:Int)+(i:Nat))=((s+i:Nat):Int):=by omega
   have ix:∀ Q':VK,Q' (.int c.toNat) H'→(tOp (rIxL K) (tVar 0) (tVar 3)) [some (.ref tr),some (.int s),some (.int e),some (.int ((s+i:Nat):Int))] H' Q':=fun Q' h=>⟨_,rfl,_,rfl,tr,_,_, .int c.toNat,rfl,rfl,ht,zh4 (znx hc),h⟩
   rw [hpl]
   have raise:Tilt.badByte true 0 b=some i→(fun (D:Ends) (σ:St) (H:Hp)=>(zdk (tC (.int 2)) (zdk (tVar 3) tNil)) σ H fun vs H1=>∃ k p,vs=[.int k, .int p]∧Rs cF E k p H1) { nx:=fun _ _=>True,rt:=Q } [some (.ref tr),some (.int s),some (.int e),some (.int ((s+i:Nat):Int))] H':=by
    intro hbi
    rw [hbi] at q
    have q:ErX cF E (fun _=>False) H' ⟨2,s+i⟩:=q
    exact ⟨_,rfl,_,_,rfl,q.rs⟩
   refine ix _ ⟨_,_,rfl,rfl,_,rfl,?_⟩
   rw [zz0]
   by_cases hc1:c<32
   ·rw [decide_eq_true hc1]
    rw [if_pos (.inl hc1)] at hbb
    exact iteT (iteT (raise hbb))
   rw [decide_eq_false hc1]
   refine iteF (ix _ ⟨_,_,rfl,rfl,_,rfl,?_⟩)
   rw [zzz]
   by_cases hc2:126<c
   ·rw [decide_eq_true hc2]
    rw [if_pos (.inr hc2)] at hbb
    exact iteT (raise hbb)
   rw [decide_eq_false hc2]
   rw [if_neg (fun z=>z.elim hc1 hc2)] at hbb
   refine iteF (ix _ ⟨rfl,_,rfl,?_⟩)
   rw [zas]
   by_cases hc3:c=32
   ·have:(c.toNat:Int)=32:=by rw [hc3];rfl
    rw [decide_eq_true this]
    rw [if_pos hc3] at hbb
    refine iteT ⟨_,rfl,_,rfl,_,rfl,_,rfl,tr,txt,s,e,s+i,rfl,ht0,by omega,by omega,h2,_,rfl,?_⟩
    have hst:zyu txt s e (s+i)=(gp b i || (b.drop (i+1)).isEmpty):=by
     unfold zyu
     have a1:(b.drop (i+1)).isEmpty=decide (s+i+1=e):=by
      rw [Bool.eq_iff_iff,List.isEmpty_iff,List.drop_eq_nil_iff,decide_eq_true_eq]
      omega
     rw [a1]
     cases i with
     | zero=>simp [gp]
     | succ j=>
      have a2:¬s+(j+1)=s:=by omega
      have a3:txt[s+(j+1)-1]? = b[j]? := by
       rw [← hb,zv5 (by omega)]
       congr 1
      rw [a3,decide_eq_false a2,Bool.false_or,Bool.or_comm]
      rfl
    rw [hst]
    cases hg:gp b i with
    | true=>
     rw [hg,if_pos rfl] at hbb
     exact iteT (raise hbb)
    | false=>
     rw [hg] at hbb
     simp only [Bool.false_eq_true,if_false] at hbb
     cases he:(b.drop (i+1)).isEmpty with
     | true=>
      rw [he,if_pos rfl] at hbb
      exact iteT (raise hbb)
     | false=>
      rw [he] at hbb
      simp only [Bool.false_eq_true,if_false] at hbb
      refine iteF ⟨rfl,⟨_,rfl⟩,?_,fun z _=>?_⟩
      ·rw [hbb]
       show _=Tilt.badByte (b[i]? == some 32) _ _
       rw [hbc,hc3];rfl
      ·have:b.drop (i+1)=[]:=List.drop_eq_nil_iff.mpr (by omega)
       rw [this] at he
       cases he
   ·have:¬(c.toNat:Int)=32:=fun z=>hc3 (UInt8.toNat_inj.mp (by simp;omega))
    rw [decide_eq_false this]
    rw [if_neg hc3] at hbb
    have hg:gp b (i+1)=false:=by
     show (b[i]? == some 32)=false
     rw [hbc]
     simp [hc3]
    refine iteF ⟨rfl,⟨_,rfl⟩,?_,fun _ _=>hg⟩
    rw [hg];exact hbb
  ·obtain ⟨rfl,⟨y,rfl⟩,hbb,hg⟩:=hp
   have hd:b.drop (e-s)=[]:=List.drop_eq_nil_iff.mpr (by omega)
   rw [hd] at hbb
   have:Tilt.badByte true 0 b=none:=by
    rw [hbb]
    by_cases h0:e-s=0
    ·rw [h0];rfl
    ·rw [hg rfl (by omega)];rfl
   rw [this] at q
   exact q
end
end
section
structure IN (K:W.Frag) (a:Addr) (xs:List V) (C:Addr) (H:Hp) (p dx:Addr) (fs:List (Str×V)) (L:List (Addr×HO)) (H1:Hp):Prop where
 so:SqT K H1 a xs
 ce:Cel H1 ((p, .ins C dx fs) :: L)
 nd:ND ((p, .ins C dx fs) :: L)
 sx:SameX (only p) H H1
 fr:∀ c∈L,H c.1=none
section
variable {K:W.Frag} {a:Addr} {xs:List V} {C:Addr} {H:Hp} {p dx:Addr} {fs:List (Str×V)} {L:List (Addr×HO)} {H1:Hp}
theorem IN.at_ (I:IN K a xs C H p dx fs L H1):H1 p=some (.ins C dx fs):=I.ce _ (.head _)
theorem IN.put (I:IN K a xs C H p dx fs L H1) (f:Str) (v:V):IN K a xs C H p dx (putF f v fs) L (upd H1 p (.ins C dx (putF f v fs))):=
 ⟨SqT.putM I.so I.at_ True.intro,Cel.put (pre:=[]) I.ce I.nd,ND.put (pre:=[]) I.nd,I.sx.trans (SameX.put rfl),I.fr⟩
theorem IN.new (I:IN K a xs C H p dx fs L H1) {q:Addr} (o:HO) (hq:H1 q=none) (f:Str) (v:V):IN K a xs C H p dx (putF f v fs) (L++[(q,o)]) (upd (upd H1 q o) p (.ins C dx (putF f v fs))):=by
 have ce:=Cel.add (pre:=(p, .ins C dx fs) :: L) (post:=[]) (o:=o) (by simpa using I.ce) hq
 have nd:=ND.add (pre:=(p, .ins C dx fs) :: L) (post:=[]) (o:=o) (by simpa using I.nd) (by simpa using I.ce) hq
 refine ⟨SqT.putM (o:=.ins C dx fs) (SqT.new I.so hq) (by rw [zag (zaj I.at_ hq)];exact I.at_) True.intro,Cel.put (pre:=[]) ce nd,ND.put (pre:=[]) nd,(I.sx.trans (SameX.of (Same.new hq))).trans (SameX.put rfl),fun c hc=>?_⟩
 rcases List.mem_append.mp hc with hc | hc
 ·exact I.fr c hc
 ·rw [List.mem_singleton.mp hc]
  show H q=none
  cases z:H q with
  | none=>rfl
  | some o=>
   have:q≠p:=fun z=>by rw [z,I.at_] at hq;cases hq
   rw [I.sx _ _ this z] at hq
   cases hq
theorem IN.at2 (I:IN K a xs C H p dx fs L H1) {q:Addr} (o:HO) (hq:H1 q=none):upd H1 q o p=some (.ins C dx fs):=by
 rw [zag (zaj I.at_ hq)];exact I.at_
end
section
variable {cW cF cT cC cK:Addr}
def zq5 (K:W.Frag) (cT cC cK:Addr):Sp:=fun vs H Q _=>E2 fun p dx=>A3 (vs=[.ref p]) (H p=some (.ins cT dx [])) (∀ H' m,m.balls=0→m.drained=0→m.last_switch = -1→m.last_lamp = -1→m.last_coil = -1→m.last_kick = -1→SqT K H' m.sorts [.str "table"]→
 Cel H' (cells cT cC cK p dx m [] [] Tilt.noTable [] [])→ND (cells cT cC cK p dx m [] [] Tilt.noTable [] [])→SameX (only p) H H'→(∀ c∈(cells cT cC cK p dx m [] [] Tilt.noTable [] []).tail,H c.1=none)→Q .non H')
abbrev zcm:Stmt:=zaw (top 64) 0
theorem zi5:zai ["self"] ["self"] (zae zcm):=by walk_at "sc"
theorem zia:zak zcm "__init__" "Table.__init__" ["self"]:=fun _ _ _ _ _ _ us hl=>match us,hl with | [_],_=>rfl
theorem ziu (tG:TG K mg) (tTable:zd0 K cT) (F:InK K mg cT "Table" "Table.__init__" zcm) :
  Id P w K mg base CX0 cT "Table" ["self"] 1 (zq5 K cT cC cK):=by
 refine F.id zi5 zia (fun vs H Q E h=>?_) (fun f cdv A outer s H vs Q E hr h=>?_)
 ·obtain ⟨p,dx,rfl,_⟩:=h
  rfl
 ·obtain ⟨p,dx,rfl,hp,q⟩:=h
  have hu:=za2 hr
  have hu64:=hr.units
  refine ⟨_,(zab (zau (pv 0) (zAw tG.t_FIRST_SORT) rfl)
   (zab (zau (pv 0) zao rfl)
   (zab (zau (pv 0) zao rfl)
   (zab (zau (pv 0) zft rfl)
   (zab (zau (pv 0) zft rfl)
   (zab (zau (pv 0) zft rfl)
   (zab (zau (pv 0) zft rfl)
   (zab (zau (pv 0) (zb5 zad) rfl)
   (zab (zau (pv 0) (zyf zsl zao) rfl)
   (zab (zau (pv 0) (zyf zsl zao) rfl)
   (zab (zau (pv 0) (zyf zsl zao) rfl)
   (zab (zau (pv 0) (zyf zsl zao) rfl)
   (zab (zau (pv 0) zft rfl)
   (zac (zau (pv 0) zft rfl))))))))))))))),?_⟩
  have f_tTable_cl:=tTable.cl
  have f_tTable_n_sorts:=tTable.n_sorts
  have f_tTable_n_balls:=tTable.n_balls
  have f_tTable_n_drained:=tTable.n_drained
  have f_tTable_n_switches:=tTable.n_switches
  have f_tTable_n_lamps:=tTable.n_lamps
  have f_tTable_n_coils:=tTable.n_coils
  have f_tTable_n_devices:=tTable.n_devices
  have f_tTable_n_kicks:=tTable.n_kicks
  have f_tTable_n_last_switch:=tTable.n_last_switch
  have f_tTable_n_last_lamp:=tTable.n_last_lamp
  have f_tTable_n_last_coil:=tTable.n_last_coil
  have f_tTable_n_last_kick:=tTable.n_last_kick
  have f_tTable_n_housed:=tTable.n_housed
  have f_tTable_n_served:=tTable.n_served
  intro a ha
  have hs1:SqT K (upd H p (.ins cT dx (putF "sorts" (.ref a) []))) a [.str "table"]:=SqT.putM ha hp True.intro
  refine ⟨_,rfl,p,_,_,_,rfl,hp,f_tTable_cl,f_tTable_n_sorts,(by decide),?_⟩
  have I1:IN K a [.str "table"] cT H p dx (putF "sorts" (.ref a) []) [] (upd H p (.ins cT dx (putF "sorts" (.ref a) []))):=⟨hs1,fun c hc=>by rw [List.mem_singleton.mp hc];exact zaf,by simp [ND],SameX.put rfl,fun c hc=>by cases hc⟩
  simp (decide:=true) only [putF,if_true,if_false] at I1 ⊢
  generalize upd _ p _=H1 at I1 ⊢
  refine ⟨_,rfl,p,_,_,_,rfl,I1.at_,f_tTable_cl,f_tTable_n_balls,(by simp),?_⟩
  have I2:=I1.put "balls" (.int 0)
  simp (decide:=true) only [putF,if_true,if_false] at I2 ⊢
  generalize upd _ p _=H2 at I2 ⊢
  refine ⟨_,rfl,p,_,_,_,rfl,I2.at_,f_tTable_cl,f_tTable_n_drained,(by simp),?_⟩
  have I3:=I2.put "drained" (.int 0)
  simp (decide:=true) only [putF,if_true,if_false] at I3 ⊢
  generalize upd _ p _=H3 at I3 ⊢
  intro q3 h3
  refine ⟨_,rfl,p,_,_,_,rfl,I3.at2 _ h3,f_tTable_cl,f_tTable_n_switches,(by simp),?_⟩
  have I4:=I3.new (.dT []) h3 "switches" (.ref q3)
  simp (decide:=true) only [putF,if_true,if_false] at I4 ⊢
  generalize upd _ p _=H4 at I4 ⊢
  intro q4 h4
  refine ⟨_,rfl,p,_,_,_,rfl,I4.at2 _ h4,f_tTable_cl,f_tTable_n_lamps,(by simp),?_⟩
  have I5:=I4.new (.dT []) h4 "lamps" (.ref q4)
  simp (decide:=true) only [putF,if_true,if_false] at I5 ⊢
  generalize upd _ p _=H5 at I5 ⊢
  intro q5 h5
  refine ⟨_,rfl,p,_,_,_,rfl,I5.at2 _ h5,f_tTable_cl,f_tTable_n_coils,(by simp),?_⟩
  have I6:=I5.new (.dT []) h5 "coils" (.ref q5)
  simp (decide:=true) only [putF,if_true,if_false] at I6 ⊢
  generalize upd _ p _=H6 at I6 ⊢
  intro q6 h6
  refine ⟨_,rfl,p,_,_,_,rfl,I6.at2 _ h6,f_tTable_cl,f_tTable_n_devices,(by simp),?_⟩
  have I7:=I6.new (.dT []) h6 "devices" (.ref q6)
  simp (decide:=true) only [putF,if_true,if_false] at I7 ⊢
  generalize upd _ p _=H7 at I7 ⊢
  refine ⟨by decide,fun q7 h7=>?_⟩
  refine ⟨_,rfl,p,_,_,_,rfl,I7.at2 _ h7,f_tTable_cl,f_tTable_n_kicks,(by simp),?_⟩
  have I8:=I7.new (.lst []) h7 "kicks" (.ref q7)
  simp (decide:=true) only [putF,if_true,if_false] at I8 ⊢
  generalize upd _ p _=H8 at I8 ⊢
  refine ⟨_,rfl,_,rfl,p,_,_,_,rfl,I8.at_,f_tTable_cl,f_tTable_n_last_switch,(by simp),?_⟩
  have I9:=I8.put "last_switch" (.int (-1))
  simp (decide:=true) only [putF,if_true,if_false] at I9 ⊢
  generalize upd _ p _=H9 at I9 ⊢
  refine ⟨_,rfl,_,rfl,p,_,_,_,rfl,I9.at_,f_tTable_cl,f_tTable_n_last_lamp,(by simp),?_⟩
  have I10:=I9.put "last_lamp" (.int (-1))
  simp (decide:=true) only [putF,if_true,if_false] at I10 ⊢
  generalize upd _ p _=H10 at I10 ⊢
  refine ⟨_,rfl,_,rfl,p,_,_,_,rfl,I10.at_,f_tTable_cl,f_tTable_n_last_coil,(by simp),?_⟩
  have I11:=I10.put "last_coil" (.int (-1))
  simp (decide:=true) only [putF,if_true,if_false] at I11 ⊢
  generalize upd _ p _=H11 at I11 ⊢
  refine ⟨_,rfl,_,rfl,p,_,_,_,rfl,I11.at_,f_tTable_cl,f_tTable_n_last_kick,(by simp),?_⟩
  have I12:=I11.put "last_kick" (.int (-1))
  simp (decide:=true) only [putF,if_true,if_false] at I12 ⊢
  generalize upd _ p _=H12 at I12 ⊢
  intro q12 h12
  refine ⟨_,rfl,p,_,_,_,rfl,I12.at2 _ h12,f_tTable_cl,f_tTable_n_housed,(by simp),?_⟩
  have I13:=I12.new (.dT []) h12 "housed" (.ref q12)
  simp (decide:=true) only [putF,if_true,if_false] at I13 ⊢
  generalize upd _ p _=H13 at I13 ⊢
  intro q13 h13
  refine ⟨_,rfl,p,_,_,_,rfl,I13.at2 _ h13,f_tTable_cl,f_tTable_n_served,(by simp),?_⟩
  have I14:=I13.new (.dT []) h13 "served" (.ref q13)
  simp (decide:=true) only [putF,if_true,if_false] at I14 ⊢
  generalize upd _ p _=H14 at I14 ⊢
  exact q H14 ⟨a,0,0,q3,q4,q5,q6,q7,-1,-1,-1,-1,q12,q13⟩ rfl rfl rfl rfl rfl rfl I14.so I14.ce I14.nd I14.sx I14.fr
end
end
section
theorem zvy {txt:Bytes} {e:Nat} (he:e≤txt.length):∀ (b:Bytes) (p k:Nat) (w:Bytes),seg txt p e=b→p≤e→w.length≤p→(txt.drop (p-w.length)).take w.length=w→(∀ c∈w,c≠32)→((w≠[]∧Tilt.badByte false k b=none)∨(w=[]∧Tilt.badByte true k b=none))→Rem txt e (p-w.length) (Tilt.wordsFrom p w b)
 | [],p,k,w,hb,hp,hl,hw,hn,h=>by
  have hpe:p=e:=by
   have:=zqw (txt:=txt) (s:=p) he
   rw [hb] at this
   simp at this
   omega
  rcases h with ⟨h1,_⟩ | ⟨h1,_⟩
  ·have e1:Tilt.wordsFrom p w []=[⟨w,p-w.length⟩]:=by
    show (if w.isEmpty=true then _ else _)=_
    rw [if_neg (by simp [h1])]
   rw [e1]
   exact .cons h1 hn hw (by omega) (.inl (by omega)) (.done (by omega))
  ·subst h1
   exact .done (by simp;omega)
 | c :: r,p,k,w,hb,hp,hl,hw,hn,h=>by
  have hlen:=zqw (txt:=txt) (s:=p) he
  rw [hb] at hlen
  simp only [List.length_cons] at hlen
  have hpe:p<e:=by omega
  have hc:txt[p]? = some c:=by
   have:=zv5 (txt:=txt) (s:=p) (e:=e) (i:=0) (by omega)
   rw [hb] at this
   simpa using this.symm
  have hr:seg txt (p+1) e=r:=by
   have h1:seg txt p e=(txt.drop p).take (e-p):=rfl
   rw [hb] at h1
   have h2:txt.drop p=c :: txt.drop (p+1):=by
    rw [List.drop_eq_getElem_cons (by omega)]
    congr 1
    rw [List.getElem?_eq_getElem (by omega)] at hc
    exact Option.some.inj hc
   rw [h2,show e-p=(e-(p+1))+1 by omega,List.take_succ_cons] at h1
   exact ((List.cons.inj h1).2).symm
  have hgo:c≠32→Tilt.badByte false (k+1) r=none→Rem txt e (p-w.length) (Tilt.wordsFrom p w (c :: r)):=by
   intro hc32 hbb
   have e1:Tilt.wordsFrom p w (c :: r)=Tilt.wordsFrom (p+1) (w++[c]) r:=by
    show (if c=32 then _ else _)=_
    rw [if_neg hc32]
   rw [e1]
   have e2:p+1-(w++[c]).length=p-w.length:=by simp
   have:=zvy he r (p+1) (k+1) (w++[c]) hr (by omega) (by simp;omega) (by
    rw [e2,List.length_append,List.length_singleton,zbe (x:=c) (by rw [List.getElem?_drop,show p-w.length+w.length=p by omega];exact hc),hw]) (fun d hd=>by
    rcases List.mem_append.mp hd with hd | hd
    ·exact hn d hd
    ·rw [List.mem_singleton.mp hd];exact hc32) (.inl ⟨by simp,hbb⟩)
   rw [e2] at this
   exact this
  rcases h with ⟨h1,h2⟩ | ⟨h1,h2⟩
  ·rw [zfd] at h2
   split at h2
   ·cases h2
   ·split at h2
    ·rename_i hc32
     simp only [Bool.false_eq_true,if_false] at h2
     split at h2
     ·cases h2
     ·have e1:Tilt.wordsFrom p w (c :: r)=⟨w,p-w.length⟩ :: Tilt.wordsFrom (p+1) [] r:=by
       show (if c=32 then _ else _)=_
       rw [if_pos hc32]
      rw [e1]
      refine .cons h1 hn hw (by omega) (.inr (by rw [show p-w.length+w.length=p by omega,hc,hc32])) ?_
      have:=zvy he r (p+1) (k+1) [] hr (by omega) (by simp) rfl (fun d hd=>by cases hd) (.inr ⟨rfl,h2⟩)
      rw [show p-w.length+w.length+1=p+1 by omega]
      exact this
    ·rename_i hc32
     exact hgo hc32 h2
  ·rw [zfd] at h2
   split at h2
   ·cases h2
   ·split at h2
    ·simp at h2
    ·rename_i hc32
     exact hgo hc32 h2
structure RN (K:W.Frag) (H0:Hp) (tr:Addr) (txt:Bytes) (H:Hp) (L:List (Addr×HO)) (sa:Addr) (so:List Str):Prop where
 ce:Cel H L
 nd:ND L
 so:SqT K H sa (so.map V.str)
 tx:H tr=some (.lst (bV txt))
 s0:Same H0 H
 fr:∀ c∈L,H0 c.1=none∧c.1≠tr
theorem RG.rn {K:W.Frag} {cW:Addr} {H0:Hp} {tr:Addr} {txt:Bytes} {H:Hp} {w sa:Addr} {L:List (Addr×HO)} {so:List Str} {l:List Tilt.Word} {e p:Nat} (R:RG K cW H0 tr txt H w L sa so l e p):RN K H0 tr txt H L sa so:=
 ⟨R.ce,R.nd,R.so,R.ws.tx,R.s0,fun c hc=>⟨(R.fr c hc).1,(R.fr c hc).2.2⟩⟩
theorem RN.words {K:W.Frag} {cW:Addr} {H0:Hp} {tr:Addr} {txt:Bytes} {H:Hp} {sa:Addr} {L:List (Addr×HO)} {so:List Str} {s e x dx:Nat} (R:RN K H0 tr txt H L sa so) (hx:H x=none) (hd:H dx=none) (ne:dx≠x) (hs:s≤e) (he:e≤txt.length) (hz:txt.length≤16384) (hb:Tilt.badByte true 0 (seg txt s e)=none) :
  RG K cW H0 tr txt (upd (upd H dx (.own x)) x (.ins cW dx (za9 ⟨tr,(s:Nat),(e:Nat),(s:Nat)⟩))) x L sa so (Tilt.wordsFrom s [] (seg txt s e)) e s:=by
 have hx':upd H dx (.own x) x=none:=by rw [zag ne.symm];exact hx
 have k:Same H (upd (upd H dx (.own x)) x (.ins cW dx (za9 ⟨tr,(s:Nat),(e:Nat),(s:Nat)⟩))):=Same.trans (Same.new hd) (Same.new hx')
 refine ⟨R.ce.same k,R.nd,Same.sqT k R.so,⟨⟨dx,s,zaf,?_⟩,k _ _ R.tx,fun z=>?_,he,hz⟩,Same.trans R.s0 k,?_,fun c hc=>⟨(R.fr c hc).1,fun z=>?_,(R.fr c hc).2⟩⟩
 ·exact zvy he _ s 0 [] rfl hs (by simp) rfl (fun d hd=>by cases hd) (.inr ⟨rfl,hb⟩)
 ·have:=R.tx
  rw [z,hx] at this
  cases this
 ·cases z:H0 x with
  | none=>rfl
  | some o=>rw [R.s0 _ _ z] at hx;cases hx
 ·have:=R.ce c hc
  rw [z,hx] at this
  cases this
def TBL (ad:Ad) (H0 H:Hp) (t:Addr) (T:Tilt.Table):Prop:=∃ dx m cs ks hk sk,TW m cs ks T hk sk T.room T.held (udOf T)∧Cel H (cells ad.cT ad.cC ad.cK t dx m cs ks T hk sk)∧ND (cells ad.cT ad.cC ad.cK t dx m cs ks T hk sk)∧Same H0 H∧∀ c∈cells ad.cT ad.cC ad.cK t dx m cs ks T hk sk,H0 c.1=none
def finR (n:Nat):Option Tilt.Had→Except Tilt.Fault Tilt.Table
 | none=>.error ⟨1,n⟩
 | some h=>if h.T.balls≤h.T.room then .ok h.T else .error ⟨8,n⟩
theorem zyn (b:Bytes):Tilt.readTable b=(Tilt.linesIn Tilt.lineIn (b.length+1) 0 none b >>= finR b.length):=by
 unfold Tilt.readTable
 cases Tilt.linesIn Tilt.lineIn (b.length+1) 0 none b with
 | error e=>rfl
 | ok h=>cases h<;>rfl
def zBj (h:Option Tilt.Had) (txt:Bytes) (s:Nat):Except Tilt.Fault (Tilt.Had×Nat):=do
 let e ← zeu txt s
 let _ ← chk txt s e
 let y ← zu3 h (zbl h) e (Tilt.wordsFrom s [] (seg txt s e))
 return (y,e)
theorem zs2 {h:Option Tilt.Had} (hi:HI h) {txt:Bytes} {s k:Nat} (hs:s<txt.length):Tilt.linesIn Tilt.lineIn (k+1) s h (txt.drop s)=(zBj h txt s >>= fun x=>Tilt.linesIn Tilt.lineIn k (x.2+1) (some x.1) (txt.drop (x.2+1))):=by
 have hne:(txt.drop s).isEmpty=false:=by
  cases z:txt.drop s with
  | nil=>have:=List.drop_eq_nil_iff.mp z;omega
  | cons a b=>rfl
 conv=>lhs;unfold Tilt.linesIn
 rw [hne]
 simp only [Bool.false_eq_true,if_false]
 unfold zBj zeu
 by_cases hex:∃ i:Nat,(∀ j:Nat,j<i→(txt.drop s)[j]?≠some 10)∧(txt.drop s)[i]? = some 10
 ·obtain ⟨i,hn,hi10⟩:=hex
  have hil:i<(txt.drop s).length:=(List.getElem?_eq_some_iff.mp hi10).1
  rw [zrb _ i hn hi10]
  have hlen:((txt.drop s).take i).length=i:=by rw [List.length_take];omega
  have hseg:seg txt s (s+i)=(txt.drop s).take i:=by unfold seg;rw [Nat.add_sub_cancel_left]
  simp only [hlen,zet,za6,zbd]
  unfold chk
  rw [hseg]
  cases hb:Tilt.badByte true 0 ((txt.drop s).take i) with
  | some j=>rfl
  | none=>
   simp only [zet]
   rw [zAl h hi]
   rw [List.drop_drop]
   cases zu3 h (zbl h) (s+i) (Tilt.wordsFrom s [] ((txt.drop s).take i)) with
   | error e=>rfl
   | ok y=>rfl
 ·have:Tilt.upTo (txt.drop s)=none:=by
   refine zk1 _ fun j hj z=>?_
   exact hex ⟨((List.range (j+1)).find? fun i=>(txt.drop s)[i]? == some 10).getD 0,by
    have hf:((List.range (j+1)).find? fun i=>(txt.drop s)[i]? == some 10).isSome=true:=by
     rw [List.find?_isSome]
     exact ⟨j,by simp,by rw [z];rfl⟩
    obtain ⟨i,hi⟩:=Option.isSome_iff_exists.mp hf
    rw [hi,Option.getD_some]
    refine ⟨fun m hm hz=>?_,by have:=List.find?_some hi;simpa using this⟩
    rw [List.find?_range_eq_some] at hi
    have:=hi.2.2 m hm
    simp [hz] at this⟩
  rw [this]
  rfl
theorem zu5 {h:Option Tilt.Had} {txt:Bytes} {s k:Nat} (hs:txt.length≤s):Tilt.linesIn Tilt.lineIn (k+1) s h (txt.drop s) = .ok h:=by
 rw [List.drop_eq_nil_iff.mpr hs]
 rfl
theorem zCe {txt:Bytes} {s e:Nat} (h:zeu txt s = .ok e) (hs:s≤txt.length):s≤e∧e<txt.length:=by
 unfold zeu at h
 cases hu:Tilt.upTo (txt.drop s) with
 | none=>rw [hu] at h;cases h
 | some x=>
  rw [hu] at h
  have key:∀ (b:Bytes) (x:Bytes×Bytes),Tilt.upTo b=some x→x.1.length<b.length:=by
   intro b
   induction b with
   | nil=>intro x hx;cases hx
   | cons c r ih=>
    intro x hx
    unfold Tilt.upTo at hx
    split at hx
    ·cases hx;simp
    ·rw [Option.map_eq_some_iff] at hx
     obtain ⟨y,hy,rfl⟩:=hx
     have:=ih y hy
     simp;omega
  have:=key _ x hu
  rw [List.length_drop] at this
  have h2:s+x.1.length=e:=Except.ok.inj h
  omega
end
section
theorem tw0 {m:MT} (h1:m.balls=0) (h2:m.drained=0) (h3:m.last_switch = -1) (h4:m.last_lamp = -1) (h5:m.last_coil = -1) (h6:m.last_kick = -1):TW m [] [] Tilt.noTable [] [] Tilt.noTable.room Tilt.noTable.held (udOf Tilt.noTable) where
 bl:=h1
 dr:=h2
 ct:=rfl
 ls:=by rw [h3];exact Above.nil
 ll:=by rw [h4];exact Above.nil
 lc:=by rw [h5];exact Above.nil
 lk:=by rw [h6];exact Above.nil
 sn:=List.nodup_nil
 sp:=List.nodup_nil
 cn:=List.nodup_nil
 cp:=List.nodup_nil
 sb:=by rw [h3];exact ⟨by decide,by decide⟩
 lb:=by rw [h4];exact ⟨by decide,by decide⟩
 cb:=by rw [h5];exact ⟨by decide,by decide⟩
 c31:=fun c hc=>by cases hc
 dn:=Nat.zero_le _
 kn:=Nat.zero_le _
 hb:=Nat.zero_le _
 hl:=Nat.zero_le _
 hs:=fun c hc=>by cases hc
 vl:=Nat.zero_le _
 vs:=fun c hc=>by cases hc
 kk:=.nil
 hn:=fun b hb=>by cases hb
 hp:=fun b hb=>by cases hb
 vn:=fun b hb=>by cases hb
 vp:=fun b hb=>by cases hb
section
variable {cW cF cT cC cK:Addr}
def zwi (K:W.Frag) (ad:Ad):Sp:=fun vs H Q E=>E2 fun tr txt=>A4 (vs=[.ref tr]) (H tr=some (.lst (bV txt))) (txt.length≤16384) (Out ad.cF E (fun _=>False) H (Tilt.readTable txt) fun T=>∀ H' t,TBL ad H H' t T→Q (.ref t) H')
abbrev zds:Stmt:=top 65
theorem sc_read_table:zai ["text","table","start","end"] ["text"] (zae zds):=by walk_at "sc"
theorem zmb:zak zds "read_table" "read_table" ["text"]:=fun _ _ _ _ _ _ us hl=>match us,hl with | [_],_=>rfl
theorem zm1 (tG:TG K mg) (tTable:zd0 K cT) (tF:TF P w K mg base cF) (i_Table:Id P w K mg base CX0 cT "Table" ["self"] 1 (zq5 K cT cC cK)) (d_find_line_end:Dn P w K mg base (CXF P w cF) "find_line_end" ["text","start"] 3 (zBe cF)) (d_check_bytes:Dn P w K mg base (CXF P w cF) "check_bytes" ["text","start","end"] 3 (zBd cF)) (d_read_line:Dn P w K mg base (CXF P w cF) "read_line" ["table","words"] 8 (zwf K ⟨cC,cK,cW,cT,cF⟩)) (i_Words:Id P w K mg base CX0 cW "Words" ["self","text","start","end"] 1 (zq6 cW)) (F:FnK K mg "read_table" zds) :
  Dn P w K mg base (CXF P w cF) "read_table" ["text"] 9 (zwi K ⟨cC,cK,cW,cT,cF⟩):=by
 refine F.dnF sc_read_table zmb (fun vs H Q E h=>?_) (fun f cdv A outer s H vs Q E hr h=>?_)
 ·obtain ⟨tr,txt,rfl,_⟩:=h
  rfl
 ·obtain ⟨tr,txt,rfl,ht,hz,q⟩:=h
  have hu:=za2 hr
  have hu64:=hr.units
  refine ⟨_,(zab (za5 (zan zbg (za7 zav (by rfl) tG.b_len zcs (zaa (pv 0) zad)) zao (zam _)) (zac (zdj tF hr (zaa (zap tG.g_NOT_ENDED) (zaa zao zad)))) zaq)
   (zab (zax (i:=1) sc_read_table.nd rfl (Or.inl rfl) (zC4 i_Table hr zaz))
   (zab (zax (i:=2) sc_read_table.nd rfl (Or.inl rfl) zao)
   (zab (zhx PassesOwn.leaving (zan ziz (pv 2) (za7 zav (by rfl) tG.b_len zcs (zaa (pv 0) zad)) (zam _))
    (zab (zax (i:=3) sc_read_table.nd rfl (Or.inl rfl) (pe_d d_find_line_end hr za0 (zaa (pv 0) (zaa (pv 2) zad))))
   (zab (zal (pe_d d_check_bytes hr za0 (zaa (pv 0) (zaa (pv 2) (zaa (pv 3) zad)))))
   (zab (zal (pe_d d_read_line hr za0 (zaa (pv 1) (zaa (pe_i i_Words hr zaz (zaa (pv 0) (zaa (pv 2) (zaa (pv 3) zad)))) zad))))
   (zac (zax (i:=2) sc_read_table.nd rfl (Or.inl rfl) (zej ze4 (pv 3) zao)))))))
   (zab (za5 (zan ziz (zah (pv 1) rfl) (zah (pv 1) rfl) (zam _)) (zac (zdj tF hr (zaa (zap tG.g_FEW_DRAINS) (zaa (za7 zav (by rfl) tG.b_len zcs (zaa (pv 0) zad)) zad)))) zaq)
   (zac (zar (pv 1)))))))),?_⟩
  have f_tTable_cl:=tTable.cl
  have f_tTable_n_drained:=tTable.n_drained
  have f_tTable_n_balls:=tTable.n_balls
  have hq:SqL K H tr (bV txt):=SqL.of ht
  rw [zyn] at q
  refine ⟨_,rfl,tr,_,rfl, .inl hq,rfl,_,rfl,?_⟩
  rw [zas,zfc]
  by_cases h0:txt.length=0
  ·rw [decide_eq_true (show (txt.length:Int)=0 by omega)]
   have e0:txt=[]:=List.eq_nil_of_length_eq_zero h0
   subst e0
   have q:ErX cF E (fun _=>False) H ⟨1,0⟩:=q
   exact iteT ⟨_,_,rfl,q.rs⟩
  rw [decide_eq_false (show ¬(txt.length:Int)=0 by omega)]
  refine iteF fun t dx ht0 hd ne=>⟨t,dx,rfl,zaf,fun H1 m b1 b2 b3 b4 b5 b6 so ce nd sx fr=>⟨rfl,?_⟩⟩
  have htn:upd H dx (.own t) t=none:=by rw [zag ne.symm];exact ht0
  have k1:Same H H1:=by
   have kk:Same H (upd (upd H dx (.own t)) t (.ins cT dx [])):=Same.trans (Same.new hd) (Same.new htn)
   exact fun b o hb=>sx _ _ (fun z=>by unfold only at z;rw [z,ht0] at hb;cases hb) (kk _ _ hb)
  have R1:RN K H tr txt H1 (cells cT cC cK t dx m [] [] Tilt.noTable [] []) m.sorts (soOf none):=by
   refine ⟨ce,nd,so,k1 _ _ ht,k1,fun c hc=>?_⟩
   have hc0:H c.1=none:=by
    rcases List.mem_cons.mp hc with rfl | hc
    ·exact ht0
    ·have:=fr c hc
     cases z:H c.1 with
     | none=>rfl
     | some o=>
      rw [Same.trans (Same.new hd) (Same.new htn) _ _ z] at this
      cases this
   exact ⟨hc0,fun z=>by rw [z,ht] at hc0;cases hc0⟩
  obtain ⟨W,hW⟩ : ∃ W:Nat→St→Hp→Prop,∀ mm σ H',W mm σ H'↔∃ (h:Option Tilt.Had) (s k:Nat) (y:Option V) (dx':Addr) (m:MT) (cs:CS) (ks:KS) (hk sk:DT),mm=txt.length+1-s∧s≤txt.length∧txt.length-s<k∧σ=[some (.ref tr),some (.ref t),some (.int (s:Nat)),y]∧HI h∧(s=txt.length→h≠none)∧
    TW m cs ks (zbl h) hk sk (zbl h).room (zbl h).held (udOf (zbl h))∧RN K H tr txt H' (cells cT cC cK t dx' m cs ks (zbl h) hk sk) m.sorts (soOf h)∧
    Out cF E (fun _=>False) H (Tilt.linesIn Tilt.lineIn k s h (txt.drop s) >>= finR txt.length) fun T=>∀ H' t,TBL ⟨cC,cK,cW,cT,cF⟩ H H' t T→Q (.ref t) H':=⟨_,fun _ _ _=>Iff.rfl⟩
  refine ⟨W,⟨_,(hW _ _ _).mpr ⟨none,0,txt.length+1,none,dx,m,[],[],[],[],rfl,Nat.zero_le _,by omega,rfl,trivial,fun z=>absurd z.symm h0,tw0 b1 b2 b3 b4 b5 b6,R1,q⟩⟩,fun mm σ H' hw=>?_⟩
  obtain ⟨h,s,k,y,dx',m,cs,ks,hk,sk,rfl,hs,hk0,rfl,hi,hn,tw,R,q⟩:=(hW _ _ _).mp hw
  have hq':SqL K H' tr (bV txt):=SqL.of R.tx
  refine ⟨_,rfl,_,rfl,tr,_,rfl, .inl hq',_,_,rfl,rfl,_,rfl,?_⟩
  rw [zfc]
  obtain ⟨k,rfl⟩ : ∃ k',k=k'+1:=⟨k-1,by omega⟩
  by_cases hlt:s<txt.length
  ·rw [decide_eq_true (show (s:Int)<(txt.length:Int) by omega)]
   rw [zs2 hi hlt,za6] at q
   unfold zBj at q
   simp only [za6,zbd] at q
   have no:∀ b,(fun _:Addr=>False) b→H b=none:=fun b z=>z.elim
   refine iteT ⟨_,fun _ _ h=>h,_,rfl,_,rfl,tr,txt,s,rfl,R.tx,hs,(Out.bind q).loc R.s0 no fun e ee q=>?_⟩
   obtain ⟨he1,he2⟩:=zCe ee hs
   refine ⟨_,rfl,_,rfl,_,rfl,tr,txt,s,e,rfl,R.tx,he1,Nat.le_of_lt he2,hz,(Out.bind q).loc R.s0 no fun u eu q=>?_⟩
   have hb:Tilt.badByte true 0 (seg txt s e)=none:=by
    unfold chk at eu
    cases hb:Tilt.badByte true 0 (seg txt s e) with
    | none=>rfl
    | some j=>rw [hb] at eu;cases eu
   refine ⟨_,rfl,_,rfl,_,rfl,_,rfl,fun x dw hx hdw nex=>⟨x,dw,tr,(s:Nat),(e:Nat),rfl,zaf,rfl,?_⟩⟩
   rw [zc9]
   have RG1:=R.words (cW:=cW) hx hdw nex he1 (Nat.le_of_lt he2) hz hb
   refine ⟨t,x,tr,txt,H,h,_,e,s,rfl,⟨dx',m,cs,ks,hk,sk,tw,RG1⟩,hi,(Out.bind q).loc (Same.refl H) no fun y ey q H2 p2 R2 hi2=>?_⟩
   obtain ⟨dx2,m2,cs2,ks2,hk2,sk2,tw2,R2⟩:=R2
   refine ⟨_,rfl,_,_,rfl,rfl,txt.length+1-(e+1),by omega,(hW _ _ _).mpr ⟨some y,e+1,k,_,dx2,m2,cs2,ks2,hk2,sk2,rfl,by omega,by omega,rfl,hi2,(fun _=>Option.some_ne_none y),tw2,R2.rn,q⟩⟩
  ·rw [decide_eq_false (show ¬(s:Int)<(txt.length:Int) by omega)]
   have hse:s=txt.length:=by omega
   rw [zu5 (by omega),zet] at q
   obtain ⟨y,rfl⟩ : ∃ y,h=some y:=by
    cases h with
    | none=>exact absurd rfl (hn hse)
    | some y=>exact ⟨y,rfl⟩
   have q:Out cF E (fun _=>False) H (if y.T.balls≤y.T.room then .ok y.T else .error ⟨8,txt.length⟩) _:=q
   have htab:H' t=some (.ins cT dx' (zdx m)):=R.ce _ (.head _)
   refine iteF ⟨_,rfl,t,_,_,_,_,rfl,htab,f_tTable_cl,f_tTable_n_drained,rfl,_,rfl,t,_,_,_,_,rfl,htab,f_tTable_cl,f_tTable_n_balls,rfl,_,_,rfl,rfl,_,rfl,?_⟩
   rw [tw.bl,tw.dr]
   by_cases hbr:y.T.balls≤y.T.room
   ·rw [if_pos hbr] at q
    rw [decide_eq_false (show ¬((zbl (some y)).room:Int)<((zbl (some y)).balls:Int) by simp only [zbl];omega)]
    exact iteF ⟨_,rfl,q H' t ⟨dx',m,cs,ks,hk,sk,tw,R.ce,R.nd,R.s0,fun c hc=>(R.fr c hc).1⟩⟩
   ·rw [if_neg hbr] at q
    rw [decide_eq_true (show ((zbl (some y)).room:Int)<((zbl (some y)).balls:Int) by simp only [zbl];omega)]
    have q:ErX cF E (fun _=>False) H ⟨8,txt.length⟩:=q
    refine iteT ⟨_,rfl,tr,_,rfl, .inl hq',_,_,rfl,?_⟩
    rw [zfc]
    exact fun dz Hz h1 h2=>q dz Hz h1 (SameX.of (Same.trans R.s0 h2))
end
end
section
def zhj (c:MC) (k:MK) (e n:Int):MC:=
 let c1:=if e=k.first then zev c k.length n true (if 0<c.hold then 2 else 0) else c
 let c2:=if V.int e=k.second∧c1.way=1∧c1.kicked=true then zc2 c1 else c1
 if e=64+k.first then za3 c2 else c2
section
variable {cW cF cT cC cK:Addr}
def zBg (cC cK:Addr):Sp:=fun vs H Q _=>E7 fun k dk m dc c e n=>A6 (vs=[.ref k, .int e, .int n]) (H k=some (.ins cK dk (zmm m))) (H m.coil=some (.ins cC dc (za4 c))) (k≠m.coil) ((m.second = .non∨∃ z,m.second = .int z)) (Q .non (upd H m.coil (.ins cC dc (za4 (zhj c m e n)))))
abbrev zcd:Stmt:=zaw (top 39) 1
theorem zh0:zai ["self","event","tick"] ["self","event","tick"] (zae zcd):=by walk_at "sc"
theorem zg9:zak zcd "take_event" "Kick.take_event" ["self","event","tick"]:=fun _ _ _ _ _ _ us hl=>match us,hl with | [_,_,_],_=>rfl
abbrev zco:Stmt:=top 23
theorem zi7:zai ["coils","kind","place","length"] ["coils","kind","place","length"] (zae zco):=by walk_at "sc"
theorem zic:zak zco "is_order_right" "is_order_right" ["coils","kind","place","length"]:=fun _ _ _ _ _ _ us hl=>match us,hl with | [_,_,_,_],_=>rfl
theorem zyr {e:Int} {s:V} (h:s = .non∨∃ z,s = .int z):scal (.int e) s=true:=by
 rcases h with rfl | ⟨z,rfl⟩<;>rfl
theorem zho (tG:TG K mg) (tKick:ztw K cK) (tCoil:zdt K cC) (m_Coil_ask:Md P w K mg base CX0 cC "ask" ["self","length","tick","kicked","keeper"] 2 (zv9 cC)) (m_Coil_end_pulse:Md P w K mg base CX0 cC "end_pulse" ["self"] 2 (spCh cC zc2 fun _=>.non)) (m_Coil_let_go:Md P w K mg base CX0 cC "let_go" ["self"] 2 (spCh cC za3 fun _=>.non)) (F:MtK K cK "take_event" "Kick.take_event" zcd) :
  Md P w K mg base CX0 cK "take_event" ["self","event","tick"] 3 (zBg cC cK):=by
 refine F.md zh0 zg9 (fun vs H Q E h=>?_) (fun f cdv A outer s H vs Q E hr h=>?_)
 ·obtain ⟨k,dk,m,dc,c,e,n,rfl,_⟩:=h
  rfl
 ·obtain ⟨k,dk,m,dc,c,e,n,rfl,hk,hc,ne,hs,q⟩:=h
  have hu:=za2 hr
  have hu64:=hr.units
  refine ⟨_,(zab (za5 (zan zbg (pv 1) (zah (pv 0) rfl) (zam _)) (zac (zal (pe_m m_Coil_ask tCoil.cl hr zaz (zah (pv 0) rfl) (zaa (zah (pv 0) rfl) (zaa (pv 2) (zaa zei (zaa (zya (zan zfm (zah (zah (pv 0) rfl) rfl) zao (zam _)) (zap tG.g_BY_KICK) (zap tG.g_NOBODY)) zad))))))) zaq)
   (zab (za5 (PW.pt (zko (zan zbg (pv 1) (zah (pv 0) rfl) (zam _)) (zko (zan zbg (zah (zah (pv 0) rfl) rfl) (zap tG.g_PULSED) (zam _)) (zi0 (zct (zah (zah (pv 0) rfl) rfl)))))) (zac (zal (zbk m_Coil_end_pulse tCoil.cl hr zaz (zah (pv 0) rfl)))) zaq)
   (zac (za5 (zan zbg (pv 1) (zej ze4 (zap tG.g_OPENED) (zah (pv 0) rfl)) (zam _)) (zac (zal (zbk m_Coil_let_go tCoil.cl hr zaz (zah (pv 0) rfl)))) zaq)))),?_⟩
  have f_tKick_cl:=tKick.cl
  have f_tKick_n_first:=tKick.n_first
  have f_tCoil_cl:=tCoil.cl
  have f_tKick_n_coil:=tKick.n_coil
  have f_tCoil_n_hold:=tCoil.n_hold
  have f_tKick_n_length:=tKick.n_length
  have f_tCoil_n_kicked:=tCoil.n_kicked
  have f_tCoil_n_way:=tCoil.n_way
  have f_tKick_n_second:=tKick.n_second
  unfold zhj at q
  have s3:∀ (H2:Hp) (c2:MC),H2 k=some (.ins cK dk (zmm m))→H2 m.coil=some (.ins cC dc (za4 c2))→Q .non (upd H2 m.coil (.ins cC dc (za4 (if e=64+m.first then za3 c2 else c2))))→
    tIfS (zky (tOp rEq (tVar 1) (tOp (rI0 fun i j=>.int (i+j)) (tC (.int 64)) (tFld K (tVar 0) "first")))) (znq (zkx cC "let_go" (spCh cC za3 fun _=>.non) [] E0 (tFld K (tVar 0) "coil") tNil)) zpj { nx:=fun _ H'=>Q .non H',rt:=Q } [some (.ref k),some (.int e),some (.int n)] H2:=by
   intro H2 c2 hk hc q
   refine ⟨_,rfl,_,rfl,k,_,_,_,_,rfl,hk,f_tKick_cl,f_tKick_n_first,rfl,_,_,rfl,rfl,rfl,_,rfl,?_⟩
   rw [zas]
   by_cases h1:e=64+m.first
   ·rw [decide_eq_true h1]
    rw [if_pos h1] at q
    exact iteT ⟨_,rfl,k,_,_,_,_,rfl,hk,f_tKick_cl,f_tKick_n_coil,rfl,m.coil,_,_,rfl,hc,rfl,m.coil,dc,c2,rfl,hc,q⟩
   ·rw [decide_eq_false h1]
    rw [if_neg h1,zsm hc] at q
    exact iteF q
  have s2:∀ (H1:Hp) (c1:MC),H1 k=some (.ins cK dk (zmm m))→H1 m.coil=some (.ins cC dc (za4 c1))→Q .non (upd H1 m.coil (.ins cC dc (za4 (if e=64+m.first then za3 (if V.int e=m.second∧c1.way=1∧c1.kicked=true then zc2 c1 else c1) else (if V.int e=m.second∧c1.way=1∧c1.kicked=true then zc2 c1 else c1)))))→
    (tSeq (tIfS (tAnd (zky (tOp rEq (tVar 1) (tFld K (tVar 0) "second"))) (tAnd (zky (tOp rEq (tFld K (tFld K (tVar 0) "coil") "way") (tC (.int 1)))) (tB (tFld K (tFld K (tVar 0) "coil") "kicked")))) (znq (zkx cC "end_pulse" (spCh cC zc2 fun _=>.non) [] E0 (tFld K (tVar 0) "coil") tNil)) zpj)
     (tIfS (zky (tOp rEq (tVar 1) (tOp (rI0 fun i j=>.int (i+j)) (tC (.int 64)) (tFld K (tVar 0) "first")))) (znq (zkx cC "let_go" (spCh cC za3 fun _=>.non) [] E0 (tFld K (tVar 0) "coil") tNil)) zpj)) { nx:=fun _ H'=>Q .non H',rt:=Q } [some (.ref k),some (.int e),some (.int n)] H1:=by
   intro H1 c1 hk hc q
   refine ⟨_,rfl,_,rfl,k,_,_,_,_,rfl,hk,f_tKick_cl,f_tKick_n_second,rfl,zyr hs,_,rfl,?_⟩
   by_cases h1:V.int e=m.second
   ·rw [decide_eq_true h1]
    refine iteT ⟨_,rfl,k,_,_,_,_,rfl,hk,f_tKick_cl,f_tKick_n_coil,rfl,m.coil,_,_,_,_,rfl,hc,f_tCoil_cl,f_tCoil_n_way,rfl,rfl,_,rfl,?_⟩
    rw [zas]
    by_cases h2:c1.way=1
    ·rw [decide_eq_true h2]
     refine iteT ⟨_,rfl,k,_,_,_,_,rfl,hk,f_tKick_cl,f_tKick_n_coil,rfl,m.coil,_,_,_,_,rfl,hc,f_tCoil_cl,f_tCoil_n_kicked,rfl,_,rfl,?_⟩
     cases h3:c1.kicked with
     | true=>
      refine iteT ⟨_,rfl,k,_,_,_,_,rfl,hk,f_tKick_cl,f_tKick_n_coil,rfl,m.coil,_,_,rfl,hc,rfl,m.coil,dc,c1,rfl,hc,?_⟩
      rw [if_pos (show V.int e=m.second∧c1.way=1∧c1.kicked=true from ⟨h1,h2,h3⟩)] at q
      exact s3 _ (zc2 c1) (by rw [zag ne];exact hk) zaf (by rw [zc9];exact q)
     | false=>
      rw [if_neg (show ¬(V.int e=m.second∧c1.way=1∧c1.kicked=true) from fun z=>by rw [h3] at z;cases z.2.2)] at q
      exact iteF (s3 _ c1 hk hc q)
    ·rw [decide_eq_false h2]
     rw [if_neg (show ¬(V.int e=m.second∧c1.way=1∧c1.kicked=true) from fun z=>h2 z.2.1)] at q
     exact iteF (iteF (s3 _ c1 hk hc q))
   ·rw [decide_eq_false h1]
    rw [if_neg (show ¬(V.int e=m.second∧c1.way=1∧c1.kicked=true) from fun z=>h1 z.1)] at q
    exact iteF (iteF (s3 _ c1 hk hc q))
  refine ⟨_,rfl,_,rfl,k,_,_,_,_,rfl,hk,f_tKick_cl,f_tKick_n_first,rfl,rfl,_,rfl,?_⟩
  rw [zas]
  by_cases h1:e=m.first
  ·rw [decide_eq_true h1]
   rw [if_pos h1] at q
   refine iteT ⟨_,rfl,k,_,_,_,_,rfl,hk,f_tKick_cl,f_tKick_n_coil,rfl,m.coil,_,_,rfl,hc,rfl,_,rfl,k,_,_,_,_,rfl,hk,f_tKick_cl,f_tKick_n_length,rfl,_,rfl,_,rfl,k,_,_,_,_,rfl,hk,f_tKick_cl,f_tKick_n_coil,rfl,m.coil,_,_,_,_,rfl,hc,f_tCoil_cl,f_tCoil_n_hold,rfl,_,_,rfl,rfl,_,rfl,?_⟩
   have go:∀ h:Int,(if 0<c.hold then (2:Int) else 0)=h→zv9 cC (V.ref m.coil :: ([V.int m.length,V.int n,V.bl true,V.int h]++[])) H (fun _ H1=>(tSeq (tIfS (tAnd (zky (tOp rEq (tVar 1) (tFld K (tVar 0) "second"))) (tAnd (zky (tOp rEq (tFld K (tFld K (tVar 0) "coil") "way") (tC (.int 1)))) (tB (tFld K (tFld K (tVar 0) "coil") "kicked")))) (znq (zkx cC "end_pulse" (spCh cC zc2 fun _=>.non) [] E0 (tFld K (tVar 0) "coil") tNil)) zpj)
     (tIfS (zky (tOp rEq (tVar 1) (tOp (rI0 fun i j=>.int (i+j)) (tC (.int 64)) (tFld K (tVar 0) "first")))) (znq (zkx cC "let_go" (spCh cC za3 fun _=>.non) [] E0 (tFld K (tVar 0) "coil") tNil)) zpj)) { nx:=fun _ H'=>Q .non H',rt:=Q } [some (.ref k),some (.int e),some (.int n)] H1) E0:=by
    intro h hh
    rw [hh] at q
    refine ⟨m.coil,dc,c,m.length,n,true,h,rfl,hc,s2 _ _ (by rw [zag ne];exact hk) zaf (by rw [zc9];exact q)⟩
   by_cases h2:0<c.hold
   ·rw [decide_eq_true h2]
    exact iteT (go 2 (if_pos h2))
   ·rw [decide_eq_false h2]
    exact iteF (go 0 (if_neg h2))
  ·rw [decide_eq_false h1]
   rw [if_neg h1] at q
   exact iteF (s2 H c hk hc q)
def ordR (cs:List MC) (kind place len:Int):Bool:=
 if kind=4 then decide (place=0)&&decide (len=0) else if kind=5 then decide (place=0)&&decide (len≤1) else
 match cs.find? (fun c=>decide (c.place=place)) with
 | none=>false
 | some c=>if 5<kind then false else if kind=0 then decide (1≤len)&&decide (len≤c.most) else if kind=1 then decide (0<c.hold)&&(decide (1≤len)&&decide (len≤c.most)) else decide (len=0)
abbrev MS:=List (Addr×Addr×MC)
def mcD (cs:MS):List (Key×V):=cs.map fun c=>(Sum.inl c.2.2.place, .ref c.1)
def mcC (cC:Addr) (cs:MS):List (Addr×HO):=cs.map fun c=>(c.1, .ins cC c.2.1 (za4 c.2.2))
theorem zpl (cs:MS) (p:Int):valV (mcD cs) (Sum.inl p)=(cs.find? fun c=>decide (c.2.2.place=p)).map fun c=>V.ref c.1:=by
 induction cs with
 | nil=>rfl
 | cons x r ih=>
  unfold mcD at ih ⊢
  rw [List.map_cons,List.find?_cons]
  by_cases h:x.2.2.place=p
  ·rw [zb4 (p:=(Sum.inl x.2.2.place,V.ref x.1)) (by rw [h]),decide_eq_true h];rfl
  ·rw [zb3 (p:=(Sum.inl x.2.2.place,V.ref x.1)) (fun z=>h (Sum.inl.inj z)),decide_eq_false h,ih]
theorem zum (cs:MS) (p:Int):(cs.map (·.2.2)).find? (fun c=>decide (c.place=p))=(cs.find? fun c=>decide (c.2.2.place=p)).map (·.2.2):=by
 rw [List.find?_map];rfl
def zBi (cC:Addr):Sp:=fun vs H Q _=>E5 fun d cs kind place len=>A5 (vs=[.ref d, .int kind, .int place, .int len]) (H d=some (.dK (mcD cs))) (Cel H (mcC cC cs)) (0≤kind) (Q (.bl (ordR (cs.map (·.2.2)) kind place len)) H)
theorem ziw (tG:TG K mg) (tCoil:zdt K cC) (F:FnK K mg "is_order_right" zco) :
  Dn P w K mg base CX0 "is_order_right" ["coils","kind","place","length"] 1 (zBi cC):=by
 refine F.dn zi7 zic (fun vs H Q E h=>?_) (fun f cdv A outer s H vs Q E hr h=>?_)
 ·obtain ⟨d,cs,kind,place,len,rfl,_⟩:=h
  rfl
 ·obtain ⟨d,cs,kind,place,len,rfl,hd,hc,hk,q⟩:=h
  have hu:=za2 hr
  have hu64:=hr.units
  refine ⟨_,(zab (za5 (zan zbg (pv 1) (zap tG.g_STOP_ALL) (zam _)) (zac (zar (zr7 (zba zbg (pv 2) zao (zam _)) (zje (zba zbg (pv 3) zao (zam _)))))) zaq)
   (zab (za5 (zan zbg (pv 1) (zap tG.g_SET_KICKS) (zam _)) (zac (zar (zr7 (zba zbg (pv 2) zao (zam _)) (zje (zba zju (pv 3) zao (zam _)))))) zaq)
   (zab (za5 (PW.pt (zpd (zan zfm (pv 1) (zap tG.g_SET_KICKS) (zam _)) (zkp (zzp (zeo hu (pv 2) (pv 0)))))) (zac (zar zei)) zaq)
   (zab (za5 (zan zbg (pv 1) (zap tG.g_PULSE) (zam _)) (zac (zar (zht zju zju zao (pv 3) (zah (zdl hu (pv 0) (pv 2) (fun _ _=>rfl)) rfl)))) zaq)
   (zab (za5 (zan zbg (pv 1) (zap tG.g_PULSE_AND_HOLD) (zam _)) (zac (zar (zr7 (zba zfm (zah (zdl hu (pv 0) (pv 2) (fun _ _=>rfl)) rfl) zao (zam _)) (zje (zht zju zju zao (pv 3) (zah (zdl hu (pv 0) (pv 2) (fun _ _=>rfl)) rfl)))))) zaq)
   (zac (zar (zba zbg (pv 3) zao (zam _))))))))),?_⟩
  have f_tCoil_cl:=tCoil.cl
  have f_tCoil_n_most:=tCoil.n_most
  have f_tCoil_n_hold:=tCoil.n_hold
  have dg:DGet H d (.int place) (valV (mcD cs) (Sum.inl place)):=DGet.k (k:=Sum.inl place) hd
  rw [zpl] at dg
  unfold ordR at q
  rw [zum] at q
  have two:∀ (a b:Bool) (R:VK),R (.bl (a&&b)) H→(if a=true then R (.bl b) H else R (.bl false) H):=by
   intro a b R h
   cases a with
   | true=>exact iteT (by simpa using h)
   | false=>exact iteF (by simpa using h)
  refine ⟨_,rfl,rfl,_,rfl,?_⟩
  rw [zas]
  by_cases h4:kind=4
  ·rw [decide_eq_true h4]
   rw [if_pos h4] at q
   refine iteT ⟨_,rfl,rfl,_,rfl,?_⟩
   rw [zas]
   cases hp:decide (place=0) with
   | true=>
    rw [hp] at q
    refine iteT ⟨_,rfl,rfl,?_⟩
    rw [zas];simpa using q
   | false=>rw [hp] at q;exact iteF (by simpa using q)
  rw [decide_eq_false h4]
  rw [if_neg h4] at q
  refine iteF ⟨_,rfl,rfl,_,rfl,?_⟩
  rw [zas]
  by_cases h5:kind=5
  ·rw [decide_eq_true h5]
   rw [if_pos h5] at q
   refine iteT ⟨_,rfl,rfl,_,rfl,?_⟩
   rw [zas]
   cases hp:decide (place=0) with
   | true=>
    rw [hp] at q
    exact iteT ⟨_,rfl,_,_,rfl,rfl,by simpa using q⟩
   | false=>rw [hp] at q;exact iteF (by simpa using q)
  rw [decide_eq_false h5]
  rw [if_neg h5] at q
  refine iteF ⟨_,rfl,_,_,rfl,rfl,_,rfl,?_⟩
  by_cases h6:5<kind
  ·rw [decide_eq_true h6]
   refine iteT (iteT ?_)
   cases hf:cs.find? fun c=>decide (c.2.2.place=place) with
   | none=>rw [hf] at q;exact q
   | some c=>rw [hf] at q;simp only [Option.map_some,if_pos h6] at q;exact q
  rw [decide_eq_false h6]
  refine iteF ⟨_,rfl,_,rfl,d,_,rfl,dg,_,rfl,?_⟩
  cases hf:cs.find? fun c=>decide (c.2.2.place=place) with
  | none=>
   rw [hf] at q
   exact iteT q
  | some c=>
   rw [hf] at q dg
   simp only [Option.map_some,if_neg h6] at q
   have hco:=hc (c.1,_) (List.mem_map.mpr ⟨c,List.mem_of_find?_eq_some hf,rfl⟩)
   simp only [Option.map_some] at dg
   refine iteF ⟨_,rfl,rfl,_,rfl,?_⟩
   rw [zas]
   by_cases h0:kind=0
   ·rw [decide_eq_true h0]
    rw [if_pos h0] at q
    refine iteT ⟨_,rfl,_,_,rfl,rfl,_,rfl,?_⟩
    cases h1:decide (1≤len) with
    | true=>
     rw [h1,Bool.true_and] at q
     exact iteT ⟨_,rfl,_,rfl,d,_,rfl,dg,c.1,_,_,_,_,rfl,hco,f_tCoil_cl,f_tCoil_n_most,rfl,_,_,rfl,rfl,q⟩
    | false=>rw [h1,Bool.false_and] at q;exact iteF q
   rw [decide_eq_false h0]
   rw [if_neg h0] at q
   refine iteF ⟨_,rfl,rfl,_,rfl,?_⟩
   rw [zas]
   by_cases h1:kind=1
   ·rw [decide_eq_true h1]
    rw [if_pos h1] at q
    refine iteT ⟨_,rfl,_,rfl,d,_,rfl,dg,c.1,_,_,_,_,rfl,hco,f_tCoil_cl,f_tCoil_n_hold,rfl,_,_,rfl,rfl,_,rfl,?_⟩
    cases hh:decide (0<c.2.2.hold) with
    | false=>rw [hh,Bool.false_and] at q;exact iteF q
    | true=>
     rw [hh,Bool.true_and] at q
     refine iteT ⟨_,rfl,_,_,rfl,rfl,_,rfl,?_⟩
     cases h1:decide (1≤len) with
     | true=>
      rw [h1,Bool.true_and] at q
      exact iteT ⟨_,rfl,_,rfl,d,_,rfl,dg,c.1,_,_,_,_,rfl,hco,f_tCoil_cl,f_tCoil_n_most,rfl,_,_,rfl,rfl,q⟩
     | false=>rw [h1,Bool.false_and] at q;exact iteF q
   ·rw [decide_eq_false h1]
    rw [if_neg h1] at q
    refine iteF ⟨_,rfl,rfl,?_⟩
    rw [zas]
    exact q
end
end
section
def zD9 (td ty tx:TE):TE:=fun σ H Q=>td σ H fun x H1=>∃ a,A3 (x = .ref a) (IsD H1 a) (ty σ H1 fun y H2=>tx σ H2 fun z H3=>E2 fun kvs k=>A5 (H3 a=some (.dK kvs)) (y=kV k) (kvs.length<sizeLine) ((∀ v,valV kvs k=some v→Q v H3)) ((valV kvs k=none→Q z (upd H3 a (.dK (putK kvs k z))))))
section
variable {X:Cx} {o e f:Expr} {apos cpos:Pos} {td ty tx:TE}
theorem ztf (hu:X.A.units+1<cLine) (ho:PE X o td) (he:PE X e ty) (hf:PE X f tx) (m:M2 X o "setdefault" apos e f cpos):PE X (.Call (.Attribute o "setdefault" apos) [e,f] [] cpos) (zD9 td ty tx):=by
 intro pins s σ H Q I h
 refine wpAny_Call_method m.base m.few m.line PySem.F.plainAttrs_dict PySem.F.slot_dict_setdefault PySem.F.type_dict_setdefault (thn (ho pins s σ H _ I h) fun u s1 ⟨x,H1,I1,rx,a,ex,d,q1⟩=>?_)
 subst ex
 obtain rfl:u=Value.ref a:=rx
 obtain ⟨t1,t2,_⟩:=zzb I1 d
 refine ⟨t1,t2,?_⟩
 rw [m.trees]
 refine Calls.callWith_builtin rfl (Calls.evalArgs_plain (Calls.spliced_cons (thn (he pins s1 σ H1 _ I1 q1) fun iv s2 ⟨y,H2,I2,ry,q2⟩=>
  Calls.spliced_cons (thn (hf pins s2 σ H2 _ I2 q2) fun fv s3 ⟨z,H3,I3,rz,kvs,k,ha,hy,hl,q3,q4⟩=>Calls.spliced_nil ?_))))
 subst hy
 obtain ⟨zz,hd,vs,rel,dd⟩:=zCb I3.hok ha
 refine call_meetsIn PySem.F.slot_dict_setdefault dd.typeIs PySem.F.entry_dict_setdefault (PySem.F.args_dict_setdefault_3 _ _ _) (PySem.kt_meets_setdefault _ _ (zp7 ry) hd fv) ⟨vs,dd,by rw [← rel.length];exact zz,fun v hv=>?_,fun hv h' dd' hs=>?_⟩
 ·have r:=rel.val k
  rw [hv] at r
  cases hx:valV kvs k with
  | none=>rw [hx] at r;exact absurd (RelO.none_of r) (by simp)
  | some x=>
   rw [hx] at r
   obtain ⟨u,hu,ru⟩:=RelO.some_of r
   cases hu
   exact ⟨x,H3,I3.tok _,ru,q3 x hx⟩
 ·have r:=rel.val k
  rw [hv] at r
  have hx:valV kvs k=none:=by
   cases hx:valV kvs k with
   | none=>rfl
   | some x=>
    rw [hx] at r
    obtain ⟨u,hu,ru⟩:=RelO.some_of r
    cases hu
  have hl2:(putK kvs k z).length≤sizeLine:=by have:=zdu kvs k z;omega
  have hex:∃ q,h'.get? a=some q:=let ⟨q,_,_,hq,_⟩:=dd'; ⟨q,hq⟩
  exact ⟨z,_,zpy I3 (by rw [ha];exact True.intro) hs hex (zy8 hl2 hd (rel.put k rz) dd'),rz,q4 hx⟩
theorem zxq {X:Cx} {K:W.Frag} (hK:X.K=K):IxR X (rIxL K):=by subst hK;exact zbu
theorem zqo {X:Cx} {K:W.Frag} {e:Expr} {f:Str} {pos:Pos} {ta:TE} (hK:X.K=K) (he:PE X e ta) (hb:attributeBase e f X.env (eval e X.env)=eval e X.env):PE X (.Attribute e f pos) (tFld K ta f):=by subst hK;exact zah he hb
end
end
section
theorem RgC.up {w n:Nat} (hw:0<w) (hw2:w≤16) (hn:n≤100000):RgC 0 ((n*w:Nat):Int) (w:Nat) n:=by
 have hb:n*w≤100000*16:=Nat.mul_le_mul hn hw2
 have key:Builtin.Range.rangeSize 0 ((n*w:Nat):Int) (w:Nat)=n:=by
  unfold Builtin.Range.rangeSize
  rw [if_pos (by omega)]
  cases n with
  | zero=>simp
  | succ m=>
   rw [if_pos (by have:0<(m+1)*w:=Nat.mul_pos (by omega) hw;omega)]
   have e:(((m+1)*w:Nat):Int)-0-1=((m*w+(w-1):Nat):Int):=by
    rw [Nat.add_mul];omega
   rw [e]
   have:((m*w+(w-1):Nat):Int) / (w:Int)=((m*w+(w-1)) / w:Nat):=by norm_cast
   rw [this,Nat.mul_comm m w,Nat.mul_add_div hw,Nat.div_eq_of_lt (by omega)]
   simp
 refine ⟨by omega,by omega,?_,?_⟩
 ·have hbb:((n*w:Nat):Int)≤1600000:=by omega
  have hb0:0≤((n*w:Nat):Int):=by omega
  have hsz:=key
  unfold Builtin.Range.small
  rw [hsz]
  simp only [Builtin.Range.rangeFitsLong,Bool.and_eq_true,Bool.or_eq_true,decide_eq_true_eq,beq_iff_eq]
  rw [if_pos (show (w:Int) > 0 by omega)]
  simp only [Bool.and_eq_true,decide_eq_true_eq]
  generalize ((n*w:Nat):Int)=z at hbb hb0 ⊢
  omega
 ·exact key
def zlb (ps:List (Int×Int)):List Int:=ps.flatMap fun p=>[p.1,p.2]
def zjp (os:List (Int×Int×Int×Int)):List Int:=os.flatMap fun o=>[o.1,o.2.1,o.2.2.1,o.2.2.2]
theorem zoi (ps:List (Int×Int)):(zlb ps).length=ps.length*2:=by
 induction ps with
 | nil=>rfl
 | cons p r ih=>simp only [zlb,List.flatMap_cons,List.length_append,List.length_cons,List.length_nil] at ih ⊢;omega
theorem zoj (ps:List (Int×Int×Int×Int)):(zjp ps).length=ps.length*4:=by
 induction ps with
 | nil=>rfl
 | cons p r ih=>simp only [zjp,List.flatMap_cons,List.length_append,List.length_cons,List.length_nil] at ih ⊢;omega
theorem zkb:∀ {ps:List (Int×Int)} {i:Nat} {p:Int×Int},ps[i]? = some p→(zlb ps)[i*2]? = some p.1∧(zlb ps)[i*2+1]? = some p.2
 | [],i,p,h=>by simp at h
 | x :: r,0,p,h=>by simp at h;subst h;exact ⟨rfl,rfl⟩
 | x :: r,i+1,p,h=>by
  have:=zkb (ps:=r) (i:=i) (p:=p) (by simpa using h)
  rw [Nat.add_mul]
  exact this
theorem zkc:∀ {ps:List (Int×Int×Int×Int)} {i:Nat} {p:Int×Int×Int×Int},ps[i]? = some p→(zjp ps)[i*4]? = some p.1∧(zjp ps)[i*4+1]? = some p.2.1∧(zjp ps)[i*4+2]? = some p.2.2.1∧(zjp ps)[i*4+3]? = some p.2.2.2
 | [],i,p,h=>by simp at h
 | x :: r,0,p,h=>by simp at h;subst h;exact ⟨rfl,rfl,rfl,rfl⟩
 | x :: r,i+1,p,h=>by
  have:=zkc (ps:=r) (i:=i) (p:=p) (by simpa using h)
  rw [Nat.add_mul]
  exact this
def fol (n:Int):Int→List Int→Bool
 | _,[]=>true
 | b,x :: r=>decide (b≤x)&&(decide (x<n)&&fol n x r)
section
variable {cW cF cT cC cK:Addr}
def zno:Sp:=fun vs H Q _=>E5 fun r w n (ev:List Int) (tk:List Int)=>A8 (vs=[.ref r, .int (w:Nat), .int n]) (H r=some (.lst (ev.map V.int))) (0<w) (w≤16) (tk.length≤100000) (ev.length=tk.length*w) ((∀ (i:Nat) (x:Int),tk[i]? = some x→ev[i*w]? = some x)) (Q (.bl (fol n 0 tk)) H)
def zBf:Sp:=fun vs H Q _=>E3 fun r n (ps:List (Int×Int))=>A4 (vs=[.ref r, .int n]) (H r=some (.lst ((zlb ps).map V.int))) (ps.length≤4096) (∀ H',Same H H'→Q (.bl (fol n 0 (ps.map (·.1))&&ps.all fun p=>decide (p.2<128))) H')
def zwg (cC:Addr):Sp:=fun vs H Q _=>E5 fun r n d (os:List (Int×Int×Int×Int)) (cs:MS)=>A7 (vs=[.ref r, .int n, .ref d]) (H r=some (.lst ((zjp os).map V.int))) (os.length≤4096) (H d=some (.dK (mcD cs))) (Cel H (mcC cC cs)) ((∀ o∈os,0≤o.2.1)) (Q (.bl (fol n 0 (os.map (·.1))&&os.all fun o=>ordR (cs.map (·.2.2)) o.2.1 o.2.2.1 o.2.2.2)) H)
abbrev zch:Stmt:=top 20
theorem sc_are_ticks_right:zai ["row","width","n","before","at"] ["row","width","n"] (zae zch):=by walk_at "sc"
theorem zhd:zak zch "are_ticks_right" "are_ticks_right" ["row","width","n"]:=fun _ _ _ _ _ _ us hl=>match us,hl with | [_,_,_],_=>rfl
abbrev zb1:Stmt:=top 21
theorem sc_are_events_right:zai ["events","n","at"] ["events","n"] (zae zb1):=by walk_at "sc"
theorem zgl:zak zb1 "are_events_right" "are_events_right" ["events","n"]:=fun _ _ _ _ _ _ us hl=>match us,hl with | [_,_],_=>rfl
abbrev zb2:Stmt:=top 22
theorem sc_are_orders_right:zai ["orders","n","coils","at"] ["orders","n","coils"] (zae zb2):=by walk_at "sc"
theorem zgm:zak zb2 "are_orders_right" "are_orders_right" ["orders","n","coils"]:=fun _ _ _ _ _ _ us hl=>match us,hl with | [_,_,_],_=>rfl
theorem iat {l:List Int} {i:Nat} {x:Int} (h:l[i]? = some x):(l.map V.int)[i]? = some (.int x):=by simp [h]
theorem zhs (tG:TG K mg) (F:FnK K mg "are_ticks_right" zch) :
  Dn P w K mg base CX0 "are_ticks_right" ["row","width","n"] 1 (zno):=by
 refine F.dn sc_are_ticks_right zhd (fun vs H Q E h=>?_) (fun f cdv A outer s H vs Q E hr h=>?_)
 ·obtain ⟨r,w,n,ev,tk,rfl,_⟩:=h
  rfl
 ·obtain ⟨r,w,n,ev,tk,rfl,hr0,hw,hw2,hl,hlen,hat,q⟩:=h
  have hu:=za2 hr
  have hu64:=hr.units
  refine ⟨_,(zab (zax (i:=3) sc_are_ticks_right.nd rfl (Or.inl rfl) zao)
   (zab (zd3 PassesOwn.never rfl (zhv rfl tG.b_range (zaa zao (zaa (za7 zav (by rfl) tG.b_len zcs (zaa (pv 0) zad)) (zaa (pv 1) zad)))) (zbp (i:=4) sc_are_ticks_right.nd rfl (Or.inl rfl))
    (zab (za5 (PW.pt (zpd (zan ziz (zdy zbu (pv 0) (pv 4) (fun _ _=>rfl)) (pv 3) (zam _)) (zkp (zan zD1 (zdy zbu (pv 0) (pv 4) (fun _ _=>rfl)) (pv 2) (zam _))))) (zac (zar zei)) zaq)
   (zac (zax (i:=3) sc_are_ticks_right.nd rfl (Or.inl rfl) (zdy zbu (pv 0) (pv 4) (fun _ _=>rfl))))))
   (zac (zar zei)))),?_⟩
  have hq:SqL K H r (ev.map V.int):=SqL.of hr0
  refine ⟨_,rfl,r,_,rfl, .inl hq,_,rfl,_,_,_,tk.length,rfl,by rw [List.length_map,hlen];exact RgC.up hw hw2 hl,?_⟩
  refine zih (fun i σ H'=>H'=H∧∃ b y,σ=[some (.ref r),some (.int (w:Nat)),some (.int n),some (.int b),y]∧fol n 0 tk=fol n b (tk.drop i)) ⟨rfl,0,none,rfl,rfl⟩ (fun i σ H' hi hp=>?_) (fun σ H' hp=>?_)
  ·obtain ⟨rfl,b,y,rfl,hf⟩:=hp
   have hx:tk[i]? = some tk[i]:=List.getElem?_eq_getElem hi
   have hev:=hat i _ hx
   have hix:atI (ev.map V.int) (0+(i:Nat)*(w:Nat))=some (.int tk[i]):=zjj (j:=i*w) (by simp) (iat hev)
   rw [List.drop_eq_getElem_cons hi] at hf
   have hf:fol n 0 tk=(decide (b≤tk[i])&&(decide (tk[i]<n)&&fol n tk[i] (tk.drop (i+1)))):=hf
   refine ⟨_,rfl,_,rfl,r,_,_,_,rfl,rfl,hq,hix,_,rfl,_,_,rfl,rfl,_,rfl,?_⟩
   by_cases h1:tk[i]<b
   ·rw [decide_eq_true h1]
    rw [hf,decide_eq_false (by omega),Bool.false_and] at q
    exact iteT (iteT q)
   rw [decide_eq_false h1]
   refine iteF ⟨_,rfl,_,rfl,r,_,_,_,rfl,rfl,hq,hix,_,rfl,_,_,rfl,rfl,_,rfl,?_⟩
   by_cases h2:n≤tk[i]
   ·rw [decide_eq_true h2]
    rw [hf,decide_eq_false (show ¬tk[i]<n by omega),Bool.false_and,Bool.and_false] at q
    exact iteT q
   rw [decide_eq_false h2]
   refine iteF ⟨_,rfl,_,rfl,r,_,_,_,rfl,rfl,hq,hix,rfl,tk[i],_,rfl,?_⟩
   rw [hf,decide_eq_true (show b≤tk[i] by omega),decide_eq_true (show tk[i]<n by omega),Bool.true_and,Bool.true_and]
  ·obtain ⟨rfl,b,y,rfl,hf⟩:=hp
   rw [hf,List.drop_length] at q
   exact q
theorem zgy (tG:TG K mg) (d_are_ticks_right:Dn P w K mg base CX0 "are_ticks_right" ["row","width","n"] 1 (zno)) (F:FnK K mg "are_events_right" zb1) :
  Dn P w K mg base CX0 "are_events_right" ["events","n"] 2 (zBf):=by
 refine F.dn sc_are_events_right zgl (fun vs H Q E h=>?_) (fun f cdv A outer s H vs Q E hr h=>?_)
 ·obtain ⟨r,n,ps,rfl,_⟩:=h
  rfl
 ·obtain ⟨r,n,ps,rfl,hr0,hl,q⟩:=h
  have hu:=za2 hr
  have hu64:=hr.units
  refine ⟨_,(zab (za5 (ze5 (zct (pe_d d_are_ticks_right hr zaz (zaa (pv 0) (zaa (zap tG.g_EVENT_WIDTH) (zaa (pv 1) zad)))))) (zac (zar zei)) zaq)
   (zac (zar (za7 (zud rfl) (by rfl) tG.b_all zt6 (zaa (zyb rfl sc_are_events_right.nd (zhv rfl tG.b_range (zaa zao (zaa (za7 zav (by rfl) tG.b_len zcs (zaa (pv 0) zad)) (zaa (zap tG.g_EVENT_WIDTH) zad)))) (zeq (own:=[("at",2)]) rfl) (fun _ _ _ _ _=>zbp (i:=2) sc_are_events_right.nd rfl (Or.inl rfl)) (fun _ _ _ _ _=>zm6) (fun _ _ _ _ _=>(zba ziz (zdy (zxq (K:=K) rfl) (pv 0) (zej ze4 (pv 2) zao) (fun _ _=>rfl)) (zap tG.g_EVENTS) (zam _)))) zad))))),?_⟩
  have hq:SqL K H r ((zlb ps).map V.int):=SqL.of hr0
  refine ⟨_,rfl,_,rfl,r,2,n,zlb ps,ps.map (·.1),rfl,hr0,by decide,by decide,by simp;omega,by rw [zoi,List.length_map],fun i x hx=>?_,_,rfl,?_⟩
  ·rw [List.getElem?_map,Option.map_eq_some_iff] at hx
   obtain ⟨p,hp,rfl⟩:=hx
   exact (zkb hp).1
  cases hf:fol n 0 (ps.map (·.1)) with
  | false=>
   rw [hf,Bool.false_and] at q
   exact iteT (q H (Same.refl H))
  | true=>
   rw [hf,Bool.true_and] at q
   refine iteF ⟨_,rfl,r,_,rfl, .inl hq,_,_,_,ps.length,rfl,by rw [List.length_map,zoi];exact RgC.up (w:=2) (by decide) (by decide) (by omega),fun D hD=>zoo (n:=ps.length) (fun i H'=>H'=upd H D (.lst (((ps.take i).map fun p=>decide (p.2<128)).map V.bl))) rfl (fun H' e=>⟨Nat.le_refl _,?_⟩) fun i H' hi e=>⟨hi,fun v H2 y=>?_⟩⟩
   ·subst e
    refine ⟨D,_,rfl,SqL.of zaf,?_⟩
    rw [List.take_length,zty (l:=ps) (g:=fun p=>decide (p.2<128)) (fun _=>rfl)]
    exact q _ (Same.new hD)
   ·obtain ⟨rfl,rfl⟩:=y
    subst e
    have hx:ps[i]? = some ps[i]:=List.getElem?_eq_getElem hi
    refine ⟨rfl,?_⟩
    simp only [tYes,if_true]
    refine ⟨_,rfl,_,rfl,_,_,rfl,rfl,r,_,_,_,rfl,rfl,SqL.new hq hD,zjj (j:=i*2+1) (by simp) (iat (zkb hx).2),_,_,rfl,rfl,_,zaf,?_,?_⟩
    ·simp [sizeLine];omega
    ·rw [zc9,zbe hx,List.map_append,List.map_append];rfl
theorem zgz (tG:TG K mg) (d_are_ticks_right:Dn P w K mg base CX0 "are_ticks_right" ["row","width","n"] 1 (zno)) (d_is_order_right:Dn P w K mg base CX0 "is_order_right" ["coils","kind","place","length"] 1 (zBi cC)) (F:FnK K mg "are_orders_right" zb2) :
  Dn P w K mg base CX0 "are_orders_right" ["orders","n","coils"] 2 (zwg cC):=by
 refine F.dn sc_are_orders_right zgm (fun vs H Q E h=>?_) (fun f cdv A outer s H vs Q E hr h=>?_)
 ·obtain ⟨r,n,d,os,cs,rfl,_⟩:=h
  rfl
 ·obtain ⟨r,n,d,os,cs,rfl,hr0,hl,hd,hc,hk,q⟩:=h
  have hu:=za2 hr
  have hu64:=hr.units
  refine ⟨_,(zab (za5 (ze5 (zct (pe_d d_are_ticks_right hr zaz (zaa (pv 0) (zaa (zap tG.g_ORDER_WIDTH) (zaa (pv 1) zad)))))) (zac (zar zei)) zaq)
   (zab (zd3 PassesOwn.never rfl (zhv rfl tG.b_range (zaa zao (zaa (za7 zav (by rfl) tG.b_len zcs (zaa (pv 0) zad)) (zaa (zap tG.g_ORDER_WIDTH) zad)))) (zbp (i:=3) sc_are_orders_right.nd rfl (Or.inl rfl))
    (zac (za5 (ze5 (zct (pe_d d_is_order_right hr zaz (zaa (pv 2) (zaa (zdy zbu (pv 0) (zej ze4 (pv 3) zao) (fun _ _=>rfl)) (zaa (zdy zbu (pv 0) (zej ze4 (pv 3) zao) (fun _ _=>rfl)) (zaa (zdy zbu (pv 0) (zej ze4 (pv 3) zao) (fun _ _=>rfl)) zad))))))) (zac (zar zei)) zaq)))
   (zac (zar zei)))),?_⟩
  have hq:SqL K H r ((zjp os).map V.int):=SqL.of hr0
  refine ⟨_,rfl,_,rfl,r,4,n,zjp os,os.map (·.1),rfl,hr0,by decide,by decide,by simp;omega,by rw [zoj,List.length_map],fun i x hx=>?_,_,rfl,?_⟩
  ·rw [List.getElem?_map,Option.map_eq_some_iff] at hx
   obtain ⟨p,hp,rfl⟩:=hx
   exact (zkc hp).1
  cases hf:fol n 0 (os.map (·.1)) with
  | false=>
   rw [hf,Bool.false_and] at q
   exact iteT q
  | true=>
   rw [hf,Bool.true_and] at q
   refine iteF ⟨_,rfl,r,_,rfl, .inl hq,_,_,_,os.length,rfl,by rw [List.length_map,zoj];exact RgC.up (w:=4) (by decide) (by decide) (by omega),?_⟩
   generalize hg:(fun o:Int×Int×Int×Int=>ordR (cs.map (·.2.2)) o.2.1 o.2.2.1 o.2.2.2)=g at q
   refine zih (fun i σ H'=>H'=H∧(∃ y,σ=[some (.ref r),some (.int n),some (.ref d),y])∧os.all g=(os.drop i).all g) ⟨rfl,⟨none,rfl⟩,rfl⟩ (fun i σ H' hi hp=>?_) (fun σ H' hp=>?_)
   ·obtain ⟨rfl,⟨y,rfl⟩,ha⟩:=hp
    have hx:os[i]? = some os[i]:=List.getElem?_eq_getElem hi
    obtain ⟨g0,g1,g2,g3⟩:=zkc hx
    rw [List.drop_eq_getElem_cons hi,List.all_cons] at ha
    refine ⟨_,rfl,_,rfl,_,rfl,_,_,rfl,rfl,r,_,_,_,rfl,rfl,hq,zjj (j:=i*4+1) (by simp) (iat g1),_,rfl,_,rfl,_,_,rfl,rfl,r,_,_,_,rfl,rfl,hq,zjj (j:=i*4+2) (by simp) (iat g2),_,rfl,_,rfl,_,_,rfl,rfl,r,_,_,_,rfl,rfl,hq,zjj (j:=i*4+3) (by simp) (iat g3),?_⟩
    refine ⟨d,cs,_,_,_,rfl,hd,hc,hk _ (List.mem_of_getElem? hx),_,rfl,?_⟩
    have hgi:ordR (cs.map (·.2.2)) os[i].2.1 os[i].2.2.1 os[i].2.2.2=g os[i]:=by rw [← hg]
    rw [hgi]
    cases hgg:g os[i] with
    | false=>
     rw [ha,hgg,Bool.false_and] at q
     exact iteT q
    | true=>
     rw [hgg,Bool.true_and] at ha
     exact iteF ⟨rfl,⟨_,rfl⟩,ha⟩
   ·obtain ⟨rfl,⟨y,rfl⟩,ha⟩:=hp
    rw [ha,List.drop_length] at q
    exact q
end
end
section
abbrev GL:=List (Int×Addr×List (Addr×List Int))
def zdn (x:Int×Addr×List (Addr×List Int)):List (Addr×HO):=(x.2.1, .lst (x.2.2.map fun r=>.ref r.1)) :: x.2.2.map fun r=>(r.1, .lst (r.2.map V.int))
def gD (gs:GL):List (Key×V):=gs.map fun x=>(Sum.inl x.1, .ref x.2.1)
def gC (g:Addr) (gs:GL):List (Addr×HO):=(g, .dK (gD gs)) :: gs.flatMap zdn
abbrev RWs:=List (Int×List Int)
def zcr (rws:RWs):List Int:=rws.flatMap fun r=>r.1 :: r.2
structure GP (gs:GL) (rws:RWs):Prop where
 nd:(gs.map (·.1)).Nodup
 ro:∀ x∈gs,x.2.2.map (·.2)=(rws.filter fun r=>decide (r.1=x.1)).map (·.2)
 no:∀ t,t∉gs.map (·.1)→rws.filter (fun r=>decide (r.1=t))=[]
 le:gs.length≤rws.length
theorem GP.add {pre post:GL} {t:Int} {l r:Addr} {rs:List (Addr×List Int)} {rws:RWs} {tl:List Int} (nd:((pre++(t,l,rs) :: post).map (·.1)).Nodup)
  (ro:∀ x∈pre++(t,l,rs) :: post,x.2.2.map (·.2)=(rws.filter fun r=>decide (r.1=x.1)).map (·.2)) (no:∀ u,u∉(pre++(t,l,rs) :: post).map (·.1)→rws.filter (fun r=>decide (r.1=u))=[]) (le:(pre++(t,l,rs) :: post).length≤rws.length+1) :
  GP (pre++(t,l,rs++[(r,tl)]) :: post) (rws++[(t,tl)]):=by
 refine ⟨by simpa using nd,fun x hx=>?_,fun u hu=>?_,by simpa using le⟩
 ·rw [List.filter_append,List.map_append]
  have key:∀ y∈pre++(t,l,rs) :: post,y.1≠t→x=y→x.2.2.map (·.2)=(rws.filter fun r=>decide (r.1=x.1)).map (·.2)++([(t,tl)].filter fun r=>decide (r.1=x.1)).map (·.2):=by
   intro y hy hyt e
   subst e
   rw [ro x hy]
   have:¬t=x.1:=fun z=>hyt z.symm
   simp [this]
  rw [List.map_append,List.map_cons,List.nodup_append] at nd
  obtain ⟨n1,n2,n3⟩:=nd
  rw [List.nodup_cons] at n2
  rcases List.mem_append.mp hx with hx | hx
  ·exact key x (List.mem_append_left _ hx) (fun z=>n3 x.1 (List.mem_map_of_mem hx) t (by simp) z) rfl
  ·rcases List.mem_cons.mp hx with rfl | hx
   ·have:=ro (t,l,rs) (by simp)
    simp only at this ⊢
    rw [List.map_append,this]
    simp
   ·exact key x (List.mem_append_right _ (List.mem_cons_of_mem _ hx)) (fun z=>n2.1 (by show t∈post.map (·.1);rw [← z];exact List.mem_map.mpr ⟨x,hx,rfl⟩)) rfl
 ·rw [List.filter_append,no u (by simpa using hu)]
  have:¬t=u:=fun z=>hu (by simp [z])
  simp [this]
theorem zlq {w:Nat}:∀ {rws:RWs} (i:Nat),(∀ r∈rws,r.2.length+1=w)→(zcr rws).drop (i*w)=zcr (rws.drop i)
 | rws,0,_=>by simp
 | [],i+1,_=>by simp [zcr]
 | r :: t,i+1,h=>by
  have h1:=h r (by simp)
  have:zcr (r :: t)=(r.1 :: r.2)++zcr t:=rfl
  rw [this,List.drop_append]
  have e1:(i+1)*w-(r.1 :: r.2).length=i*w:=by simp [Nat.add_mul];omega
  have e2:(r.1 :: r.2).drop ((i+1)*w)=[]:=List.drop_eq_nil_iff.mpr (by simp [Nat.add_mul];omega)
  rw [e1,e2,zlq i (fun x hx=>h x (List.mem_cons_of_mem _ hx))]
  rfl
theorem zkd {w:Nat}:∀ {rws:RWs},(∀ r∈rws,r.2.length+1=w)→(zcr rws).length=rws.length*w
 | [],_=>by simp [zcr]
 | r :: t,h=>by
  have h1:=h r (by simp)
  have:=zkd (rws:=t) (fun x hx=>h x (List.mem_cons_of_mem _ hx))
  have e:zcr (r :: t)=(r.1 :: r.2)++zcr t:=rfl
  rw [e,List.length_append,this]
  simp [Nat.add_mul];omega
theorem zDb {w:Nat} {rws:RWs} {i:Nat} {r:Int×List Int} (h:∀ r∈rws,r.2.length+1=w) (hi:rws[i]? = some r):(zcr rws)[i*w]? = some r.1∧cutV ((zcr rws).map V.int) (some ((i*w+1:Nat):Int)) (some ((i*w+w:Nat):Int))=r.2.map V.int:=by
 have hr:=h r (List.mem_of_getElem? hi)
 have hil:i<rws.length:=(List.getElem?_eq_some_iff.mp hi).1
 have e:(zcr rws).drop (i*w)=(r.1 :: r.2)++zcr (rws.drop (i+1)):=by
  rw [zlq i h]
  have:rws.drop i=r :: rws.drop (i+1):=by
   rw [List.drop_eq_getElem_cons hil]
   congr 1
   rw [List.getElem?_eq_getElem hil] at hi
   exact Option.some.inj hi
  rw [this];rfl
 have hlen:=zkd h
 have hle:i*w+w≤rws.length*w:=by
  have:=Nat.mul_le_mul_right w hil
  rw [Nat.succ_mul] at this
  exact this
 constructor
 ·have:=congrArg (fun l=>l[0]?) e
  simpa using this
 ·unfold cutV
  rw [HT.sIx_nat,HT.sIx_nat,List.length_map,hlen,Nat.min_eq_left hle,Nat.min_eq_left (by omega),← List.map_drop,← List.map_take]
  congr 1
  have e2:(zcr rws).drop (i*w+1)=r.2++zcr (rws.drop (i+1)):=by
   rw [← List.drop_drop,e];rfl
  rw [e2,show i*w+w-(i*w+1)=r.2.length by omega,List.take_left']
  rfl
theorem zwt {gs:GL} {t:Int}:(valV (gD gs) (Sum.inl t)=none∧t∉gs.map (·.1))∨∃ pre l rs post,gs=pre++(t,l,rs) :: post∧valV (gD gs) (Sum.inl t)=some (.ref l):=by
 induction gs with
 | nil=>exact .inl ⟨rfl,by simp⟩
 | cons x r ih=>
  by_cases h:x.1=t
  ·subst h
   exact .inr ⟨[],x.2.1,x.2.2,r,rfl,zb4 (p:=(Sum.inl x.1,V.ref x.2.1)) rfl⟩
  ·have e:valV (gD (x :: r)) (Sum.inl t)=valV (gD r) (Sum.inl t):=zb3 (p:=(Sum.inl x.1,V.ref x.2.1)) (fun z=>h (Sum.inl.inj z))
   rcases ih with ⟨h1,h2⟩ | ⟨pre,l,rs,post,h1,h2⟩
   ·refine .inl ⟨e.trans h1,?_⟩
    simp only [List.map_cons,List.mem_cons,not_or]
    exact ⟨fun z=>h z.symm,h2⟩
   ·exact .inr ⟨x :: pre,l,rs,post,by rw [h1];rfl,e.trans h2⟩
section
variable {cW cF cT cC cK:Addr}
def znh:Sp:=fun vs H Q _=>E3 fun r w rws=>A7 (vs=[.ref r, .int (w:Nat)]) (H r=some (.lst ((zcr rws).map V.int))) (0<w) (w≤16) (rws.length≤4096) ((∀ x∈rws,x.2.length+1=w)) (∀ H' g gs,Same H H'→Cel H' (gC g gs)→ND (gC g gs)→(∀ c∈gC g gs,H c.1=none)→GP gs rws→Q (.ref g) H')
abbrev zfv:Stmt:=top 19
theorem sc_by_tick:zai ["row","width","groups","at"] ["row","width"] (zae zfv):=by walk_at "sc"
theorem zsq:zak zfv "by_tick" "by_tick" ["row","width"]:=fun _ _ _ _ _ _ us hl=>match us,hl with | [_,_],_=>rfl
theorem zs8 (tG:TG K mg) (F:FnK K mg "by_tick" zfv) :
  Dn P w K mg base CX0 "by_tick" ["row","width"] 1 (znh):=by
 refine F.dn sc_by_tick zsq (fun vs H Q E h=>?_) (fun f cdv A outer s H vs Q E hr h=>?_)
 ·obtain ⟨r,w,rws,rfl,_⟩:=h
  rfl
 ·obtain ⟨r,w,rws,rfl,hr0,hw,hw2,hl,hws,q⟩:=h
  have hu:=za2 hr
  have hu64:=hr.units
  refine ⟨_,(zab (zax (i:=2) sc_by_tick.nd rfl (Or.inl rfl) zr9)
   (zab (zd3 PassesOwn.never rfl (zhv rfl tG.b_range (zaa zao (zaa (za7 zav (by rfl) tG.b_len zcs (zaa (pv 0) zad)) (zaa (pv 1) zad)))) (zbp (i:=3) sc_by_tick.nd rfl (Or.inl rfl))
    (zac (zal (zte PySem.F.plainAttrs_list PySem.F.slot_list_append PySem.F.type_list_append zhk (ztf hu (pv 2) (zdy zbu (pv 0) (pv 3) (fun _ _=>rfl)) (zb5 zad) ⟨rfl,rfl,rfl,rfl⟩) (zaa (zhu znd (pv 0) (zfo (zej ze4 (pv 3) zao)) (zfo (zej ze4 (pv 3) (pv 1)))) zad)))))
   (zac (zar (pv 2))))),?_⟩
  intro g hg
  have hr1:Same H (upd H g (.dK [])):=Same.new hg
  have nfresh:∀ {H':Hp} {p:Addr},Same H H'→H' p=none→H p=none:=fun {H' p} k hp=>by
   cases z:H p with
   | none=>rfl
   | some o=>rw [k _ _ z] at hp;cases hp
  refine ⟨_,rfl,r,_,rfl, .inl (SqL.of (hr1 _ _ hr0)),_,rfl,_,_,_,rws.length,rfl,by rw [List.length_map,zkd hws];exact RgC.up hw hw2 (by omega),?_⟩
  refine zih (fun i σ H'=>(∃ y,σ=[some (.ref r),some (.int (w:Nat)),some (.ref g),y])∧Same H H'∧∃ gs,Cel H' (gC g gs)∧ND (gC g gs)∧(∀ c∈gC g gs,H c.1=none)∧GP gs (rws.take i)) ⟨⟨none,rfl⟩,hr1,[],fun c hc=>by rw [List.mem_singleton.mp hc];exact zaf,by simp [ND,gC],fun c hc=>by rw [List.mem_singleton.mp hc];exact hg,⟨List.nodup_nil,(fun x hx=>nomatch hx),(fun t _=>rfl),Nat.zero_le _⟩⟩ (fun i σ H' hi hp=>?_) (fun σ H' hp=>?_)
  ·obtain ⟨⟨y,rfl⟩,k1,gs,ce,nd,fr,gp⟩:=hp
   have hx:rws[i]? = some rws[i]:=List.getElem?_eq_getElem hi
   obtain ⟨hat,hcut⟩:=zDb hws hx
   generalize hrow:rws[i]=row at hx hat hcut
   have hq':SqL K H' r ((zcr rws).map V.int):=SqL.of (k1 _ _ hr0)
   have hz:(gD gs).length<sizeLine:=by have:=gp.le;have:=List.length_take_le i rws;simp [gD,sizeLine];omega
   have hix:atI ((zcr rws).map V.int) (0+(i:Nat)*(w:Nat))=some (.int row.1):=zjj (j:=i*w) (by simp) (iat hat)
   have go:∀ (H4:Hp) (pre post:GL) (l:Addr) (rs:List (Addr×List Int)),Same H H4→Cel H4 (gC g (pre++(row.1,l,rs) :: post))→ND (gC g (pre++(row.1,l,rs) :: post))→(∀ c∈gC g (pre++(row.1,l,rs) :: post),H c.1=none)→
     ((pre++(row.1,l,rs) :: post).map (·.1)).Nodup→(∀ x∈pre++(row.1,l,rs) :: post,x.2.2.map (·.2)=((rws.take i).filter fun r=>decide (r.1=x.1)).map (·.2))→(∀ u,u∉(pre++(row.1,l,rs) :: post).map (·.1)→(rws.take i).filter (fun r=>decide (r.1=u))=[])→(pre++(row.1,l,rs) :: post).length≤(rws.take i).length+1→
     tyV K "list" (.ref l) H4∧(zdk (tSl (rSlL K) (tVar 0) (zwp (tOp (rI0 fun i j=>.int (i+j)) (tVar 3) (tC (.int 1)))) (zwp (tOp (rI0 fun i j=>.int (i+j)) (tVar 3) (tVar 1)))) tNil) [some (.ref r),some (.int (w:Nat)),some (.ref g),some (.int (0+(i:Nat)*(w:Nat)))] H4 (fun xs H5=>zqr (.ref l) xs H5 fun _ H6=>(∃ y,[some (V.ref r),some (.int (w:Nat)),some (.ref g),some (.int (0+(i:Nat)*(w:Nat)))]=[some (.ref r),some (.int (w:Nat)),some (.ref g),y])∧Same H H6∧∃ gs,Cel H6 (gC g gs)∧ND (gC g gs)∧(∀ c∈gC g gs,H c.1=none)∧GP gs (rws.take (i+1))):=by
    intro H4 pre post l rs k4 ce nd fr n1 n2 n3 n4
    have hlc:H4 l=some (.lst (rs.map fun r=>.ref r.1)):=ce (l,_) (by simp [gC,zdn])
    refine ⟨.inl ⟨rfl,_,SqL.of hlc⟩,?_⟩
    refine ⟨_,rfl,_,rfl,_,_,rfl,rfl,_,rfl,_,rfl,_,rfl,_,_,rfl,rfl,_,rfl,r,_,rfl,SqL.of (k4 _ _ hr0),fun p hp=>?_⟩
    have e1:(0+(i:Int)*(w:Int)+1)=((i*w+1:Nat):Int):=by simp
    have e2:(0+(i:Int)*(w:Int)+(w:Int))=((i*w+w:Nat):Int):=by simp
    rw [e1,e2,hcut]
    have s1:gC g (pre++(row.1,l,rs) :: post)=((g, .dK (gD (pre++(row.1,l,rs) :: post))) :: pre.flatMap zdn++zdn (row.1,l,rs))++post.flatMap zdn:=by simp [gC]
    rw [s1] at ce nd
    have ce5:=Cel.add (o:=.lst (row.2.map V.int)) ce hp
    have nd5:=ND.add (o:=.lst (row.2.map V.int)) nd ce hp
    have k5:Same H (upd H4 p (.lst (row.2.map V.int))):=Same.trans k4 (Same.new hp)
    have hlp:l≠p:=zaj hlc hp
    refine ⟨l,_, .ref p,rfl,rfl,by rw [zag hlp];exact hlc,?_,⟨_,rfl⟩,?_,pre++(row.1,l,rs++[(p,row.2)]) :: post,?_⟩
    ·have h1:=congrArg List.length (n2 (row.1,l,rs) (by simp))
     have h2:=List.length_filter_le (fun r=>decide (r.1=row.1)) (rws.take i)
     simp only [List.length_map] at h1
     have h3:=List.length_take_le i rws
     simp [sizeLine]
     omega
    ·intro b o hb
     have:b≠l:=fun z=>by rw [z,fr (l, .lst (rs.map fun r=>.ref r.1)) (by simp [gC,zdn])] at hb;cases hb
     rw [zag this]
     exact k5 _ _ hb
    ·have s2:((g,HO.dK (gD (pre++(row.1,l,rs) :: post))) :: pre.flatMap zdn++zdn (row.1,l,rs))++(p, .lst (row.2.map V.int)) :: post.flatMap zdn=((g,HO.dK (gD (pre++(row.1,l,rs) :: post))) :: pre.flatMap zdn)++(l, .lst (rs.map fun r=>.ref r.1)) :: ((rs.map fun r=>(r.1,HO.lst (r.2.map V.int)))++(p, .lst (row.2.map V.int)) :: post.flatMap zdn):=by simp [zdn]
     rw [s2] at ce5 nd5
     have ce6:=Cel.put (o':=.lst ((rs.map fun r=>.ref r.1)++[.ref p])) ce5 nd5
     have nd6:=ND.put (o':=.lst ((rs.map fun r=>.ref r.1)++[.ref p])) nd5
     have s3:gC g (pre++(row.1,l,rs++[(p,row.2)]) :: post)=((g,HO.dK (gD (pre++(row.1,l,rs) :: post))) :: pre.flatMap zdn)++(l, .lst ((rs.map fun r=>.ref r.1)++[.ref p])) :: ((rs.map fun r=>(r.1,HO.lst (r.2.map V.int)))++(p, .lst (row.2.map V.int)) :: post.flatMap zdn):=by simp [gC,zdn,gD]
     rw [s3]
     refine ⟨ce6,nd6,fun c hc=>?_,?_⟩
     ·by_cases hcp:c.1=p
      ·rw [hcp];exact nfresh k4 hp
      ·by_cases hcl:c.1=l
       ·rw [hcl];exact fr (l, .lst (rs.map fun r=>.ref r.1)) (by simp [gC,zdn])
       ·have hc2:c∈gC g (pre++(row.1,l,rs) :: post):=by
         rw [s1]
         simp only [zdn,List.mem_append,List.mem_cons] at hc ⊢
         rcases hc with hc | hc | hc | hc | hc
         ·exact .inl (.inl hc)
         ·exact absurd (by rw [hc]) hcl
         ·exact .inl (.inr (.inr hc))
         ·exact absurd (by rw [hc]) hcp
         ·exact .inr hc
        exact fr c hc2
     ·rw [zbe hx]
      exact GP.add (r:=p) (tl:=row.2) n1 n2 n3 n4
   refine ⟨_,rfl,g,rfl, .inl ⟨_,Rd.of (ce _ (.head _))⟩,_,rfl,_,rfl,r,_,_,_,rfl,rfl,hq',hix,by decide,fun D hD=>?_⟩
   have hgD:g≠D:=zaj (ce _ (.head _)) hD
   have k3:Same H (upd H' D (.lst [])):=Same.trans k1 (Same.new hD)
   refine ⟨_,Sum.inl row.1,by rw [zag hgD];exact ce _ (.head _),rfl,hz,fun v hv=>?_,fun hv=>?_⟩
   ·rcases zwt (gs:=gs) (t:=row.1) with ⟨h1,_⟩ | ⟨pre,l,rs,post,h1,h2⟩
    ·rw [h1] at hv;cases hv
    ·rw [h2] at hv
     cases hv
     subst h1
     exact go _ pre post l rs k3 (ce.same (Same.new hD)) nd fr gp.nd gp.ro gp.no (Nat.le_succ_of_le gp.le)
   ·rcases zwt (gs:=gs) (t:=row.1) with ⟨h1,h2⟩ | ⟨pre,l,rs,post,h1,h2⟩
    ·rw [zm7 _ h1]
     have e1:gD gs++[(Sum.inl row.1,V.ref D)]=gD (gs++[(row.1,D,[])]):=by simp [gD]
     rw [e1]
     have ce3:=Cel.add (pre:=gC g gs) (post:=[]) (o:=.lst []) (by simpa using ce) hD
     have nd3:=ND.add (pre:=gC g gs) (post:=[]) (o:=.lst []) (by simpa using nd) (by simpa using ce) hD
     have s5:gC g gs++[(D,HO.lst [])]=[]++(g, .dK (gD gs)) :: (gs.flatMap zdn++[(D, .lst [])]):=rfl
     rw [s5] at ce3 nd3
     have ce4:=Cel.put (pre:=[]) (post:=gs.flatMap zdn++[(D, .lst [])]) (o:=.dK (gD gs)) (o':=.dK (gD (gs++[(row.1,D,[])]))) ce3 nd3
     have nd4:=ND.put (pre:=[]) (post:=gs.flatMap zdn++[(D, .lst [])]) (o:=.dK (gD gs)) (o':=.dK (gD (gs++[(row.1,D,[])]))) nd3
     have s4:gC g (gs++[(row.1,D,[])])=[]++(g, .dK (gD (gs++[(row.1,D,[])]))) :: (gs.flatMap zdn++[(D, .lst [])]):=by simp [gC,zdn]
     rw [← s4] at ce4 nd4
     refine go _ gs [] D [] (fun b o hb=>?_) ce4 nd4 (fun c hc=>?_) (by rw [List.map_append];exact zio gp.nd h2) (fun x hx=>?_) (fun u hu=>gp.no u (fun z=>hu (by simp at z ⊢;exact .inl z))) (by have:=gp.le;simp at this ⊢;omega)
     ·have:b≠g:=fun z=>by rw [z,fr (g, .dK (gD gs)) (.head _)] at hb;cases hb
      rw [zag this]
      exact k3 _ _ hb
     ·rw [s4] at hc
      rcases List.mem_cons.mp hc with rfl | hc
      ·exact fr (g, .dK (gD gs)) (.head _)
      ·rcases List.mem_append.mp hc with hc | hc
       ·exact fr c (List.mem_cons_of_mem _ hc)
       ·rw [List.mem_singleton.mp hc];exact nfresh k1 hD
     ·rcases List.mem_append.mp hx with hx | hx
      ·exact gp.ro x hx
      ·rw [List.mem_singleton.mp hx]
       simp [gp.no row.1 h2]
    ·rw [h2] at hv;cases hv
  ·obtain ⟨⟨y,rfl⟩,k1,gs,ce,nd,fr,gp⟩:=hp
   rw [List.take_length] at gp
   exact ⟨_,rfl,q H' g gs k1 ce nd fr gp⟩
end
end
section
theorem zjf {α β:Type} {g:α→β} {l m:List β} (h:l.Perm m):∀ {xs:List α},m=xs.map g→∃ ys:List α,ys.Perm xs∧l=ys.map g:=by
 induction h with
 | nil=>intro xs e;exact ⟨[],by cases xs<;>simp_all,rfl⟩
 | cons x _ ih=>
  intro xs e
  cases xs with
  | nil=>cases e
  | cons y r=>
   rw [List.map_cons] at e
   obtain ⟨e1,e2⟩:=List.cons.inj e
   obtain ⟨ys,h1,h2⟩:=ih e2
   exact ⟨y :: ys,h1.cons y,by rw [List.map_cons,← h2,e1]⟩
 | swap x y l=>
  intro xs e
  match xs,e with
  | a :: b :: r,e=>
   simp only [List.map_cons,List.cons.injEq] at e
   obtain ⟨e1,e2,e3⟩:=e
   exact ⟨b :: a :: r,List.Perm.swap a b r,by simp [e1,e2,e3]⟩
 | trans _ _ ih1 ih2=>
  intro xs e
  obtain ⟨ys,h1,h2⟩:=ih2 e
  obtain ⟨zs,h3,h4⟩:=ih1 h2
  exact ⟨zs,h3.trans h1,h4⟩
abbrev SX:=Addr×Int×Int
def kLt (a b:SX):Prop:=a.2.1<b.2.1∨(a.2.1=b.2.1∧a.2.2<b.2.2)
def ztv (sp:Sp) (H1:Hp) (x:SX):Prop:=∀ H',Same H1 H'→∀ Q':VK,(∀ p,H' p=none→Q' (.ref p) (upd H' p (.tup [.int x.2.1, .int x.2.2])))→sp [.ref x.1] H' Q' E0
def zDl (K:W.Frag) (sp:Sp) (te:TE):TE:=fun σ H Q=>te σ H fun x H1=>∃ l,∃ xs:List SX,[x]=[.ref l]∧SqL K H1 l (xs.map fun x=>.ref x.1)∧xs.length<64∧(∀ x∈xs,ztv sp H1 x)∧
 ∀ (D:Addr) (H':Hp) (ys:List SX),Same H1 H'→H' D=some (.lst (ys.map fun x=>.ref x.1))→ys.Perm xs→ys.Pairwise (fun a b=>¬kLt b a)→Q (.ref D) H'
def zzt (H:Hp) (t:Addr) (x:SX):Prop:=H t=some (.tup [.int x.2.1, .int x.2.2])
section
variable {X:Cx} {k:Nat} {f:Addr} {fd:FuncData} {ps:List Str} {sp:Sp} {pins:List (Addr×Obj)} {σ:St}
open PyProof.Rows
theorem zxs (F:FnOk X.prog X.w X.K X.mg X.base CX0 k f fd ps sp) (hr:Room (k+2) X.A) (hb:Binds X.K fd ps []) {H1 H:Hp} {s:Shared} {x:SX} (I:L2.Inv X pins σ H s) (hx:ztv sp H1 x) (hs:Same H1 H) {Q:VK} (q:∀ p,H p=none→Q (.ref p) (upd H p (.tup [.int x.2.1, .int x.2.2]))) {E:Value→Shared→Prop} :
  wpAny (model X.prog X.w) X.A.in1.in1 (call (.ref f) [.ref x.1]) (EP X pins σ Q) E s:=by
 have h:=hx H hs Q q
 have hl:([Value.ref x.1]++[]).length=ps.length:=by
  have:=F.len _ _ _ _ h
  simpa using this
 have r2:Vals [V.ref x.1] [Value.ref x.1]:=.cons rfl .nil
 refine wpAny_call (codeAny_mono (F.run X.A.in1.in1 X.stack s H ⟨[.ref x.1],[]⟩ ([Value.ref x.1]++[]) [V.ref x.1] Q E0 hr.in1.in1 I.env0.in1.in1 (hb s [.ref x.1] I.kIn hl) (by simpa using r2) h) fun r s' hq=>?_)
 cases r with
 | error e=>exact False.elim hq
 | ok fl=>
  cases fl with
  | ret u=>exact I.after hq
  | next=>exact False.elim hq
  | brk=>exact False.elim hq
  | cont=>exact False.elim hq
theorem zyt {s:Shared} {H:Hp} {D kS:Addr} {od:Obj} {e1:Nat} {ts:List (Addr×SX)} {P:PySem.Fin→Shared→Prop} {A:Around} {E:Value→Shared→Prop} (I:L2.Inv X pins σ H s) (hn:∀ o' u',X.H_0 D≠some (.frz o' u')) (hD:H D=some (.frz od (.lst []))) (he:od=seqObj "list" #[] e1)
  (hk:H kS=some (.lst (ts.map fun t=>.ref t.1))) (ht:∀ t∈ts,zzt H t.1 t.2) (h64:ts.length<64)
  (h:∀ ys:List (Addr×SX),ys.Perm ts→ys.Pairwise (fun a b=>¬kLt b.2 a.2)→∀ s',L2.Inv X pins σ (upd (upd H kS (.lst [])) D (.lst (ys.map fun t=>.ref t.2.1))) s'→P (.done (.ret .none)) s') :
  wpAny (model X.prog X.w) A (ksk_end D false (ts.map fun t=>Value.ref t.2.1).toArray e1 (.ref kS) (ts.map fun t=>Value.ref t.1).toArray) P E s:=by
 have hks:kS≠D:=fun z=>by rw [z,hD] at hk;cases hk
 have z64:(64:Nat)≤sizeLine:=by rw [sizeLine_eq];decide
 have keyAt:∀ t∈ts,∃ o xs n,s.heap.get? t.1=some o∧o.cls = .type "tuple"∧o.data = .seq xs n∧∃ t1 t2,xs = #[Value.int t.2.2.1 t1,Value.int t.2.2.2 t2]:=by
  intro t h1
  obtain ⟨its,r,⟨o,ho,hc,n,hd⟩,_⟩:=I.tuple (SqT.of (K:=X.K) (ht t h1))
  cases r with
  | cons r1 r=>
   cases r with
   | cons r2 r=>
    cases r
    obtain ⟨t1,e1⟩:=r1
    obtain ⟨t2,e2⟩:=r2
    subst e1 e2
    exact ⟨o,_,n,ho,hc,hd,t1,t2,rfl⟩
 let κ:=G.tupKindC s.heap (fun _=>false)
 have keyOf:∀ t∈ts,κ.keyOf (.ref t.1)=some [Sum.inl t.2.2.1,Sum.inl t.2.2.2]:=by
  intro t h1
  obtain ⟨o,xs,n,ho,hc,hd,t1,t2,rfl⟩:=keyAt t h1
  exact G.tupKeyC_of ho hc hd rfl
 have tail:∀ st:SortSt,(arrOf st).toList.Perm (ts.map fun t=>((Value.ref t.1,Value.ref t.2.1):Keyed))→SortedToK κ (arrOf st) ts.length→failedOf st=none→wpAny (model X.prog X.w) A (ksk_tail D false e1 (.ref kS) st) P E s:=by
  intro st hp hst hf
  obtain ⟨ys,hy1,hy2⟩:=zjf hp rfl
  obtain ⟨_,its,n,r1,_,e2⟩:=I.lstM hk
  have hits:its.length<64:=by have:=r1.length;simp at this;omega
  have hsn:(arrOf st).map (·.2)=(ys.map fun t=>Value.ref t.2.1).toArray:=by
   apply Array.ext'
   rw [Array.toList_map,hy2,List.map_map]
   rfl
  have I2:=I.lset (t':=s.toks) (ys:=[]) (its':=[]) (f:=fun _=>#[]) hk e2 rfl .nil (Nat.zero_le _)
  have hD2:(upd H kS (.lst [])) D=some (.frz od (.lst [])):=by rw [zag hks.symm];exact hD
  obtain ⟨hod,_⟩:=I2.hok D _ hD2
  have I3:=I2.unlock hD2 hn
  unfold ksk_tail
  try dsimp only
  refine wpAny_bind (listUpdate_at e2 rfl ?_ (by simp;omega) (Nat.zero_le _))
  refine wpAny_bind (wpAny_letGo ?_)
  rw [he] at hod
  refine wpAny_bind (seqEpoch_at hod rfl ?_)
  have hlen:ys.length<64:=by have:=hy1.length_eq;omega
  refine wpAny_bind (listUpdate_at hod rfl ?_ (by simp) (by rw [hsn];simp;omega))
  rw [hf]
  simp only [bne_self_eq_false,Bool.false_eq_true,if_false]
  have I4:=I3.lset (t':=s.toks) (l:=D) (xs:=[]) (its:=[]) (n:=e1) (ys:=ys.map fun t=>.ref t.2.1) (its':=ys.map fun t=>Value.ref t.2.1) (f:=fun _=>(arrOf st).map (·.2)) (by rw [zaf]) hod hsn (by
   clear hy1 hy2 hsn hlen
   induction ys with
   | nil=>exact .nil
   | cons a b ih=>exact .cons rfl ih) (by simp;omega)
  rw [zc9] at I4
  refine wpAny_pure (h ys hy1 ?_ _ I4)
  have hsz:(arrOf st).size=ys.length:=by
   have:=congrArg List.length hy2
   simpa using this
  rw [List.pairwise_iff_getElem]
  intro i j hi hj hij
  have kk:∀ (m:Nat) (hm:m<ys.length),KK κ (arrOf st) m=[Sum.inl ys[m].2.2.1,Sum.inl ys[m].2.2.2]:=by
   intro m hm
   have e:(arrOf st)[m]? = some (Value.ref ys[m].1,Value.ref ys[m].2.1):=by
    rw [← Array.getElem?_toList,hy2]
    simp [hm]
   unfold KK
   rw [e]
   show (κ.keyOf (Value.ref ys[m].1)).getD κ.dflt=_
   rw [keyOf _ (hy1.subset (List.getElem_mem hm))]
   rfl
  have hle:=hst i j (Nat.le_of_lt hij) (by have:=hy1.length_eq;omega)
  rw [kk i hi,kk j hj] at hle
  intro hlt
  have hb:κ.blt [Sum.inl ys[j].2.2.1,Sum.inl ys[j].2.2.2] [Sum.inl ys[i].2.2.1,Sum.inl ys[i].2.2.2]=true:=by
   show PyProof.Rows.lexLt itemOrd _ _=true
   unfold kLt at hlt
   simp only [PyProof.Rows.lexLt,itemOrd,itemLt]
   rcases hlt with hlt | ⟨h1,h2⟩
   ·simp [hlt]
   ·simp [h1,h2]
  have hle:κ.blt [Sum.inl ys[j].2.2.1,Sum.inl ys[j].2.2.2] [Sum.inl ys[i].2.2.1,Sum.inl ys[i].2.2.2]=false:=hle
  rw [hb] at hle
  cases hle
 have hz:((ts.map fun t=>Value.ref t.1).toArray.zip (ts.map fun t=>Value.ref t.2.1).toArray).toList=ts.map fun t=>((Value.ref t.1,Value.ref t.2.1):Keyed):=by
  rw [Array.toList_zip]
  simp [List.zip_map']
 unfold ksk_end
 try dsimp only
 simp only [Bool.false_eq_true,if_false]
 by_cases h2:(ts.map fun t=>Value.ref t.2.1).toArray.size<2
 ·rw [if_pos h2,if_pos h2]
  refine wpAny_bind (wpAny_pure ?_)
  rw [StateT.run_pure]
  refine wpAny_bind (wpAny_pure ?_)
  try dsimp only
  refine tail (SortSt.mk' general' ((ts.map fun t=>Value.ref t.1).toArray.zip (ts.map fun t=>Value.ref t.2.1).toArray) #[] 7 none) (by rw [show arrOf (SortSt.mk' general' ((ts.map fun t=>Value.ref t.1).toArray.zip (ts.map fun t=>Value.ref t.2.1).toArray) #[] 7 none)=(ts.map fun t=>Value.ref t.1).toArray.zip (ts.map fun t=>Value.ref t.2.1).toArray from rfl,hz]) ?_ rfl
  intro i j hij hj
  have:i=j:=by simp at h2;omega
  subst this
  exact KeyOrd.kle_refl _
 ·rw [if_neg h2,if_neg h2]
  have hTups:TupsOf s.heap (fun _=>false) (ts.map fun t=>Value.ref t.1) (ts.map fun t=>((s.heap.get? t.1).bind fun o=>match o.data with | .seq xs _=>xs[0]? | _=>none).getD .none):=by
   have key:=keyAt
   clear tail keyOf keyAt hz h2 h hk ht h64
   induction ts with
   | nil=>exact .nil
   | cons t r ih=>
    refine .cons ?_ (ih (fun x hx=>key x (List.mem_cons_of_mem _ hx)))
    obtain ⟨o,xs,n,ho,hc,hd,t1,t2,rfl⟩:=key t (by simp)
    refine ⟨t.1,o,_,n,rfl,ho,hc,hd,?_,fun _=>⟨t.2.2.1,t1,?_⟩,fun z=>nomatch z⟩
    ·show _=some (((s.heap.get? t.1).bind _).getD _)
     rw [ho];simp [hd]
    ·show ((s.heap.get? t.1).bind _).getD _=_
     rw [ho];simp [hd]
  have hne:0<(ts.map fun t=>((s.heap.get? t.1).bind fun o=>match o.data with | .seq xs _=>xs[0]? | _=>none).getD .none).length:=by simp at h2 ⊢;omega
  refine wpAny_bind (tup_kind hne hTups ?_)
  refine wpAny_bind (wpAny_mono (G.wpS_sortRunsSt (κ:=κ) (kd:=tuples' true) (a₀:=(ts.map fun (t:Addr×SX)=>Value.ref t.1).toArray.zip (ts.map fun (t:Addr×SX)=>Value.ref t.2.1).toArray) (st:=SortSt.mk' (tuples' true) ((ts.map fun (t:Addr×SX)=>Value.ref t.1).toArray.zip (ts.map fun (t:Addr×SX)=>Value.ref t.2.1).toArray) #[] 7 none)
   (Q:=fun _ st'=>(arrOf st').Perm ((ts.map fun (t:Addr×SX)=>Value.ref t.1).toArray.zip (ts.map fun (t:Addr×SX)=>Value.ref t.2.1).toArray)∧failedOf st'=none∧SortedToK κ (arrOf st') ((ts.map fun (t:Addr×SX)=>Value.ref t.1).toArray.zip (ts.map fun (t:Addr×SX)=>Value.ref t.2.1).toArray).size)
   (G.tupC_ltAt true (G.KeepsTups.refl _)) ?_ ⟨Array.Perm.refl _,rfl,rfl⟩ rfl (Stable.refl _) (by simp at h2 ⊢;omega) fun st' a1 a2 a3 a4=>⟨a1,a2,a3⟩) ?_ fun _ _ e=>e)
  ·intro p hp
   rw [hz] at hp
   obtain ⟨t,h1,rfl⟩:=List.mem_map.mp hp
   exact ⟨_,keyOf t h1⟩
  ·rintro ⟨⟨⟩,st'⟩ s' ⟨rfl,hp,hf,hs⟩
   try dsimp only
   refine tail st' (by rw [← hz];exact Array.perm_iff_toList_perm.mp hp) (by simpa using hs) hf
end
end
section
section
variable {X:Cx} {k:Nat} {f:Addr} {fd:FuncData} {ps:List Str} {sp:Sp} {pins:List (Addr×Obj)} {σ:St}
open PyProof.Rows
theorem zpm (xs:List SX):Vals (xs.map fun x=>V.ref x.1) (xs.map fun x=>Value.ref x.1):=by
 induction xs with
 | nil=>exact .nil
 | cons a b ih=>exact .cons rfl ih
theorem zvw:∀ {xs:List SX} {its:List Value},Vals (xs.map fun x=>V.ref x.1) its→its=xs.map fun x=>Value.ref x.1
 | [],_, .nil=>rfl
 | x :: r,_, .cons h t=>by
  rw [List.map_cons,zvw t]
  cases h
  rfl
theorem zsf:∀ {xs:List (Addr×SX)} {its:List Value},Vals (xs.map fun x=>V.ref x.1) its→its=xs.map fun x=>Value.ref x.1
 | [],_, .nil=>rfl
 | x :: r,_, .cons h t=>by
  rw [List.map_cons,zsf t]
  cases h
  rfl
theorem zv8 (F:FnOk X.prog X.w X.K X.mg X.base CX0 k f fd ps sp) (hr:Room (k+2) X.A) (hb:Binds X.K fd ps []) {H1 H:Hp} {s:Shared} {D kS:Addr} {od:Obj} {e1:Nat} {xs:List SX} {P:PySem.Fin→Shared→Prop} {E:Value→Shared→Prop} (I:L2.Inv X pins σ H s) (hn:∀ o' u',X.H_0 D≠some (.frz o' u'))
  (hD:H D=some (.frz od (.lst []))) (he:od=seqObj "list" #[] e1) (hk:H kS=some (.lst [])) (h1k:H1 kS=none) (h1D:H1 D=none) (hs:Same H1 H) (hx:∀ x∈xs,ztv sp H1 x) (h64:xs.length<64)
  (h:∀ (H':Hp) (s':Shared) (ys:List SX),Same H1 H'→H' D=some (.lst (ys.map fun x=>.ref x.1))→ys.Perm xs→ys.Pairwise (fun a b=>¬kLt b a)→L2.Inv X pins σ H' s'→P (.done (.ret .none)) s') :
  wpAny (model X.prog X.w) X.A.in1.in1 (ksk_rest D (.ref f) false (xs.map fun x=>Value.ref x.1).toArray e1 (.ref kS)) P E s:=by
 have hks:kS≠D:=fun z=>by rw [z,hD] at hk;cases hk
 unfold ksk_rest
 refine wpAny_bind (wpAny_rule ?_)
 first
  | rw [List.forIn_toArray]
  | (rw [← Array.forIn_toList];simp only [List.toList_toArray])
  | rw [← Array.forIn_toList]
 refine wpAny_bind (ksk_fold (fun i s'=>∃ (H':Hp) (ts:List (Addr×SX)),L2.Inv X pins σ H' s'∧Same H1 H'∧H' D=some (.frz od (.lst []))∧H' kS=some (.lst (ts.map fun t=>.ref t.1))∧(∀ t∈ts,zzt H' t.1 t.2)∧ts.map (·.2)=xs.take i) (xs.map fun x=>Value.ref x.1) 0 s
  ⟨H,[],I,hs,hD,hk,(fun t ht=>nomatch ht),by simp⟩ ?step ?done)
 case step=>
  rintro j v s' hv ⟨H',ts,I',hs',hD',hk',ht',hts⟩
  simp only [Nat.zero_add] at hts ⊢
  rw [List.getElem?_map,Option.map_eq_some_iff] at hv
  obtain ⟨x,hxj,rfl⟩:=hv
  have hlen:ts.length≤xs.length:=by
   have:=congrArg List.length hts
   simp at this
   omega
  refine wpAny_bind (wpAny_attempt (wpAny_mono (zxs F hr hb (Q:=fun v H2=>∃ p,v = .ref p∧H' p=none∧H2=upd H' p (.tup [.int x.2.1, .int x.2.2])) I' (hx x (List.mem_of_getElem? hxj)) hs' (fun p hp=>⟨p,rfl,hp,rfl⟩) (E:=fun _ _=>False)) (fun v s'' he=>?_) fun _ _ hF=>hF.elim))
  obtain ⟨v2,H2,I2,r2,p,rfl,hp,rfl⟩:=he
  obtain rfl:v=Value.ref p:=r2
  try dsimp only
  have hkp:kS≠p:=zaj hk' hp
  have hDp:D≠p:=zaj hD' hp
  have hk2:upd H' p (.tup [.int x.2.1, .int x.2.2]) kS=some (.lst (ts.map fun t=>.ref t.1)):=by rw [zag hkp];exact hk'
  obtain ⟨_,its,n,r1,_,e2⟩:=I2.lstM hk2
  have hits:its.length<64:=by have:=r1.length;simp at this;omega
  have I3:=I2.lset (t':=s''.toks) (ys:=(ts++[(p,x)]).map fun t=>.ref t.1) (its':=its++[.ref p]) (f:=fun a=>a.push (.ref p)) hk2 e2 (by simp) (by rw [List.map_append];exact r1.append (.cons rfl .nil)) (by rw [sizeLine_eq];simp;omega)
  refine wpAny_bind (listUpdate_at e2 rfl ?_ (by rw [sizeLine_eq];simp;omega) (by rw [sizeLine_eq];simp;omega))
  refine wpAny_pure ⟨rfl,_,ts++[(p,x)],I3,fun b o hbo=>?_,?_,zaf,fun t ht=>?_,?_⟩
  ·have hb1:b≠kS:=fun z=>by rw [z,h1k] at hbo;cases hbo
   rw [zag hb1]
   exact Same.trans hs' (Same.new hp) _ _ hbo
  ·rw [zag hks.symm,zag hDp];exact hD'
  ·show (upd (upd H' p _) kS _) t.1=_
   rcases List.mem_append.mp ht with ht | ht
   ·have h3:=ht' t ht
    have n1:t.1≠kS:=fun z=>by unfold zzt at h3;rw [z,hk'] at h3;cases h3
    rw [zag n1,zag (zaj h3 hp)]
    exact h3
   ·rw [List.mem_singleton.mp ht,zag hkp.symm,zaf]
  ·rw [List.map_append,hts,List.take_add_one,hxj];simp
 case done=>
  rintro s' ⟨H',ts,I',hs',hD',hk',ht',hts⟩
  have hts:ts.map (·.2)=xs:=by
   rw [hts,List.take_of_length_le (by simp)]
  obtain ⟨hzz,its,n,r1,hzy,e2⟩:=I'.lstM hk'
  have hits:its=ts.map fun t=>Value.ref t.1:=zsf r1
  subst hits
  try dsimp only
  refine wpAny_bind (listItems_at e2 rfl ?_)
  have hl:ts.length=xs.length:=by rw [← hts];simp
  have hxv:(xs.map fun x=>Value.ref x.1)=ts.map fun t=>Value.ref t.2.1:=by rw [← hts,List.map_map];rfl
  rw [hxv]
  refine zyt I' hn hD' he hk' ht' (by omega) fun ys hy1 hy2 s2 I2=>h _ s2 (ys.map (·.2)) (fun b o hbo=>?_) ?_ ?_ ?_ I2
  ·have hb1:b≠kS:=fun z=>by rw [z,h1k] at hbo;cases hbo
   have hb2:b≠D:=fun z=>by rw [z,h1D] at hbo;cases hbo
   rw [zag hb2,zag hb1]
   exact hs' _ _ hbo
  ·rw [zaf,List.map_map];rfl
  ·rw [← hts];exact hy1.map _
  ·rw [List.pairwise_map];exact hy2
abbrev cpM (h:Heap) (vs:List Value):Heap:=(h.push (seqObj "list" #[] 0)).update h.objs.size (Obj.mapSeq (· ++ vs.toArray))
theorem zB9 (h:Heap) (vs:List Value):(cpM h vs).objs.size=h.objs.size+1∧∀ b o,h.get? b=some o→(cpM h vs).get? b=some o:=
 ⟨(Heap.size_update ..).trans (size_push' ..),fun b o q=>(Heap.get?_update_other _ _ (Ne.symm (Nat.ne_of_lt (Heap.lt_size q)))).trans (Heap.get?_push_of_some _ q)⟩
theorem ztm (F:FnOk X.prog X.w X.K X.mg X.base CX0 k f fd ps sp) (hr:Room (k+2) X.A) (hb:Binds X.K fd ps []) {H1:Hp} {s:Shared} {l:Addr} {xs:List SX} {Q:VK} {E:Value→Shared→Prop} (I:L2.Inv X pins σ H1 s) (hl:SqL X.K H1 l (xs.map fun x=>.ref x.1)) (hx:∀ x∈xs,ztv sp H1 x) (h64:xs.length<64)
  (h:∀ (D:Addr) (H':Hp) (ys:List SX),Same H1 H'→H' D=some (.lst (ys.map fun x=>.ref x.1))→ys.Perm xs→ys.Pairwise (fun a b=>¬kLt b a)→Q (.ref D) H') :
  wpAny (model X.prog X.w) X.A (call (.builtin "sorted") [.ref l] [(Str.ofString "key", .ref f)]) (EP X pins σ Q) E s:=by
 obtain ⟨its,rv,hpl,_⟩:=I.list hl
 have hits:=zvw rv
 subst hits
 have hsz64:(xs.map fun x=>Value.ref x.1).length<64:=by simpa using h64
 refine call_function_entry_kw kind_sorted plain_sorted entry_sorted (ksk_s1 _ _) ?_
 unfold Builtin.«sorted»
 refine wpAny_bind (m:=checkCount "sorted" 1 1 _) (wpAny_pure ?_)
 refine wpAny_bind (collect_list hpl.isList ?_ (by rw [sizeLine_eq];omega))
 refine wpAny_bind (wpAny_newList ?_ (by rw [sizeLine_eq];omega))
 generalize hvs:(xs.map fun x=>Value.ref x.1)=vs at hsz64
 obtain ⟨hsz,km⟩:=zB9 s.heap vs
 have hoL:=Heap.get?_push_size (cpM s.heap vs) (o:=seqObj "list" vs.toArray 0) rfl
 rw [hsz] at hoL
 have keep:∀ b o,s.heap.get? b=some o→((cpM s.heap vs).push (seqObj "list" vs.toArray 0)).get? b=some o:=fun b o q=>Heap.get?_push_of_some _ (km b o q)
 show wpAny _ _ _ _ _ { s with heap:=(cpM s.heap vs).push (seqObj "list" vs.toArray 0) }
 rw [hsz]
 have zz:(64:Nat)≤sizeLine:=by rw [sizeLine_eq];decide
 have I1:=I.laid (t':=s.toks) (a:=s.heap.objs.size+1) (o:=.lst (xs.map fun x=>.ref x.1)) keep (Nat.le_succ _) ⟨by simp;omega,vs,0,by rw [← hvs];exact zpm xs,hoL⟩
 have hn1:H1 (s.heap.objs.size+1)=none:=I.hok.fresh (Nat.le_succ _)
 generalize s.heap.objs.size+1=D at hoL I1 hn1 ⊢
 generalize hs1:({ s with heap:=(cpM s.heap vs).push (seqObj "list" vs.toArray 0) }:Shared)=s1
 have hs1':s1={ s with heap:=(cpM s.heap vs).push (seqObj "list" vs.toArray 0),toks:=s.toks }:=by rw [← hs1]
 rw [← hs1'] at I1
 have hoL:s1.heap.get? D=some (seqObj "list" vs.toArray 0):=by rw [← hs1];exact hoL
 refine wpAny_bind (wpAny_holding (wpAny_call_entry_kw slot_list_sort ⟨_,hoL,rfl⟩ entry_list_sort ?body (ksk_l1 _ _)))
 case body=>
  show wpAny (model X.prog X.w) X.A.in1.in1 (Builtin.«list.sort» ⟨[.ref D],[(Str.ofString "key", .ref f)]⟩) _ _ _
  rw [ksk_t1]
  unfold ksk_tree
  refine wpAny_bind (listItems_at hoL rfl ?_)
  refine wpAny_bind (listUpdate_at hoL rfl ?_ (by simp;omega) (Nat.zero_le _))
  obtain ⟨e1,ho1⟩ : ∃ e1,(s1.heap.update D (Obj.mapSeq fun _=>(#[]:Array Value))).get? D=some (seqObj "list" #[] e1):=⟨_,get?_update_seq hoL fun _=>#[]⟩
  have I2:=I1.lset (t':=s1.toks) (l:=D) (ys:=[]) (its':=[]) (f:=fun _=>#[]) (by rw [zaf]) hoL rfl .nil (Nat.zero_le _)
  rw [zc9] at I2
  refine wpAny_bind (seqEpoch_at ho1 rfl ?_)
  generalize hs2:({ s1 with heap:=s1.heap.update D (Obj.mapSeq fun _=>(#[]:Array Value)) }:Shared)=s2
  have hs2':s2={ s1 with heap:=s1.heap.update D (Obj.mapSeq fun _=>(#[]:Array Value)),toks:=s1.toks }:=by rw [← hs2]
  rw [← hs2'] at I2
  have ho2:s2.heap.get? D=some (seqObj "list" #[] e1):=by rw [← hs2];exact ho1
  refine wpAny_bind (wpAny_newTuple ?_ (by simp;omega))
  have I3:=I2.laid (t':=s2.toks) (a:=s2.heap.objs.size) (o:=.tup (xs.map fun x=>.ref x.1)) (h':=s2.heap.push { cls:=.type "tuple",data:=.seq vs.toArray }) (fun b u q=>Heap.get?_push_of_some _ q) (Nat.le_refl _) ⟨by simp;omega,vs,by rw [← hvs];exact zpm xs,IsTup.new _ _⟩
  have hn2:upd H1 D (.lst []) s2.heap.objs.size=none:=I2.hok.fresh (Nat.le_refl _)
  have hDt:D≠s2.heap.objs.size:=zaj zaf hn2
  generalize hs3:({ s2 with heap:=s2.heap.push { cls:=.type "tuple",data:=.seq vs.toArray } }:Shared)=s3
  have hs3':s3={ s2 with heap:=s2.heap.push { cls:=.type "tuple",data:=.seq vs.toArray },toks:=s2.toks }:=by rw [← hs3]
  rw [← hs3'] at I3
  have ho3:s3.heap.get? D=some (seqObj "list" #[] e1):=by rw [← hs3];exact Heap.get?_push_of_some _ ho2
  generalize s2.heap.objs.size=tH at I3 hn2 hDt ⊢
  refine wpAny_bind (wpAny_newList ?_ (Nat.zero_le _))
  have I4:=I3.lnew (t':=s3.toks) (ys:=[]) (its:=[]) .nil (Nat.zero_le _)
  have hn3:upd (upd H1 D (.lst [])) tH (.tup (xs.map fun x=>.ref x.1)) s3.heap.objs.size=none:=I3.hok.fresh (Nat.le_refl _)
  generalize hs4:({ s3 with heap:=s3.heap.push { cls:=.type "list",data:=.seq (List.toArray []) } }:Shared)=s4
  have hs4':s4={ s3 with heap:=s3.heap.push { cls:=.type "list",data:=.seq (List.toArray []) },toks:=s3.toks }:=by rw [← hs4]
  rw [← hs4'] at I4
  have ho4:s4.heap.get? D=some (seqObj "list" #[] e1):=by rw [← hs4];exact Heap.get?_push_of_some _ ho3
  generalize s3.heap.objs.size=kS at I4 hn3 ⊢
  have hkD:kS≠D:=fun z=>by rw [z,zag hDt,zaf] at hn3;cases hn3
  have hkt:kS≠tH:=fun z=>by rw [z,zaf] at hn3;cases hn3
  have hk1:H1 kS=none:=by rw [zag hkt,zag hkD] at hn3;exact hn3
  have ht1:H1 tH=none:=by rw [zag hDt.symm] at hn2;exact hn2
  have hD4:upd (upd (upd H1 D (.lst [])) tH (.tup (xs.map fun x=>.ref x.1))) kS (.lst []) D=some (.lst []):=by rw [zag hkD.symm,zag hDt,zaf]
  obtain ⟨od,I5⟩:=I4.lock hD4 True.intro
  have hnf:=I4.nofrz hD4 True.intro
  have hod:od=seqObj "list" #[] e1:=by
   obtain ⟨hh,_⟩:=I5.hok D _ zaf
   rw [ho4] at hh
   exact (Option.some.inj hh).symm
  refine wpAny_holding ?_
  rw [← hvs]
  refine zv8 F hr hb (H1:=H1) I5 hnf zaf hod (by rw [zag hkD,zaf]) hk1 hn1 (fun b o hbo=>?_) hx h64 fun H' s' ys k1 k2 k3 k4 I'=>⟨_,rfl,wpAny_pure ⟨_,rfl, .ref D,H',I',rfl,h D H' ys k1 k2 k3 k4⟩⟩
  have b1:b≠D:=fun z=>by rw [z,hn1] at hbo;cases hbo
  have b2:b≠kS:=fun z=>by rw [z,hk1] at hbo;cases hbo
  have b3:b≠tH:=fun z=>by rw [z,ht1] at hbo;cases hbo
  rw [zag b1,zag b2,zag b3,zag b1]
  exact hbo
theorem zye {j:Nat} {x:Str} {e:Expr} {te:TE} {p p2 kp pos:Pos} (D:Dn X.prog X.w X.K X.mg X.base CX0 x ps k sp) (hr:Room j X.A) (he:PE X e te) (hm:X.mg "sorted"=none) (hj:k+2≤j:=by decide) (hg:Gl X "sorted":=by rfl) (hgx:Gl X x:=by rfl) (hdx:(x == ("__debug__" : Str))=false:=by decide)
  (hs:starEach [e] X.env=(false,eval e X.env) :: starEach [] X.env:=by rfl) (h1:backTo pos (starEach [e] X.env)=(false,eval e X.env) :: backTo pos (starEach [] X.env):=by rfl) (h2:(backTo pos (starEach [e] X.env)).any (·.1)=false:=by rfl)
  (h3:(backToKw pos (keywordEach [⟨some "key", .Name x p2,kp⟩] X.env)).all (·.1.isSome)=true:=by rfl) (h4:(backToKw pos (keywordEach [⟨some "key", .Name x p2,kp⟩] X.env)).any (·.1.isNone)=false:=by rfl) (h5:(backToKw pos (keywordEach [⟨some "key", .Name x p2,kp⟩] X.env)).filterMap (·.1)=[("key" : Str)]:=by rfl) :
  PE X (.Call (.Name "sorted" p) [e] [⟨some "key", .Name x p2,kp⟩] pos) (zDl X.K sp te):=by
 obtain ⟨f,fd,F,hmx,_,b⟩:=D.ex
 intro pins s σ H Q I h
 refine wpAny_Call_Name_kw (zkf I hg hm zt8 ?_ (by decide) (by decide))
 refine callWith_kw (thn ((zaa he zad hs) pos pins s σ H (fun vs H1=>∃ l,∃ xs:List SX,vs=[.ref l]∧SqL X.K H1 l (xs.map fun x=>.ref x.1)∧xs.length<64∧(∀ x∈xs,ztv sp H1 x)∧
  ∀ (D:Addr) (H':Hp) (ys:List SX),Same H1 H'→H' D=some (.lst (ys.map fun x=>.ref x.1))→ys.Perm xs→ys.Pairwise (fun a b=>¬kLt b a)→Q (.ref D) H') I ?_) fun us s1 ⟨vs,H1,I1,r,l,xs,ev,hl,h64,hx,q⟩=>?_) h1 h2 h3 h4
 ·exact h
 ·subst ev
  rw [Vals.ref1 r]
  refine thn ((zA1 (zkl (v:=.ref f) hgx hmx rfl hdx) zC8) pos pins s1 σ H1 (fun zs H2=>zs=[.ref f]∧H2=H1) I1 ⟨rfl,rfl⟩) fun ws s2 ⟨zs,H2,I2,rz,ez,eh⟩=>?_
  subst ez eh
  rw [Vals.ref1 rz,h5]
  exact ztm F (hr.mono hj) b I2 hl hx h64 q
end
end
section
abbrev MSc:=Addr×Addr×MC
def onC (f:MC→MC) (c:MSc):MSc:=(c.1,c.2.1,f c.2.2)
def skel (cs:MS):List (Addr×Int):=cs.map fun c=>(c.1,c.2.2.place)
def KB (sk:List (Addr×Int)) (x:Addr×Addr×MK) (k:Tilt.Kick):Prop:=x.2.2.first=k.first∧x.2.2.length=k.ticks∧x.2.2.second=zk0 k.till∧(x.2.2.coil,(k.coil:Int))∈sk
def bdC (cB cC cK b db:Addr) (m:MB) (o:HO) (cs:MS) (ks:KS):List (Addr×HO):=
 (m.coils,o) :: (b, .ins cB db (zj4 m)) :: (m.kicks, .lst (ks.map fun k=>.ref k.1)) :: (kiC cK ks++mcC cC cs)
structure BD (cB cC cK:Addr) (S:Addr→Prop) (H0 H:Hp) (b db:Addr) (m:MB) (o:HO) (cs:MS) (ks:KS) (tk:List Tilt.Kick):Prop where
 ce:Cel H (bdC cB cC cK b db m o cs ks)
 nd:ND (bdC cB cC cK b db m o cs ks)
 fs:∀ c∈bdC cB cC cK b db m o cs ks,S c.1
 sx:SameX S H0 H
 pn:(cs.map (·.2.2.place)).Nodup
 cl:cs.length≤32
 kl:ks.length≤8
 kk:Paired (KB (skel cs)) ks tk
 al:∀ a,S a→∃ u,H a=some u
theorem zrc {S:Addr→Prop} {H:Hp} {p:Addr} {o:HO} (h:∀ a,S a→∃ u,H a=some u):∀ a,S a→∃ u,upd H p o a=some u:=fun a ha=>by
 by_cases e:a=p
 ·rw [e];exact ⟨_,zaf⟩
 ·rw [zag e];exact h a ha
section
variable {cB cC cK:Addr} {S:Addr→Prop} {H0 H H1:Hp} {b db:Addr} {m:MB} {o:HO} {cs:MS} {ks:KS} {tk:List Tilt.Kick}
theorem BD.self (h:BD cB cC cK S H0 H b db m o cs ks tk):H b=some (.ins cB db (zj4 m)):=h.ce (b,_) (by simp [bdC])
theorem BD.dict (h:BD cB cC cK S H0 H b db m o cs ks tk):H m.coils=some o:=h.ce (m.coils,_) (by simp [bdC])
theorem BD.list (h:BD cB cC cK S H0 H b db m o cs ks tk):H m.kicks=some (.lst (ks.map fun k=>.ref k.1)):=h.ce (m.kicks,_) (by simp [bdC])
theorem BD.kick (h:BD cB cC cK S H0 H b db m o cs ks tk) {k:Addr×Addr×MK} (hk:k∈ks):H k.1=some (.ins cK k.2.1 (zmm k.2.2)):=h.ce (k.1,_) (by
 have:(k.1,HO.ins cK k.2.1 (zmm k.2.2))∈kiC cK ks:=List.mem_map.mpr ⟨k,hk,rfl⟩
 simp [bdC,this])
theorem BD.coil (h:BD cB cC cK S H0 H b db m o cs ks tk) {x:MSc} (hx:x∈cs):H x.1=some (.ins cC x.2.1 (za4 x.2.2)):=h.ce (x.1,_) (by
 have:(x.1,HO.ins cC x.2.1 (za4 x.2.2))∈mcC cC cs:=List.mem_map.mpr ⟨x,hx,rfl⟩
 simp [bdC,this])
theorem BD.same (h:BD cB cC cK S H0 H b db m o cs ks tk) (k:Same H H1):BD cB cC cK S H0 H1 b db m o cs ks tk:=
 ⟨h.ce.same k,h.nd,h.fs,h.sx.trans (SameX.of k),h.pn,h.cl,h.kl,h.kk,fun a ha=>let ⟨u,hu⟩:=h.al a ha; ⟨u,k a u hu⟩⟩
theorem BD.re (h:BD cB cC cK S H0 H b db m o cs ks tk):BD cB cC cK S H H b db m o cs ks tk:=⟨h.ce,h.nd,h.fs,SameX.refl,h.pn,h.cl,h.kl,h.kk,h.al⟩
theorem BD.tr {Hz:Hp} (h:BD cB cC cK S H0 H b db m o cs ks tk) (k:SameX S Hz H0):BD cB cC cK S Hz H b db m o cs ks tk:=⟨h.ce,h.nd,h.fs,k.trans h.sx,h.pn,h.cl,h.kl,h.kk,h.al⟩
theorem BD.lock (h:BD cB cC cK S H0 H b db m o cs ks tk) (o':HO):BD cB cC cK S H0 (upd H m.coils o') b db m o' cs ks tk:=
 ⟨Cel.put (pre:=[]) h.ce h.nd,ND.put (pre:=[]) h.nd,fun c hc=>by
  rcases List.mem_cons.mp hc with rfl | hc
  ·exact h.fs (m.coils,o) (by simp [bdC])
  ·exact h.fs c (List.mem_cons_of_mem _ hc),h.sx.trans (SameX.put (h.fs (m.coils,o) (by simp [bdC]))),h.pn,h.cl,h.kl,h.kk,zrc h.al⟩
theorem BD.put (h:BD cB cC cK S H0 H b db m o cs ks tk) (su:Int) (kg:Bool) (pa:Int):BD cB cC cK S H0 (upd H b (.ins cB db (zj4 ⟨su,m.coils,m.kicks,kg,pa⟩))) b db ⟨su,m.coils,m.kicks,kg,pa⟩ o cs ks tk:=
 ⟨Cel.put (pre:=[(m.coils,o)]) h.ce h.nd,ND.put (pre:=[(m.coils,o)]) h.nd,fun c hc=>by
  rcases List.mem_cons.mp hc with rfl | hc
  ·exact h.fs (m.coils,o) (by simp [bdC])
  ·rcases List.mem_cons.mp hc with rfl | hc
   ·exact h.fs (b, .ins cB db (zj4 m)) (by simp [bdC])
   ·exact h.fs c (List.mem_cons_of_mem _ (List.mem_cons_of_mem _ hc)),h.sx.trans (SameX.put (h.fs (b, .ins cB db (zj4 m)) (by simp [bdC]))),h.pn,h.cl,h.kl,h.kk,zrc h.al⟩
theorem zA8 {pre post:MS} {x:MSc} {f:MC→MC} (hf:(f x.2.2).place=x.2.2.place):skel (pre++onC f x :: post)=skel (pre++x :: post):=by
 simp [skel,onC,hf]
theorem zrz (cs:MS):mcD cs=(skel cs).map fun c=>(Sum.inl c.2,V.ref c.1):=by simp [mcD,skel,Function.comp_def]
theorem zvu (cs:MS):cs.map (·.2.2.place)=(skel cs).map (·.2):=by simp [skel,Function.comp_def]
theorem BD.split {pre post:MS} {x:MSc} (h:BD cB cC cK S H0 H b db m o (pre++x :: post) ks tk) (f:MC→MC) (hf:(f x.2.2).place=x.2.2.place) :
  BD cB cC cK S H0 (upd H x.1 (.ins cC x.2.1 (za4 (f x.2.2)))) b db m o (pre++onC f x :: post) ks tk:=by
 have e:∀ y:MSc,bdC cB cC cK b db m o (pre++y :: post) ks=((m.coils,o) :: (b, .ins cB db (zj4 m)) :: (m.kicks, .lst (ks.map fun k=>.ref k.1)) :: (kiC cK ks++mcC cC pre))++(y.1, .ins cC y.2.1 (za4 y.2.2)) :: mcC cC post:=fun y=>by simp [bdC,mcC]
 have ce:=h.ce;have nd:=h.nd;have fs:=h.fs
 rw [e] at ce nd fs
 have sk:=zA8 (pre:=pre) (post:=post) hf
 refine ⟨?_,?_,?_,h.sx.trans (SameX.put (fs (x.1,_) (List.mem_append_right _ (List.mem_cons_self ..)))),?_,?_,h.kl,?_,zrc h.al⟩
 ·rw [e];exact ce.put nd
 ·rw [e];exact nd.put
 ·rw [e]
  intro c hc
  rcases List.mem_append.mp hc with hc | hc
  ·exact fs c (List.mem_append_left _ hc)
  ·rcases List.mem_cons.mp hc with rfl | hc
   ·exact fs (x.1, .ins cC x.2.1 (za4 x.2.2)) (List.mem_append_right _ (List.mem_cons_self ..))
   ·exact fs c (List.mem_append_right _ (List.mem_cons_of_mem _ hc))
 ·rw [zvu,sk,← zvu];exact h.pn
 ·have:=h.cl;simpa using this
 ·rw [sk];exact h.kk
def atP (p:Int) (f:MC→MC) (cs:MS):MS:=cs.map fun c=>if c.2.2.place=p then onC f c else c
theorem znw {pre post:MS} {x:MSc} (n:((pre++x :: post).map (·.2.2.place)).Nodup) (f:MC→MC):atP x.2.2.place f (pre++x :: post)=pre++onC f x :: post:=by
 have other:∀ l:MS,(∀ c∈l,c.2.2.place≠x.2.2.place)→atP x.2.2.place f l=l:=fun l hl=>by
  unfold atP
  conv=>rhs;rw [← List.map_id l]
  exact List.map_congr_left fun c hc=>if_neg (hl c hc)
 rw [List.map_append,List.map_cons,List.nodup_append] at n
 obtain ⟨n1,n2,n3⟩:=n
 rw [List.nodup_cons] at n2
 have h1:=other pre fun c hc z=>n3 c.2.2.place (List.mem_map_of_mem (f:=fun c:MSc=>c.2.2.place) hc) x.2.2.place (by simp) z
 have h2:=other post fun c hc z=>n2.1 (by rw [← z];exact List.mem_map_of_mem (f:=fun c:MSc=>c.2.2.place) hc)
 have h3:atP x.2.2.place f (pre++x :: post)=atP x.2.2.place f pre++onC f x :: atP x.2.2.place f post:=by
  simp [atP]
 rw [h3,h1,h2]
theorem BD.atx (h:BD cB cC cK S H0 H b db m o cs ks tk) {x:MSc} (hx:x∈cs) (f:MC→MC) (hf:(f x.2.2).place=x.2.2.place) :
  BD cB cC cK S H0 (upd H x.1 (.ins cC x.2.1 (za4 (f x.2.2)))) b db m o (atP x.2.2.place f cs) ks tk:=by
 obtain ⟨pre,post,rfl⟩:=List.append_of_mem hx
 rw [znw h.pn]
 exact h.split f hf
def zop (f:MC→MC) (i:Nat) (cs:MS):MS:=(cs.take i).map (onC f)++cs.drop i
theorem zrv {f:MC→MC} {i:Nat} {x:MSc} (h:cs[i]? = some x):zop f i cs=(cs.take i).map (onC f)++x :: cs.drop (i+1)∧zop f (i+1) cs=(cs.take i).map (onC f)++onC f x :: cs.drop (i+1):=by
 obtain ⟨hi,e⟩:=List.getElem?_eq_some_iff.mp h
 constructor
 ·unfold zop;rw [List.drop_eq_getElem_cons hi,e]
 ·unfold zop;rw [zbe h];simp
theorem zoq {f:MC→MC}:zop f cs.length cs=cs.map (onC f):=by simp [zop]
end
theorem zlx (c:MC) (n t:Int) (k:Bool) (h:Int):(zev c n t k h).place=c.place:=by unfold zev;split<;>rfl
theorem zm2 (c:MC):(zdv c).place=c.place:=rfl
theorem zvs (c:MC):(zc2 c).place=c.place:=by unfold zc2;split<;>rfl
theorem zew (c:MC):(za3 c).place=c.place:=by unfold za3;split<;>rfl
theorem zpb (c:MC):(zeh c).place=c.place:=by
 unfold zeh
 split
 ·exact zew c
 ·exact zew c
theorem zqp (c:MC):(zc3 c).place=c.place:=by
 unfold zc3
 split
 ·split
  ·exact zvs _
  ·rfl
 ·split
  ·rfl
  ·split<;>rfl
theorem zvt (c:MC) (k:MK) (e n:Int):(zhj c k e n).place=c.place:=by
 unfold zhj
 have h1:(if e=k.first then zev c k.length n true (if 0<c.hold then 2 else 0) else c).place=c.place:=by
  split
  ·exact zlx ..
  ·rfl
 generalize (if e=k.first then zev c k.length n true (if 0<c.hold then 2 else 0) else c)=c1 at h1
 have h2:(if V.int e=k.second∧c1.way=1∧c1.kicked=true then zc2 c1 else c1).place=c.place:=by
  split
  ·rw [zvs];exact h1
  ·exact h1
 show (if e=64+k.first then za3 (if V.int e=k.second∧c1.way=1∧c1.kicked=true then zc2 c1 else c1) else (if V.int e=k.second∧c1.way=1∧c1.kicked=true then zc2 c1 else c1)).place=c.place
 generalize (if V.int e=k.second∧c1.way=1∧c1.kicked=true then zc2 c1 else c1)=c2 at h2
 split
 ·rw [zew];exact h2
 ·exact h2
theorem zd1 {p:Int} {f:MC→MC} (hf:∀ c,(f c).place=c.place) (cs:MS):skel (atP p f cs)=skel cs:=by
 simp only [skel,atP,List.map_map]
 refine List.map_congr_left fun c _=>?_
 show (_:Addr×Int)=_
 simp only [Function.comp]
 split<;>simp [onC,hf]
theorem zrw {f:MC→MC} (hf:∀ c,(f c).place=c.place) (cs:MS):skel (cs.map (onC f))=skel cs:=by
 simp only [skel,List.map_map]
 refine List.map_congr_left fun c _=>?_
 simp [onC,hf]
end
section
def mkOf (k:Tilt.Kick):MK:=⟨k.first,0,k.ticks,zk0 k.till⟩
def zon (e n:Int) (cs:MS) (k:Tilt.Kick):MS:=atP k.coil (fun c=>zhj c (mkOf k) e n) cs
def letM (cs:MS) (k:Tilt.Kick):MS:=atP k.coil za3 cs
theorem zo6 {α β:Type} {G:α→β→Prop} {l₁:List α} {l₂:List β} (h:Paired G l₁ l₂) {i:Nat} {a:α} (ha:l₁[i]? = some a):∃ b,l₂[i]? = some b∧G a b:=zlw h ha
theorem znc {cs:MS} {a:Addr} {p:Int} (h:(a,p)∈skel cs):∃ x∈cs,x.1=a∧x.2.2.place=p:=by
 obtain ⟨x,hx,e⟩:=List.mem_map.mp h
 obtain ⟨e1,e2⟩:=Prod.mk.inj e
 exact ⟨x,hx,e1,e2⟩
theorem zva {c:MC} {x k:MK} {e n:Int} (h1:x.first=k.first) (h2:x.length=k.length) (h3:x.second=k.second):zhj c x e n=zhj c k e n:=by
 unfold zhj;rw [h1,h2,h3]
theorem zqa {cs:MS} {D:MS} (e:mcD D=mcD cs) (hsk:skel D=skel cs) {i:Nat} {k:Key} {v:V} (h:(mcD D)[i]? = some (k,v)):∃ x,cs[i]? = some x∧v = .ref x.1:=by
 rw [e] at h
 simp only [mcD,List.getElem?_map,Option.map_eq_some_iff] at h
 obtain ⟨x,hx,e⟩:=h
 exact ⟨x,hx,(Prod.mk.inj e).2.symm⟩
def zo5 (cs:MS):Int:=cs.foldl (fun a c=>if mcOn c.2.2=true then a+2 ^ c.2.2.place.toNat else a) 0
def ordM (m:MB) (cs:MS) (tk:List Tilt.Kick) (kind place len:Int):Bool×MS:=
 if kind=0 then (m.kicking,atP place (fun c=>zev c len m.passed false 0) cs)
 else if kind=1 then (m.kicking,atP place (fun c=>zev c len m.passed false 1) cs)
 else if kind=2 then (m.kicking,atP place za3 cs)
 else if kind=3 then (m.kicking,atP place zeh cs)
 else if kind=4 then (m.kicking,cs.map (onC zeh))
 else if kind=5 then (decide (len=1),if len=1 then cs else tk.foldl letM cs)
 else (m.kicking,cs)
section
variable {cW cF cT cC cK cB:Addr}
def zwl (cC:Addr):Sp:=fun vs H Q _=>E3 fun p dx c=>A3 (vs=[.ref p]) (H p=some (.ins cC dx (za4 c))) (∀ t,H t=none→Q (.ref t) (upd H t (.tup [.int c.since, .int c.place])))
def zqy (cB cC cK:Addr):Sp:=fun vs H Q _=>E7 fun S b db m cs ks tk=>A3 (vs=[.ref b]) (BD cB cC cK S H H b db m (.dK (mcD cs)) cs ks tk) (∀ H',BD cB cC cK S H H' b db m (.dK (mcD cs)) (cs.map (onC zeh)) ks tk→Q .non H')
def zBc (cB cC cK:Addr):Sp:=fun vs H Q _=>E8 fun S b db m cs ks tk e=>A3 (vs=[.ref b, .int e]) (BD cB cC cK S H H b db m (.dK (mcD cs)) cs ks tk) (∀ H',BD cB cC cK S H H' b db m (.dK (mcD cs)) (if m.kicking=true then tk.foldl (zon e m.passed) cs else cs) ks tk→Q .non H')
def zwc (cB cC cK:Addr):Sp:=fun vs H Q _=>E8 fun S b db m cs ks tk g=>A3 (vs=[.ref b, .bl g]) (BD cB cC cK S H H b db m (.dK (mcD cs)) cs ks tk) (∀ H',BD cB cC cK S H H' b db ⟨m.supply,m.coils,m.kicks,g,m.passed⟩ (.dK (mcD cs)) (if g=true then cs else tk.foldl letM cs) ks tk→Q .non H')
def zqx (cB cC cK:Addr):Sp:=fun vs H Q _=>E7 fun S b db m cs ks tk=>A3 (vs=[.ref b]) (BD cB cC cK S H H b db m (.dK (mcD cs)) cs ks tk) (∀ H',BD cB cC cK S H H' b db ⟨m.supply,m.coils,m.kicks,m.kicking,m.passed+1⟩ (.dK (mcD cs)) (cs.map (onC zc3)) ks tk→Q (.int (zo5 cs)) H')
def zwa (cB cC cK:Addr):Sp:=fun vs H Q _=>E8 fun S b db m cs ks tk kind=>E2 fun place len=>A4 (vs=[.ref b, .int kind, .int place, .int len]) (BD cB cC cK S H H b db m (.dK (mcD cs)) cs ks tk) ((kind<4→∃ x∈cs,x.2.2.place=place)) (∀ H',BD cB cC cK S H H' b db ⟨m.supply,m.coils,m.kicks,(ordM m cs tk kind place len).1,m.passed⟩ (.dK (mcD cs)) (ordM m cs tk kind place len).2 ks tk→Q .non H')
abbrev zfy:Stmt:=top 25
theorem ztk:zai ["coil"] ["coil"] (zae zfy):=by walk_at "sc"
theorem zst:zak zfy "turn_of" "turn_of" ["coil"]:=fun _ _ _ _ _ _ us hl=>match us,hl with | [_],_=>rfl
abbrev zcj:Stmt:=zaw (top 26) 4
theorem sc_Board_stop_all:zai ["self","coil"] ["self"] (zae zcj):=by walk_at "sc"
theorem zh6:zak zcj "stop_all" "Board.stop_all" ["self"]:=fun _ _ _ _ _ _ us hl=>match us,hl with | [_],_=>rfl
abbrev zbw:Stmt:=zaw (top 26) 2
theorem sc_Board_take_event:zai ["self","event","kick"] ["self","event"] (zae zbw):=by walk_at "sc"
theorem zgg:zak zbw "take_event" "Board.take_event" ["self","event"]:=fun _ _ _ _ _ _ us hl=>match us,hl with | [_,_],_=>rfl
abbrev zcb:Stmt:=zaw (top 26) 5
theorem sc_Board_set_kicks:zai ["self","kicking","kick"] ["self","kicking"] (zae zcb):=by walk_at "sc"
theorem zg7:zak zcb "set_kicks" "Board.set_kicks" ["self","kicking"]:=fun _ _ _ _ _ _ us hl=>match us,hl with | [_,_],_=>rfl
abbrev zca:Stmt:=zaw (top 26) 7
theorem sc_Board_pass_tick:zai ["self","on","coil"] ["self"] (zae zca):=by walk_at "sc"
theorem zg6:zak zca "pass_tick" "Board.pass_tick" ["self"]:=fun _ _ _ _ _ _ us hl=>match us,hl with | [_],_=>rfl
abbrev zbx:Stmt:=zaw (top 26) 3
theorem zg2:zai ["self","kind","place","length"] ["self","kind","place","length"] (zae zbx):=by walk_at "sc"
theorem zgh:zak zbx "take_order" "Board.take_order" ["self","kind","place","length"]:=fun _ _ _ _ _ _ us hl=>match us,hl with | [_,_,_,_],_=>rfl
theorem ztb (tG:TG K mg) (tCoil:zdt K cC) (F:FnK K mg "turn_of" zfy) :
  Dn P w K mg base CX0 "turn_of" ["coil"] 1 (zwl cC):=by
 refine F.dn ztk zst (fun vs H Q E h=>?_) (fun f cdv A outer s H vs Q E hr h=>?_)
 ·obtain ⟨p,dx,c,rfl,_⟩:=h
  rfl
 ·obtain ⟨p,dx,c,rfl,hp,q⟩:=h
  have hu:=za2 hr
  have hu64:=hr.units
  refine ⟨_,(zac (zar (zC5 (zaa (zah (pv 0) rfl) (zaa (zah (pv 0) rfl) zad))))),?_⟩
  have f_tCoil_cl:=tCoil.cl
  have f_tCoil_n_place:=tCoil.n_place
  have f_tCoil_n_since:=tCoil.n_since
  exact ⟨_,rfl,p,_,_,_,_,rfl,hp,f_tCoil_cl,f_tCoil_n_since,rfl,_,rfl,p,_,_,_,_,rfl,hp,f_tCoil_cl,f_tCoil_n_place,rfl,(by show 2≤sizeLine;decide),fun t ht=>q t ht⟩
theorem zir (tG:TG K mg) (tBoard:zdz K cB) (tCoil:zdt K cC) (m_Coil_cut_off:Md P w K mg base CX0 cC "cut_off" ["self"] 3 (spCh cC zeh fun _=>.non)) (F:MtK K cB "stop_all" "Board.stop_all" zcj) :
  Md P w K mg base CX0 cB "stop_all" ["self"] 4 (zqy cB cC cK):=by
 refine F.md sc_Board_stop_all zh6 (fun vs H Q E h=>?_) (fun f cdv A outer s H vs Q E hr h=>?_)
 ·obtain ⟨S,b,db,m,cs,ks,tk,rfl,_⟩:=h
  rfl
 ·obtain ⟨S,b,db,m,cs,ks,tk,rfl,B,q⟩:=h
  have hu:=za2 hr
  have hu64:=hr.units
  refine ⟨_,(zac (zkn (zd3 PassesOwn.never rfl (zhw (zah (pv 0) rfl)) (zbp (i:=1) sc_Board_stop_all.nd rfl (Or.inl rfl))
    (zac (zal (zbk m_Coil_cut_off tCoil.cl hr zaz (pv 1))))))),?_⟩
  have f_tBoard_cl:=tBoard.cl
  have f_tBoard_n_coils:=tBoard.n_coils
  have f_tCoil_cl:=tCoil.cl
  refine ⟨m.coils,_,B.dict,True.intro,fun od=>?_⟩
  have B1:=B.lock (.frz od (.dK (mcD cs)))
  refine ⟨_,rfl,b,_,_,_,_,rfl,B1.self,f_tBoard_cl,f_tBoard_n_coils,rfl,m.coils,od,_,rfl,B1.dict,?_⟩
  refine zp4 (n:=cs.length) (fun i σ H'=>(∃ y,σ=[some (.ref b),y])∧BD cB cC cK S H H' b db m (.frz od (.dK (mcD cs))) (zop zeh i cs) ks tk) ⟨⟨none,rfl⟩,B1⟩ (fun σ H' hp=>?_) (fun i σ H' hi hp=>?_)
  ·obtain ⟨⟨y,rfl⟩,B2⟩:=hp
   refine ⟨⟨B2.dict,by simp [mcD]⟩,B2.dict,q _ ?_⟩
   rw [zoq] at B2
   exact B2.lock _
  ·obtain ⟨⟨y,rfl⟩,B2⟩:=hp
   refine ⟨⟨B2.dict,by simpa [mcD] using hi⟩,fun v H2 hv=>?_⟩
   obtain ⟨rfl,k,hk⟩:=hv
   obtain ⟨x,hx,rfl⟩:=zqa rfl rfl hk
   obtain ⟨e1,e2⟩:=zrv (f:=zeh) hx
   rw [e1] at B2
   have hc:=B2.coil (x:=x) (by simp)
   refine ⟨_,rfl,x.1,_,_,rfl,hc,rfl,x.1,x.2.1,x.2.2,rfl,hc,⟨_,rfl⟩,?_⟩
   rw [e2]
   exact B2.split zeh (zpb _)
theorem zgt (tG:TG K mg) (tBoard:zdz K cB) (tKick:ztw K cK) (m_Kick_take_event:Md P w K mg base CX0 cK "take_event" ["self","event","tick"] 3 (zBg cC cK)) (F:MtK K cB "take_event" "Board.take_event" zbw) :
  Md P w K mg base CX0 cB "take_event" ["self","event"] 4 (zBc cB cC cK):=by
 refine F.md sc_Board_take_event zgg (fun vs H Q E h=>?_) (fun f cdv A outer s H vs Q E hr h=>?_)
 ·obtain ⟨S,b,db,m,cs,ks,tk,e,rfl,_⟩:=h
  rfl
 ·obtain ⟨S,b,db,m,cs,ks,tk,e,rfl,B,q⟩:=h
  have hu:=za2 hr
  have hu64:=hr.units
  refine ⟨_,(zab (za5 (ze5 (zct (zah (pv 0) rfl))) (zac zm4) zaq)
   (zac (zd3 PassesOwn.never rfl (zkm (zah (pv 0) rfl)) (zbp (i:=2) sc_Board_take_event.nd rfl (Or.inl rfl))
    (zac (zal (pe_m m_Kick_take_event tKick.cl hr zaz (pv 2) (zaa (pv 1) (zaa (zah (pv 0) rfl) zad)))))))),?_⟩
  have f_tBoard_cl:=tBoard.cl
  have f_tBoard_n_kicking:=tBoard.n_kicking
  have f_tBoard_n_kicks:=tBoard.n_kicks
  have f_tKick_cl:=tKick.cl
  have f_tBoard_n_passed:=tBoard.n_passed
  refine ⟨_,rfl,b,_,_,_,_,rfl,B.self,f_tBoard_cl,f_tBoard_n_kicking,rfl,_,rfl,?_⟩
  cases hkg:m.kicking with
  | false=>
   rw [hkg] at q
   exact iteT (q H B)
  | true=>
   rw [hkg,if_pos rfl] at q
   refine iteF ⟨_,rfl,b,_,_,_,_,rfl,B.self,f_tBoard_cl,f_tBoard_n_kicks,rfl,m.kicks,rfl,⟨_,SqL.of B.list⟩,?_⟩
   have hlen:ks.length=tk.length:=Paired.length B.kk
   refine zhg (xs:=ks.map fun k=>V.ref k.1) (fun i σ H'=>(∃ y,σ=[some (.ref b),some (.int e),y])∧BD cB cC cK S H H' b db m (.dK (mcD cs)) ((tk.take i).foldl (zon e m.passed) cs) ks tk) ⟨⟨none,rfl⟩,B⟩ (fun i σ H' _ hp=>SqL.of hp.2.list) (fun i v σ H' hv hp=>?_) (fun σ H' hp=>?_)
   ·obtain ⟨⟨y,rfl⟩,B2⟩:=hp
    simp only [List.getElem?_map,Option.map_eq_some_iff] at hv
    obtain ⟨k,hk,rfl⟩:=hv
    obtain ⟨t,ht,k1,k2,k3,k4⟩:=zo6 B2.kk hk
    obtain ⟨x,hx,e1,e2⟩:=znc k4
    have hkm:k∈ks:=List.mem_of_getElem? hk
    have hkc:=B2.kick hkm
    have hxc:=B2.coil hx
    refine ⟨_,rfl,k.1,_,_,rfl,hkc,rfl,_,rfl,_,rfl,b,_,_,_,_,rfl,B2.self,f_tBoard_cl,f_tBoard_n_passed,rfl,k.1,k.2.1,k.2.2,x.2.1,x.2.2,e,m.passed,rfl,hkc,by rw [← e1];exact hxc,?_,?_,⟨_,rfl⟩,?_⟩
    ·intro z
     rw [z,← e1,hxc] at hkc
     have:=congrArg (fun o=>match o with | some (HO.ins _ _ f)=>f.length | _=>0) hkc
     simp [za4,zmm] at this
    ·rw [k3]
     cases t.till with
     | none=>exact .inl rfl
     | some n=>exact .inr ⟨_,rfl⟩
    ·rw [zbe ht,List.foldl_append,List.foldl_cons,List.foldl_nil,← e1,zva (k:=mkOf t) k1 k2 k3]
     unfold zon
     rw [← e2]
     exact B2.atx hx (fun c=>zhj c (mkOf t) e m.passed) (zvt ..)
   ·obtain ⟨⟨y,rfl⟩,B2⟩:=hp
    rw [List.length_map,hlen,List.take_length] at B2
    exact q _ B2
theorem zhm (tG:TG K mg) (tBoard:zdz K cB) (tCoil:zdt K cC) (tKick:ztw K cK) (m_Coil_let_go:Md P w K mg base CX0 cC "let_go" ["self"] 2 (spCh cC za3 fun _=>.non)) (F:MtK K cB "set_kicks" "Board.set_kicks" zcb) :
  Md P w K mg base CX0 cB "set_kicks" ["self","kicking"] 3 (zwc cB cC cK):=by
 refine F.md sc_Board_set_kicks zg7 (fun vs H Q E h=>?_) (fun f cdv A outer s H vs Q E hr h=>?_)
 ·obtain ⟨S,b,db,m,cs,ks,tk,g,rfl,_⟩:=h
  rfl
 ·obtain ⟨S,b,db,m,cs,ks,tk,g,rfl,B,q⟩:=h
  have hu:=za2 hr
  have hu64:=hr.units
  refine ⟨_,(zab (zau (pv 0) (pv 1) rfl)
   (zac (za5 (ze5 (zct (pv 1))) (zac (zd3 PassesOwn.never rfl (zkm (zah (pv 0) rfl)) (zbp (i:=2) sc_Board_set_kicks.nd rfl (Or.inl rfl))
    (zac (zal (zbk m_Coil_let_go tCoil.cl hr zaz (zah (pv 2) rfl)))))) zaq))),?_⟩
  have f_tBoard_cl:=tBoard.cl
  have f_tBoard_n_kicking:=tBoard.n_kicking
  have f_tBoard_n_kicks:=tBoard.n_kicks
  have f_tCoil_cl:=tCoil.cl
  have f_tKick_cl:=tKick.cl
  have f_tKick_n_coil:=tKick.n_coil
  have B1:=B.put m.supply g m.passed
  refine ⟨_,rfl,_,rfl,b,_,_,_,rfl,B.self,f_tBoard_cl,f_tBoard_n_kicking,(by show 5<1000;decide),_,rfl,_,rfl,?_⟩
  show if (!g)=true then _ else _
  cases g with
  | true=>exact iteF (q _ B1)
  | false=>
   refine iteT ⟨_,rfl,b,_,_,_,_,rfl,B1.self,f_tBoard_cl,f_tBoard_n_kicks,rfl,m.kicks,rfl,⟨_,SqL.of B1.list⟩,?_⟩
   have hlen:ks.length=tk.length:=Paired.length B.kk
   refine zhg (xs:=ks.map fun k=>V.ref k.1) (fun i σ H'=>(∃ y,σ=[some (.ref b),some (.bl false),y])∧BD cB cC cK S H H' b db ⟨m.supply,m.coils,m.kicks,false,m.passed⟩ (.dK (mcD cs)) ((tk.take i).foldl letM cs) ks tk) ⟨⟨none,rfl⟩,B1⟩ (fun i σ H' _ hp=>SqL.of hp.2.list) (fun i v σ H' hv hp=>?_) (fun σ H' hp=>?_)
   ·obtain ⟨⟨y,rfl⟩,B2⟩:=hp
    simp only [List.getElem?_map,Option.map_eq_some_iff] at hv
    obtain ⟨k,hk,rfl⟩:=hv
    obtain ⟨t,ht,k1,k2,k3,k4⟩:=zo6 B2.kk hk
    obtain ⟨x,hx,e1,e2⟩:=znc k4
    have hkm:k∈ks:=List.mem_of_getElem? hk
    have hkc:=B2.kick hkm
    have hxc:=B2.coil hx
    refine ⟨_,rfl,k.1,_,_,_,_,rfl,hkc,f_tKick_cl,f_tKick_n_coil,rfl,k.2.2.coil,_,_,rfl,by rw [← e1];exact hxc,rfl,k.2.2.coil,x.2.1,x.2.2,rfl,by rw [← e1];exact hxc,⟨_,rfl⟩,?_⟩
    rw [zbe ht,List.foldl_append,List.foldl_cons,List.foldl_nil,← e1]
    unfold letM
    rw [← e2]
    exact B2.atx hx za3 (zew _)
   ·obtain ⟨⟨y,rfl⟩,B2⟩:=hp
    rw [List.length_map,hlen,List.take_length] at B2
    exact q _ B2
theorem zhl (tG:TG K mg) (tBoard:zdz K cB) (tCoil:zdt K cC) (m_Coil_pass_tick:Md P w K mg base CX0 cC "pass_tick" ["self"] 3 (spCh cC zc3 fun c=>.bl (mcOn c))) (F:MtK K cB "pass_tick" "Board.pass_tick" zca) :
  Md P w K mg base CX0 cB "pass_tick" ["self"] 4 (zqx cB cC cK):=by
 refine F.md sc_Board_pass_tick zg6 (fun vs H Q E h=>?_) (fun f cdv A outer s H vs Q E hr h=>?_)
 ·obtain ⟨S,b,db,m,cs,ks,tk,rfl,_⟩:=h
  rfl
 ·obtain ⟨S,b,db,m,cs,ks,tk,rfl,B,q⟩:=h
  have hu:=za2 hr
  have hu64:=hr.units
  refine ⟨_,(zab (zax (i:=1) sc_Board_pass_tick.nd rfl (Or.inl rfl) zao)
   (zab (zkn (zd3 PassesOwn.never rfl (zhw (zah (pv 0) rfl)) (zbp (i:=2) sc_Board_pass_tick.nd rfl (Or.inl rfl))
    (zac (za5 (zct (zbk m_Coil_pass_tick tCoil.cl hr zaz (pv 2))) (zac (zsd (i:=1) sc_Board_pass_tick.nd rfl (Or.inl rfl) (zah (pv 2) rfl) zrs)) zaq))))
   (zab (zep (pv 0) zao zrr)
   (zac (zar (pv 1)))))),?_⟩
  have f_tBoard_cl:=tBoard.cl
  have f_tBoard_n_coils:=tBoard.n_coils
  have f_tCoil_cl:=tCoil.cl
  have f_tCoil_n_power:=tCoil.n_power
  have f_tBoard_n_passed:=tBoard.n_passed
  refine ⟨m.coils,_,B.dict,True.intro,fun od=>?_⟩
  have B1:=B.lock (.frz od (.dK (mcD cs)))
  refine ⟨_,rfl,b,_,_,_,_,rfl,B1.self,f_tBoard_cl,f_tBoard_n_coils,rfl,m.coils,od,_,rfl,B1.dict,?_⟩
  refine zp4 (n:=cs.length) (fun i σ H'=>(∃ y,σ=[some (.ref b),some (.int (zo5 (cs.take i))),y])∧BD cB cC cK S H H' b db m (.frz od (.dK (mcD cs))) (zop zc3 i cs) ks tk) ⟨⟨none,rfl⟩,B1⟩ (fun σ H' hp=>?_) (fun i σ H' hi hp=>?_)
  ·obtain ⟨⟨y,rfl⟩,B2⟩:=hp
   rw [zoq] at B2
   have B3:=B2.lock (.dK (mcD cs))
   refine ⟨⟨B2.dict,by simp [mcD]⟩,B2.dict,_,rfl,b,_,_,_,_,rfl,B3.self,f_tBoard_cl,f_tBoard_n_passed,rfl,_,_,rfl,rfl,_,_,B3.self,(by show 5<1000;decide),_,rfl,?_⟩
   rw [List.take_length]
   exact q _ (B3.put m.supply m.kicking (m.passed+1))
  ·obtain ⟨⟨y,rfl⟩,B2⟩:=hp
   refine ⟨⟨B2.dict,by simpa [mcD] using hi⟩,fun v H2 hv=>?_⟩
   obtain ⟨rfl,k,hk⟩:=hv
   obtain ⟨x,hx,rfl⟩:=zqa rfl rfl hk
   obtain ⟨e1,e2⟩:=zrv (f:=zc3) hx
   rw [e1] at B2
   have hc:=B2.coil (x:=x) (by simp)
   have B3:=B2.split zc3 (zqp _)
   rw [← e2] at B3
   have hc3:=B3.coil (x:=onC zc3 x) (by rw [e2];simp)
   have hsum:zo5 (cs.take (i+1))=if mcOn x.2.2=true then zo5 (cs.take i)+2 ^ x.2.2.place.toNat else zo5 (cs.take i):=by
    rw [zbe hx];unfold zo5;rw [List.foldl_append];rfl
   refine ⟨_,rfl,x.1,_,_,rfl,hc,rfl,x.1,x.2.1,x.2.2,rfl,hc,_,rfl,?_⟩
   cases hon:mcOn x.2.2 with
   | true=>
    rw [hon,if_pos rfl] at hsum
    refine iteT ⟨_,rfl,_,rfl,x.1,_,_,_,_,rfl,zaf,f_tCoil_cl,f_tCoil_n_power,rfl,_,_,rfl,rfl,⟨some (.ref x.1),?_⟩,B3⟩
    rw [hsum,zqp]
    rfl
   | false=>
    rw [hon,if_neg (by decide)] at hsum
    refine iteF ⟨⟨some (.ref x.1),?_⟩,B3⟩
    rw [hsum]
    rfl
theorem zgu (tG:TG K mg) (tCoil:zdt K cC) (tBoard:zdz K cB) (m_Coil_ask:Md P w K mg base CX0 cC "ask" ["self","length","tick","kicked","keeper"] 2 (zv9 cC)) (m_Coil_let_go:Md P w K mg base CX0 cC "let_go" ["self"] 2 (spCh cC za3 fun _=>.non)) (m_Coil_cut_off:Md P w K mg base CX0 cC "cut_off" ["self"] 3 (spCh cC zeh fun _=>.non)) (m_Board_stop_all:Md P w K mg base CX0 cB "stop_all" ["self"] 4 (zqy cB cC cK)) (m_Board_set_kicks:Md P w K mg base CX0 cB "set_kicks" ["self","kicking"] 3 (zwc cB cC cK)) (F:MtK K cB "take_order" "Board.take_order" zbx) :
  Md P w K mg base CX0 cB "take_order" ["self","kind","place","length"] 5 (zwa cB cC cK):=by
 refine F.md zg2 zgh (fun vs H Q E h=>?_) (fun f cdv A outer s H vs Q E hr h=>?_)
 ·obtain ⟨S,b,db,m,cs,ks,tk,kind,place,len,rfl,_⟩:=h
  rfl
 ·obtain ⟨S,b,db,m,cs,ks,tk,kind,place,len,rfl,B,hp,q⟩:=h
  have hu:=za2 hr
  have hu64:=hr.units
  refine ⟨_,(zac (za5 (zan zbg (pv 1) (zap tG.g_PULSE) (zam _)) (zac (zal (pe_m m_Coil_ask tCoil.cl hr zaz (zdl hu (zah (pv 0) rfl) (pv 2) (fun _ _=>rfl)) (zaa (pv 3) (zaa (zah (pv 0) rfl) (zaa zei (zaa (zap tG.g_NOBODY) zad))))))) (zac (za5 (zan zbg (pv 1) (zap tG.g_PULSE_AND_HOLD) (zam _)) (zac (zal (pe_m m_Coil_ask tCoil.cl hr zaz (zdl hu (zah (pv 0) rfl) (pv 2) (fun _ _=>rfl)) (zaa (pv 3) (zaa (zah (pv 0) rfl) (zaa zei (zaa (zap tG.g_BY_ORDER) zad))))))) (zac (za5 (zan zbg (pv 1) (zap tG.g_LET_GO) (zam _)) (zac (zal (zbk m_Coil_let_go tCoil.cl hr zaz (zdl hu (zah (pv 0) rfl) (pv 2) (fun _ _=>rfl))))) (zac (za5 (zan zbg (pv 1) (zap tG.g_STOP) (zam _)) (zac (zal (zbk m_Coil_cut_off tCoil.cl hr zaz (zdl hu (zah (pv 0) rfl) (pv 2) (fun _ _=>rfl))))) (zac (za5 (zan zbg (pv 1) (zap tG.g_STOP_ALL) (zam _)) (zac (zal (zbk m_Board_stop_all tBoard.cl hr zaz (pv 0)))) (zac (za5 (zan zbg (pv 1) (zap tG.g_SET_KICKS) (zam _)) (zac (zal (pe_m m_Board_set_kicks tBoard.cl hr zaz (pv 0) (zaa (zba zbg (pv 3) zao (zam _)) zad)))) zaq)))))))))))),?_⟩
  have f_tCoil_cl:=tCoil.cl
  have f_tBoard_cl:=tBoard.cl
  have f_tBoard_n_coils:=tBoard.n_coils
  have f_tBoard_n_passed:=tBoard.n_passed
  have fnd:kind<4→∃ x,x∈cs∧x.2.2.place=place∧valV (mcD cs) (Sum.inl place)=some (.ref x.1):=by
   intro hk
   rw [zpl]
   obtain ⟨y,hy,hy2⟩:=hp hk
   cases hf:cs.find? fun c=>decide (c.2.2.place=place) with
   | none=>exact absurd (decide_eq_true hy2) (List.find?_eq_none.mp hf y hy)
   | some x=>exact ⟨x,List.mem_of_find?_eq_some hf,(by have:=List.find?_some hf;simpa using this),rfl⟩
  have mEta:(⟨m.supply,m.coils,m.kicks,m.kicking,m.passed⟩ : MB)=m:=rfl
  unfold ordM at q
  refine ⟨_,rfl,rfl,_,rfl,?_⟩
  rw [zas]
  by_cases h0:kind=0
  ·obtain ⟨x,hx,ex,ev⟩:=fnd (by omega)
   have hxc:=B.coil hx
   rw [decide_eq_true h0]
   rw [if_pos h0] at q
   refine iteT ⟨_,rfl,b,_,_,_,_,rfl,B.self,f_tBoard_cl,f_tBoard_n_coils,rfl,_,rfl,m.coils, .ref x.1,rfl,by rw [← ev];exact DGet.k (k:=Sum.inl place) B.dict,x.1,_,_,rfl,hxc,rfl,_,rfl,_,rfl,b,_,_,_,_,rfl,B.self,f_tBoard_cl,f_tBoard_n_passed,rfl,x.1,x.2.1,x.2.2,len,m.passed,false,0,rfl,hxc,q _ ?_⟩
   rw [← ex]
   exact B.atx hx (fun c=>zev c len m.passed false 0) (zlx ..)
  rw [decide_eq_false h0]
  rw [if_neg h0] at q
  refine iteF ⟨_,rfl,rfl,_,rfl,?_⟩
  rw [zas]
  by_cases h1:kind=1
  ·obtain ⟨x,hx,ex,ev⟩:=fnd (by omega)
   have hxc:=B.coil hx
   rw [decide_eq_true h1]
   rw [if_pos h1] at q
   refine iteT ⟨_,rfl,b,_,_,_,_,rfl,B.self,f_tBoard_cl,f_tBoard_n_coils,rfl,_,rfl,m.coils, .ref x.1,rfl,by rw [← ev];exact DGet.k (k:=Sum.inl place) B.dict,x.1,_,_,rfl,hxc,rfl,_,rfl,_,rfl,b,_,_,_,_,rfl,B.self,f_tBoard_cl,f_tBoard_n_passed,rfl,x.1,x.2.1,x.2.2,len,m.passed,false,1,rfl,hxc,q _ ?_⟩
   rw [← ex]
   exact B.atx hx (fun c=>zev c len m.passed false 1) (zlx ..)
  rw [decide_eq_false h1]
  rw [if_neg h1] at q
  refine iteF ⟨_,rfl,rfl,_,rfl,?_⟩
  rw [zas]
  by_cases h2:kind=2
  ·obtain ⟨x,hx,ex,ev⟩:=fnd (by omega)
   have hxc:=B.coil hx
   rw [decide_eq_true h2]
   rw [if_pos h2] at q
   refine iteT ⟨_,rfl,b,_,_,_,_,rfl,B.self,f_tBoard_cl,f_tBoard_n_coils,rfl,_,rfl,m.coils, .ref x.1,rfl,by rw [← ev];exact DGet.k (k:=Sum.inl place) B.dict,x.1,_,_,rfl,hxc,rfl,x.1,x.2.1,x.2.2,rfl,hxc,q _ ?_⟩
   rw [← ex]
   exact B.atx hx za3 (zew _)
  rw [decide_eq_false h2]
  rw [if_neg h2] at q
  refine iteF ⟨_,rfl,rfl,_,rfl,?_⟩
  rw [zas]
  by_cases h3:kind=3
  ·obtain ⟨x,hx,ex,ev⟩:=fnd (by omega)
   have hxc:=B.coil hx
   rw [decide_eq_true h3]
   rw [if_pos h3] at q
   refine iteT ⟨_,rfl,b,_,_,_,_,rfl,B.self,f_tBoard_cl,f_tBoard_n_coils,rfl,_,rfl,m.coils, .ref x.1,rfl,by rw [← ev];exact DGet.k (k:=Sum.inl place) B.dict,x.1,_,_,rfl,hxc,rfl,x.1,x.2.1,x.2.2,rfl,hxc,q _ ?_⟩
   rw [← ex]
   exact B.atx hx zeh (zpb _)
  rw [decide_eq_false h3]
  rw [if_neg h3] at q
  refine iteF ⟨_,rfl,rfl,_,rfl,?_⟩
  rw [zas]
  by_cases h4:kind=4
  ·rw [decide_eq_true h4]
   rw [if_pos h4] at q
   exact iteT ⟨_,rfl,b,_,_,rfl,B.self,rfl,S,b,db,m,cs,ks,tk,rfl,B,q⟩
  rw [decide_eq_false h4]
  rw [if_neg h4] at q
  refine iteF ⟨_,rfl,rfl,_,rfl,?_⟩
  rw [zas]
  by_cases h5:kind=5
  ·rw [decide_eq_true h5]
   rw [if_pos h5] at q
   refine iteT ⟨_,rfl,b,_,_,rfl,B.self,rfl,_,rfl,rfl,?_⟩
   rw [zas]
   refine ⟨S,b,db,m,cs,ks,tk,decide (len=1),rfl,B,fun H' B'=>q H' ?_⟩
   simpa using B'
  rw [decide_eq_false h5]
  rw [if_neg h5] at q
  exact iteF (q H B)
end
end
section
def rdy (c:MSc):Bool:=decide (0<c.2.2.waiting)&&decide (c.2.2.left=0)
def plsd (c:MSc):Bool:=decide (c.2.2.way=1)
def zxr (a b:MSc):Prop:=a.2.2.since<b.2.2.since∨(a.2.2.since=b.2.2.since∧a.2.2.place<b.2.2.place)
def begM (cs:MS) (z:MSc):MS:=atP z.2.2.place zdv cs
def zzs (su:Int) (cs cs':MS):Prop:=∃ ys:MS,ys.Perm (cs.filter rdy)∧ys.Pairwise (fun a b=>¬zxr b a)∧cs'=(ys.take (su-((cs.filter plsd).length:Nat)).toNat).foldl begM cs
section
variable {cB cC cK:Addr} {S:Addr→Prop} {H0 H H1:Hp} {b db:Addr} {m:MB} {o:HO} {cs:MS} {ks:KS} {tk:List Tilt.Kick}
theorem BD.off (h:BD cB cC cK S H0 H b db m o cs ks tk) {D:Addr} (hD:H D=none):∀ c∈bdC cB cC cK b db m o cs ks,c.1≠D:=fun c hc=>zaj (h.ce c hc) hD
theorem BD.side (h:BD cB cC cK S H0 H b db m o cs ks tk) {D:Addr} {u:HO} (hD:∀ c∈bdC cB cC cK b db m o cs ks,c.1≠D) (h0:S D∨H0 D=none):BD cB cC cK S H0 (upd H D u) b db m o cs ks tk:=
 ⟨fun c hc=>by rw [zag (hD c hc)];exact h.ce c hc,h.nd,h.fs,fun a v hs hv=>by
  have:a≠D:=fun z=>by
   rcases h0 with h0 | h0
   ·exact hs (z▸h0)
   ·rw [z,h0] at hv;cases hv
  rw [zag this];exact h.sx a v hs hv,h.pn,h.cl,h.kl,h.kk,zrc h.al⟩
end
section
variable {cW cF cT cC cK cB:Addr}
def znf (cB cC cK:Addr):Sp:=fun vs H Q _=>E7 fun S b db m cs ks tk=>A4 (vs=[.ref b]) (BD cB cC cK S H H b db m (.dK (mcD cs)) cs ks tk) (((cs.filter plsd).length:Nat)≤m.supply) (∀ H' cs',zzs m.supply cs cs'→BD cB cC cK S H H' b db m (.dK (mcD cs)) cs' ks tk→Q .non H')
abbrev zbi:Stmt:=zaw (top 26) 6
theorem sc_Board_begin_waiting:zai ["self","ready","pulsed","coil"] ["self"] (zae zbi):=by walk_at "sc"
theorem ze7:zak zbi "begin_waiting" "Board.begin_waiting" ["self"]:=fun _ _ _ _ _ _ us hl=>match us,hl with | [_],_=>rfl
theorem zfa (tG:TG K mg) (tCoil:zdt K cC) (tBoard:zdz K cB) (d_turn_of:Dn P w K mg base CX0 "turn_of" ["coil"] 1 (zwl cC)) (m_Coil_begin_pulse:Md P w K mg base CX0 cC "begin_pulse" ["self"] 1 (spCh cC zdv fun _=>.non)) (F:MtK K cB "begin_waiting" "Board.begin_waiting" zbi) :
  Md P w K mg base CX0 cB "begin_waiting" ["self"] 4 (znf cB cC cK):=by
 refine F.md sc_Board_begin_waiting ze7 (fun vs H Q E h=>?_) (fun f cdv A outer s H vs Q E hr h=>?_)
 ·obtain ⟨S,b,db,m,cs,ks,tk,rfl,_⟩:=h
  rfl
 ·obtain ⟨S,b,db,m,cs,ks,tk,rfl,B,hsu,q⟩:=h
  have hu:=za2 hr
  have hu64:=hr.units
  refine ⟨_,(zab (zkn (zm5 rfl sc_Board_begin_waiting.nd (i:=1) rfl rfl (zq7 rfl rfl rfl rfl) (zhw (zah (pv 0) rfl)) (zeq (own:=[("coil",3)]) rfl) (fun _ _ _ _ _=>zbp (i:=3) sc_Board_begin_waiting.nd rfl (Or.inl rfl)) (fun _ _ _ _ _=>(zqq (PW.pt (zko (zan zfm (zqo (K:=K) rfl (pv 3) rfl) zao (zam _)) (zi0 (zan zbg (zqo (K:=K) rfl (pv 3) rfl) zao (zam _))))))) (fun _ _ _ _ _=>(pv 3))))
   (zab (za5 (zan zbg (za7 zav (by rfl) tG.b_len zcs (zaa (pv 1) zad)) zao (zam _)) (zac zm4) zaq)
   (zab (zkn (zm5 rfl sc_Board_begin_waiting.nd (i:=2) rfl rfl (zq7 rfl rfl rfl rfl) (zhw (zah (pv 0) rfl)) (zeq (own:=[("coil",3)]) rfl) (fun _ _ _ _ _=>zbp (i:=3) sc_Board_begin_waiting.nd rfl (Or.inl rfl)) (fun _ _ _ _ _=>(zqq (zan zbg (zqo (K:=K) rfl (pv 3) rfl) (zap tG.g_PULSED) (zam _)))) (fun _ _ _ _ _=>(pv 3))))
   (zac (zd3 PassesOwn.never rfl (zkm (zhu znd (zye d_turn_of hr (pv 1) tG.b_sorted) zvv (zfo (zej zvm (zah (pv 0) rfl) (za7 zav (by rfl) tG.b_len zcs (zaa (pv 2) zad)))))) (zbp (i:=3) sc_Board_begin_waiting.nd rfl (Or.inl rfl))
    (zac (zal (zbk m_Coil_begin_pulse tCoil.cl hr zaz (pv 3))))))))),?_⟩
  have f_tCoil_cl:=tCoil.cl
  have f_tCoil_n_left:=tCoil.n_left
  have f_tCoil_n_waiting:=tCoil.n_waiting
  have f_tBoard_cl:=tBoard.cl
  have f_tBoard_n_coils:=tBoard.n_coils
  have f_tCoil_n_way:=tCoil.n_way
  have f_tBoard_n_supply:=tBoard.n_supply
  have lc:∀ (H1:Hp) (od:Obj) (g:MSc→Bool) (tt:TT) (y1 y2 y3:Option V) (Qd:Addr→Hp→Prop),BD cB cC cK S H H1 b db m (.frz od (.dK (mcD cs))) cs ks tk→
    (∀ (σ:St) (H':Hp) (x:MSc) (R:Bool→Hp→Prop),σ=[some (.ref b),y1,y2,some (.ref x.1)]→H' x.1=some (.ins cC x.2.1 (za4 x.2.2))→R (g x) H'→tt σ H' R)→
    (∀ D H',H' D=some (.lst ((cs.filter g).map fun c=>.ref c.1))→SameX (fun a=>H1 a=none) H1 H'→Same H1 H'→BD cB cC cK S H H' b db m (.frz od (.dK (mcD cs))) cs ks tk→Qd D H')→
    ∀ D,H1 D=none→∃ W:Nat→Nat→Hp→Prop,(∃ m,W 0 m (upd H1 D (.lst [])))∧∀ i mm H,W i mm H→((Itd m.coils od (mcD cs)).stop i H∧Qd D H)∨((Itd m.coils od (mcD cs)).go i H∧∃ Nx:Hp→Prop,(∀ H',Nx H'→∃ m',m'<mm∧W (i+1) m' H')∧∀ x H',(Itd m.coils od (mcD cs)).yld i H x H'→(zke 3) x (wipe [some (.ref b),y1,y2,y3] [3]) H' fun σ2 H2=>wipe σ2 [3]=wipe [some (.ref b),y1,y2,y3] [3]∧tt σ2 H2 fun b H3=>
  if b=true then (tVar 3) σ2 H3 fun y H4=>∃ acc,H4 D=some (.lst acc)∧acc.length<sizeLine∧Nx (upd H4 D (.lst (acc++[y]))) else Nx H3):=by
   intro H1 od g tt y1 y2 y3 Qd B1 htt hq D hD
   have off:=B1.off hD
   have h0D:S D∨H D=none:=by
    by_cases hs:S D
    ·exact .inl hs
    ·refine .inr ?_
     cases hz:H D with
     | none=>rfl
     | some u=>rw [B1.sx D u hs hz] at hD;cases hD
   refine zoo (n:=cs.length) (fun i H'=>H' D=some (.lst (((cs.take i).filter g).map fun c=>.ref c.1))∧Same H1 H'∧BD cB cC cK S H H' b db m (.frz od (.dK (mcD cs))) cs ks tk) ⟨zaf,Same.new hD,B1.same (Same.new hD)⟩ (fun H' hp=>?_) (fun i H' hi hp=>?_)
   ·obtain ⟨p1,p2,p3⟩:=hp
    rw [List.take_length] at p1
    exact ⟨⟨p3.dict,by simp [mcD]⟩,hq D H' p1 (SameX.of p2) p2 p3⟩
   ·obtain ⟨p1,p2,p3⟩:=hp
    refine ⟨⟨p3.dict,by simpa [mcD] using hi⟩,fun v H2 hv=>?_⟩
    obtain ⟨rfl,k,hk⟩:=hv
    obtain ⟨x,hx,rfl⟩:=zqa rfl rfl hk
    refine ⟨rfl,htt _ _ x _ rfl (p3.coil (List.mem_of_getElem? hx)) ?_⟩
    rw [zbe hx,List.filter_append]
    cases hg:g x with
    | true=>
     refine iteT ⟨_,rfl,_,p1,?_,?_,?_,p3.side off h0D⟩
     ·have h1:=List.length_filter_le g (cs.take i)
      have h2:=List.length_take_le i cs
      have:=B.cl
      simp [sizeLine];omega
     ·rw [zaf];simp [hg]
     ·exact fun b o hb=>by rw [zag (zaj hb hD)];exact p2 b o hb
    | false=>
     refine iteF ⟨?_,p2,p3⟩
     rw [p1];simp [hg]
  refine ⟨m.coils,_,B.dict,True.intro,fun od=>?_⟩
  have B1:=B.lock (.frz od (.dK (mcD cs)))
  refine ⟨_,rfl,b,_,_,_,_,rfl,B1.self,f_tBoard_cl,f_tBoard_n_coils,rfl,m.coils,od,_,rfl,B1.dict,lc _ od rdy _ none none none _ B1 (fun σ H' x R hσ hx hR=>?_) fun D H2 hD _ k2 B2=>?_⟩
  ·subst hσ
   refine ⟨_,rfl,x.1,_,_,_,_,rfl,hx,f_tCoil_cl,f_tCoil_n_waiting,rfl,_,_,rfl,rfl,_,rfl,?_⟩
   unfold rdy at hR
   cases h1:decide (0<x.2.2.waiting) with
   | false=>
    rw [h1,Bool.false_and] at hR
    exact iteF hR
   | true=>
    rw [h1,Bool.true_and] at hR
    refine iteT ⟨_,rfl,x.1,_,_,_,_,rfl,hx,f_tCoil_cl,f_tCoil_n_left,rfl,rfl,_,rfl,?_⟩
    rw [zas]
    exact hR
  have hDc:D≠m.coils:=fun z=>by rw [z,B2.dict] at hD;cases hD
  have B3:=B2.lock (.dK (mcD cs))
  have hD3:upd H2 m.coils (.dK (mcD cs)) D=some (.lst ((cs.filter rdy).map fun c=>.ref c.1)):=by rw [zag hDc];exact hD
  refine ⟨B2.dict,_,rfl,D,_,rfl, .inl (SqL.of hD3),rfl,_,rfl,?_⟩
  rw [zas,List.length_map]
  by_cases h0:((cs.filter rdy).length:Int)=0
  ·rw [decide_eq_true h0]
   refine iteT (q _ cs ⟨[],?_,List.Pairwise.nil,by simp⟩ B3)
   have:cs.filter rdy=[]:=List.eq_nil_of_length_eq_zero (by omega)
   rw [this]
  rw [decide_eq_false h0]
  refine iteF ⟨m.coils,_,B3.dict,True.intro,fun od2=>?_⟩
  have B4:=B3.lock (.frz od2 (.dK (mcD cs)))
  refine ⟨_,rfl,b,_,_,_,_,rfl,B4.self,f_tBoard_cl,f_tBoard_n_coils,rfl,m.coils,od2,_,rfl,B4.dict,lc _ od2 plsd _ (some (.ref D)) none none _ B4 (fun σ H' x R hσ hx hR=>?_) fun D2 H5 hD2 _ k5 B5=>?_⟩
  ·subst hσ
   refine ⟨_,rfl,x.1,_,_,_,_,rfl,hx,f_tCoil_cl,f_tCoil_n_way,rfl,rfl,_,rfl,?_⟩
   rw [zas]
   exact hR
  have hD4:upd (upd H2 m.coils (.dK (mcD cs))) m.coils (.frz od2 (.dK (mcD cs))) D=some (.lst ((cs.filter rdy).map fun c=>.ref c.1)):=by rw [zag hDc];exact hD3
  have hD5:=k5 _ _ hD4
  have hDc2:D2≠m.coils:=fun z=>by rw [z,B5.dict] at hD2;cases hD2
  have B6:=B5.lock (.dK (mcD cs))
  generalize hH6:upd H5 m.coils (.dK (mcD cs))=H6 at B6
  have hD6:H6 D=some (.lst ((cs.filter rdy).map fun c=>.ref c.1)):=by rw [← hH6,zag hDc];exact hD5
  have hE6:H6 D2=some (.lst ((cs.filter plsd).map fun c=>.ref c.1)):=by rw [← hH6,zag hDc2];exact hD2
  refine ⟨B5.dict,?_⟩
  rw [hH6]
  have exs:((cs.filter rdy).map fun c=>((c.1,c.2.2.since,c.2.2.place):SX)).map (fun x=>V.ref x.1)=(cs.filter rdy).map fun c=>V.ref c.1:=by rw [List.map_map];rfl
  refine ⟨_,rfl,D,(cs.filter rdy).map (fun c=>(c.1,c.2.2.since,c.2.2.place)),rfl,by rw [exs];exact SqL.of hD6,?_,?_,?_⟩
  ·have h1:=List.length_filter_le rdy cs
   have:=B.cl
   rw [List.length_map];omega
  ·intro x hx
   obtain ⟨c,hc,rfl⟩:=List.mem_map.mp hx
   exact fun H' k Q' h'=>⟨c.1,c.2.1,c.2.2,rfl,k _ _ (B6.coil (List.mem_filter.mp hc).1),h'⟩
  intro D3 H7 ys k7 hD7 py so
  obtain ⟨zs,pz,rfl⟩:=zjf py rfl
  have B7:=B6.same k7
  have hE7:=k7 _ _ hE6
  refine ⟨_,rfl,b,_,_,_,_,rfl,B7.self,f_tBoard_cl,f_tBoard_n_supply,rfl,_,rfl,D2,_,rfl, .inl (SqL.of hE7),_,_,rfl,rfl,_,rfl,D3,_,rfl,SqL.of hD7,fun p hp=>?_⟩
  have B8:=B7.same (Same.new (o:=.lst (cutV ((zs.map fun c=>((c.1,c.2.2.since,c.2.2.place):SX)).map fun x=>V.ref x.1) none (some (m.supply-((cs.filter plsd).map fun c=>V.ref c.1).length)))) hp)
  have ecut:cutV ((zs.map fun c=>((c.1,c.2.2.since,c.2.2.place):SX)).map fun x=>V.ref x.1) none (some (m.supply-((cs.filter plsd).map fun c=>V.ref c.1).length))=(zs.take (m.supply-((cs.filter plsd).length:Nat)).toNat).map fun c=>V.ref c.1:=by
   rw [List.length_map,List.map_map]
   generalize hz:(m.supply-((cs.filter plsd).length:Nat)).toNat=z
   have:m.supply-((cs.filter plsd).length:Nat)=(z:Nat):=by omega
   rw [this]
   unfold cutV
   rw [HT.sIx_nat]
   show ((zs.map fun c=>V.ref c.1).drop 0).take (min z (zs.map fun c=>V.ref c.1).length-0)=_
   rw [List.drop_zero,Nat.sub_zero,← List.map_take]
   congr 1
   rw [List.length_map]
   by_cases hle:z≤zs.length
   ·rw [Nat.min_eq_left hle]
   ·rw [Nat.min_eq_right (by omega),List.take_length,List.take_of_length_le (by omega)]
  have pre:zs.Pairwise (fun a b=>¬zxr b a):=by
   rw [List.pairwise_map] at so
   exact so
  generalize hn:(m.supply-((cs.filter plsd).length:Nat)).toNat=n at ecut
  rw [ecut] at B8 ⊢
  refine ⟨p,rfl,⟨_,SqL.of zaf⟩,?_⟩
  have skb:∀ (l:MS) (cs:MS),skel (l.foldl begM cs)=skel cs:=by
   intro l
   induction l with
   | nil=>exact fun _=>rfl
   | cons a r ih=>exact fun cs=>(ih _).trans (zd1 zm2 cs)
  refine zhg (xs:=(zs.take n).map fun c=>V.ref c.1) (fun i σ H'=>(∃ y,σ=[some (.ref b),some (.ref D),some (.ref D2),y])∧H' p=some (.lst ((zs.take n).map fun c=>V.ref c.1))∧BD cB cC cK S H H' b db m (.dK (mcD cs)) (((zs.take n).take i).foldl begM cs) ks tk) ⟨⟨none,rfl⟩,zaf,B8⟩ (fun i σ H' _ hp=>SqL.of hp.2.1) (fun i v σ H' hv hp=>?_) (fun σ H' hp=>?_)
  ·obtain ⟨⟨y,rfl⟩,hp9,B9⟩:=hp
   simp only [List.getElem?_map,Option.map_eq_some_iff] at hv
   obtain ⟨z,hz,rfl⟩:=hv
   have hzc:z∈cs:=(List.mem_filter.mp (pz.subset (List.mem_of_mem_take (List.mem_of_getElem? hz)))).1
   have hsk:(z.1,z.2.2.place)∈skel (((zs.take n).take i).foldl begM cs):=by
    rw [skb];exact List.mem_map.mpr ⟨z,hzc,rfl⟩
   obtain ⟨x,hx,e1,e2⟩:=znc hsk
   have hxc:=B9.coil hx
   rw [e1] at hxc
   refine ⟨_,rfl,z.1,_,_,rfl,hxc,rfl,z.1,x.2.1,x.2.2,rfl,hxc,⟨_,rfl⟩,?_,?_⟩
   ·rw [zag (fun e=>by rw [e,hxc] at hp9;cases hp9)]
    exact hp9
   ·rw [zbe hz,List.foldl_append,List.foldl_cons,List.foldl_nil,← e1]
    unfold begM
    rw [← e2]
    exact B9.atx hx zdv (zm2 _)
  ·obtain ⟨⟨y,rfl⟩,hp9,B9⟩:=hp
   rw [List.length_map,List.take_length] at B9
   exact q _ _ ⟨zs,pz,pre,by rw [hn]⟩ B9
end
end
section
open Tilt (Stand Hold)
def zhi (k:Int):Hold:=if k=1 then .order else if k=2 then .kick else .no
def stOf (c:MC):Stand:=if c.way=1 then .pulsed c.left.toNat c.kicked (zhi c.keeper) else if c.way=2 then .held (zhi c.keeper) c.left.toNat
 else if 0<c.waiting then .waits c.left.toNat c.waiting.toNat c.since.toNat c.kicked (zhi c.keeper) else .rests c.left.toNat
structure MCo (c:Tilt.Coil) (x:MC):Prop where
 place:x.place=c.place
 most:x.most=c.most
 rest:x.rest=c.rest
 hold:x.hold=c.hold
 way:x.way=0∨x.way=1∨x.way=2
 left:0≤x.left
 wait:0≤x.waiting
 since:0≤x.since
 keep:x.keeper=0∨x.keeper=1∨x.keeper=2
 puls:x.way=1→1≤x.left
 busy:x.way≠0→x.waiting=0
theorem zol {k:Int} (h:k=0∨k=1∨k=2):zhi k = .no↔k=0:=by
 rcases h with rfl | rfl | rfl<;>simp [zhi]
section
variable {c:Tilt.Coil} {x:MC}
theorem MCo.ask (h:MCo c x) {n t:Nat} {k:Bool} {g:Int} (hn:1≤n) (hg:g=0∨g=1∨g=2):MCo c (zev x n t k g)∧stOf (zev x n t k g)=(stOf x).ask n t k (zhi g):=by
 unfold zev zge
 by_cases h1:x.way=0
 ·by_cases h2:x.waiting=0
  ·rw [if_pos (by simp [h1,h2])]
   refine ⟨⟨h.place,h.most,h.rest,h.hold,h.way,h.left,by show (0:Int)≤n;omega,by show (0:Int)≤t;omega,hg,fun z=>by rw [show x.way=1 from z] at h1;omega,fun z=>absurd h1 z⟩,?_⟩
   have:(0:Int)<n:=by omega
   simp [stOf,h1,h2,Stand.ask,this]
   intro z;omega
  ·rw [if_neg (by simp [h2])]
   refine ⟨h,?_⟩
   have:0<x.waiting:=by have:=h.wait;omega
   simp [stOf,h1,this,Stand.ask]
 ·rw [if_neg (by simp [h1])]
  refine ⟨h,?_⟩
  rcases h.way with z | z | z
  ·exact absurd z h1
  ·simp [stOf,z,Stand.ask]
  ·simp [stOf,z,Stand.ask]
theorem MCo.endp (h:MCo c x) (hw:x.waiting=0):MCo c (zc2 x)∧stOf (zc2 x)=Tilt.over c (zhi x.keeper):=by
 have hr:=h.rest;have hh:=h.hold
 unfold zc2 Tilt.over
 by_cases h0:x.keeper=0
 ·rw [if_pos h0,if_pos ((zol h.keep).mpr h0)]
  refine ⟨⟨h.place,h.most,h.rest,h.hold, .inl rfl,by show 0≤x.rest;omega,h.wait,h.since,h.keep,fun z=>absurd z (show ¬(0:Int)=1 by decide),fun z=>absurd rfl z⟩,?_⟩
  simp [stOf,zem,hw,hr]
 ·rw [if_neg h0,if_neg (fun z=>h0 ((zol h.keep).mp z))]
  refine ⟨⟨h.place,h.most,h.rest,h.hold, .inr (.inr rfl),by show 0≤x.hold;omega,h.wait,h.since,h.keep,fun z=>absurd z (show ¬(2:Int)=1 by decide),fun _=>hw⟩,?_⟩
  simp [stOf,hh]
theorem MCo.letGo (h:MCo c x):MCo c (za3 x)∧stOf (za3 x)=(stOf x).letGo c:=by
 have hr:=h.rest;have hl:=h.left
 unfold za3
 rcases h.way with z | z | z
 ·rw [if_neg (by omega)]
  refine ⟨⟨h.place,h.most,h.rest,h.hold,h.way,h.left,by show (0:Int)≤0;omega,h.since, .inl rfl,h.puls,fun _=>rfl⟩,?_⟩
  by_cases hw:0<x.waiting<;>simp [stOf,z,Stand.letGo,hw]
 ·rw [if_neg (by omega)]
  refine ⟨⟨h.place,h.most,h.rest,h.hold,h.way,h.left,by show (0:Int)≤0;omega,h.since, .inl rfl,h.puls,fun _=>rfl⟩,?_⟩
  simp [stOf,z,Stand.letGo,zhi]
 ·rw [if_pos z]
  refine ⟨⟨h.place,h.most,h.rest,h.hold, .inl rfl,by show 0≤x.rest;omega,by show (0:Int)≤0;omega,h.since, .inl rfl,fun z=>absurd z (show ¬(0:Int)=1 by decide),fun z=>absurd rfl z⟩,?_⟩
  simp [stOf,z,Stand.letGo,zem,hr]
theorem MCo.cut (h:MCo c x):MCo c (zeh x)∧stOf (zeh x)=(stOf x).halt_ c:=by
 obtain ⟨h1,h2⟩:=h.letGo
 have hr:=h.rest;have hl:=h.left
 unfold zeh
 rcases h.way with z | z | z
 ·have e:(za3 x).way=0:=by simp [za3,z]
  rw [if_neg (by omega)]
  refine ⟨h1,?_⟩
  rw [h2]
  by_cases hw:0<x.waiting<;>simp [stOf,z,Stand.letGo,Stand.halt_,hw]
 ·have e:(za3 x).way=1:=by simp [za3,z]
  rw [if_pos e]
  refine ⟨⟨h1.place,h1.most,h1.rest,h1.hold, .inl rfl,by show 0≤(za3 x).rest;rw [h1.rest];omega,h1.wait,h1.since,h1.keep,fun z=>absurd z (show ¬(0:Int)=1 by decide),fun z=>absurd rfl z⟩,?_⟩
  have hw:(za3 x).waiting=0:=h1.busy (by omega)
  simp [stOf,zem,hw,h1.rest,z,Stand.halt_]
 ·have e:(za3 x).way=0:=by simp [za3,z,zem]
  rw [if_neg (by omega)]
  refine ⟨h1,?_⟩
  rw [h2]
  simp [stOf,z,Stand.letGo,Stand.halt_]
theorem MCo.passes (h:MCo c x):MCo c (zc3 x)∧stOf (zc3 x)=(stOf x).pass c∧mcOn x=(stOf x).on:=by
 have hr:=h.rest;have hl:=h.left;have hh:=h.hold;have hwt:=h.wait
 rcases h.way with z | z | z
 ·have e1:zc3 x=if 0<x.left then { x with left:=x.left-1 } else x:=by
   unfold zc3;rw [if_neg (show ¬x.way=1 by omega),if_neg (show ¬x.way=2 by omega)]
  have e2:mcOn x=false:=by
   unfold mcOn;rw [if_neg (show ¬x.way=1 by omega),if_neg (show ¬x.way=2 by omega)];split<;>rfl
  rw [e1,e2]
  by_cases h1:0<x.left
  ·rw [if_pos h1]
   refine ⟨⟨h.place,h.most,h.rest,h.hold,h.way,by show 0≤x.left-1;omega,h.wait,h.since,h.keep,fun y=>by rw [show x.way=1 from y] at z;omega,fun y=>absurd z y⟩,?_,?_⟩
   ·by_cases hw:0<x.waiting<;>simp [stOf,z,Stand.pass,hw]<;>omega
   ·by_cases hw:0<x.waiting<;>simp [stOf,z,Stand.on,hw]
  ·rw [if_neg h1]
   refine ⟨h,?_,?_⟩
   ·by_cases hw:0<x.waiting<;>simp [stOf,z,Stand.pass,hw]<;>omega
   ·by_cases hw:0<x.waiting<;>simp [stOf,z,Stand.on,hw]
 ·have hp:=h.puls z
  have hw:=h.busy (by omega)
  unfold zc3 mcOn
  rw [if_pos z,if_pos z]
  by_cases h1:x.left-1=0
  ·rw [if_pos h1]
   have h3:MCo c { x with left:=x.left-1 }∨True:=.inr trivial
   have e2:zc2 { x with left:=x.left-1 }=zc2 x:=by unfold zc2 zem;rfl
   rw [e2]
   obtain ⟨a1,a2⟩:=h.endp hw
   refine ⟨a1,?_,?_⟩
   ·rw [a2]
    have:x.left.toNat≤1:=by omega
    simp [stOf,z,Stand.pass,this]
   ·simp [stOf,z,Stand.on]
  ·rw [if_neg h1]
   refine ⟨⟨h.place,h.most,h.rest,h.hold,h.way,by show 0≤x.left-1;omega,h.wait,h.since,h.keep,fun _=>by show 1≤x.left-1;omega,h.busy⟩,?_,?_⟩
   ·have:¬x.left.toNat≤1:=by omega
    simp [stOf,z,Stand.pass,this]
    try omega
   ·simp [stOf,z,Stand.on]
 ·have hw:=h.busy (by omega)
  have e1:zc3 x=if 0<x.left then { x with left:=x.left-1 } else { x with left:=x.hold }:=by
   unfold zc3;rw [if_neg (show ¬x.way=1 by omega),if_pos z]
  have e2:mcOn x=if 0<x.left then false else true:=by
   unfold mcOn;rw [if_neg (show ¬x.way=1 by omega),if_pos z]
  rw [e1,e2]
  by_cases h1:0<x.left
  ·rw [if_pos h1,if_pos h1]
   refine ⟨⟨h.place,h.most,h.rest,h.hold,h.way,by show 0≤x.left-1;omega,h.wait,h.since,h.keep,fun y=>by rw [show x.way=1 from y] at z;omega,h.busy⟩,?_,?_⟩
   ·have:¬x.left.toNat=0:=by omega
    simp [stOf,z,Stand.pass]
    intro y;omega
   ·simp [stOf,z,Stand.on]
    try omega
  ·rw [if_neg h1,if_neg h1]
   have h0:x.left=0:=by omega
   refine ⟨⟨h.place,h.most,h.rest,h.hold,h.way,by show 0≤x.hold;omega,h.wait,h.since,h.keep,fun y=>by rw [show x.way=1 from y] at z;omega,h.busy⟩,?_,?_⟩
   ·simp [stOf,z,Stand.pass,h0,hh]
   ·simp [stOf,z,Stand.on,h0]
theorem MCo.beg (h:MCo c x) (hw:0<x.waiting):MCo c (zdv x)∧stOf (zdv x)=(stOf x).begin_:=by
 have z:x.way=0:=by
  rcases h.way with z | z | z
  ·exact z
  ·have:=h.busy (by omega);omega
  ·have:=h.busy (by omega);omega
 refine ⟨⟨h.place,h.most,h.rest,h.hold, .inr (.inl rfl),h.wait,by show (0:Int)≤0;omega,h.since,h.keep,fun _=>by show 1≤x.waiting;omega,fun _=>rfl⟩,?_⟩
 simp [stOf,zdv,z,hw,Stand.begin_]
theorem MCo.ready (h:MCo c x):(stOf x).ready=if 0<x.waiting∧x.left=0 then some x.since.toNat else none:=by
 have hl:=h.left
 rcases h.way with z | z | z
 ·by_cases hw:0<x.waiting
  ·by_cases h0:x.left=0
   ·simp [stOf,z,hw,h0,Stand.ready]
   ·simp only [stOf,z,hw,h0]
    obtain ⟨n,hn⟩ : ∃ n,x.left.toNat=n+1:=⟨x.left.toNat-1,by omega⟩
    simp [hn,Stand.ready]
  ·simp [stOf,z,hw,Stand.ready]
 ·have:=h.busy (by omega)
  simp [stOf,z,this,Stand.ready]
 ·have:=h.busy (by omega)
  simp [stOf,z,this,Stand.ready]
theorem MCo.isP (h:MCo c x):(stOf x).isPulsed=decide (x.way=1):=by
 rcases h.way with z | z | z
 ·by_cases hw:0<x.waiting<;>simp [stOf,z,hw,Stand.isPulsed]
 ·simp [stOf,z,Stand.isPulsed]
 ·simp [stOf,z,Stand.isPulsed]
def znr (c:Tilt.Coil) (s:Stand):Stand:=match s with
 | .pulsed _ true h=>Tilt.over c h
 | z=>z
theorem MCo.till (h:MCo c x):(MCo c (if x.way=1∧x.kicked=true then zc2 x else x))∧stOf (if x.way=1∧x.kicked=true then zc2 x else x)=znr c (stOf x):=by
 by_cases h1:x.way=1
 ·have hw:=h.busy (by omega)
  cases h2:x.kicked with
  | true=>
   rw [if_pos ⟨h1,rfl⟩]
   obtain ⟨a1,a2⟩:=h.endp hw
   refine ⟨a1,?_⟩
   rw [a2]
   simp [stOf,h1,znr,h2]
  | false=>
   rw [if_neg (fun z=>by cases z.2)]
   refine ⟨h,?_⟩
   simp [stOf,h1,znr,h2]
 ·rw [if_neg (fun z=>h1 z.1)]
  refine ⟨h,?_⟩
  simp only [stOf,h1,if_false]
  split
  ·rfl
  ·split<;>rfl
theorem MCo.stand (h:MCo c x):zil x=(TiltCoilCalls.standNums (stOf x)).map fun (n:Nat)=>(n:Int):=by
 have hl:=h.left;have hs:=h.since
 have kn:∀ b:Bool,b2i b=(b.toNat:Int):=by intro b;cases b<;>rfl
 have kp:x.keeper=((zhi x.keeper).number:Int):=by
  rcases h.keep with z | z | z<;>rw [z]<;>rfl
 have l1:x.left=(x.left.toNat:Int):=by omega
 unfold zil
 rcases h.way with z | z | z
 ·by_cases hw:0<x.waiting
  ·simp [stOf,z,hw,TiltCoilCalls.standNums,kn,← kp]
   omega
  ·simp [stOf,z,hw,TiltCoilCalls.standNums]
   omega
 ·simp [stOf,z,TiltCoilCalls.standNums,kn,← kp]
  omega
 ·simp [stOf,z,TiltCoilCalls.standNums,← kp]
  omega
end
end
section
open Tilt (Stand Hold Drive Table)
structure TOk (T:Table):Prop where
 nd:(T.coils.map (·.place)).Nodup
 le:∀ c∈T.coils,c.place≤31
 kt:∀ k∈T.kicks,1≤k.ticks
def PRel (x:Drive) (c:Tilt.Coil) (y:MSc):Prop:=MCo c y.2.2∧x.get c.place=stOf y.2.2
structure Rel (T:Table) (su:Nat) (x:Drive) (m:MB) (cs:MS):Prop where
 co:Paired (PRel x) T.coils cs
 ln:x.at_.length=32
 no:∀ p,T.coilAt p=none→x.get p=Tilt.free
 pa:m.passed=x.tick
 kg:m.kicking=x.kicks
 pu:x.pulses≤su
 sp:m.supply=su
theorem zfs {α β γ:Type} {G:α→β→Prop} {G':α→γ→Prop} {h:β→γ} {l:List α} {m:List β} (p:Paired G l m) (k:∀ a∈l,∀ b∈m,G a b→G' a (h b)):Paired G' l (m.map h):=by
 induction p with
 | nil=>exact .nil
 | cons r t ih=>exact .cons (k _ (by simp) _ (by simp) r) (ih fun a ha b hb=>k a (List.mem_cons_of_mem _ ha) b (List.mem_cons_of_mem _ hb))
theorem zqn {α β:Type} {G G':α→β→Prop} {l:List α} {m:List β} (p:Paired G l m) (k:∀ a∈l,∀ b∈m,G a b→G' a b):Paired G' l m:=by
 have:=zfs (h:=id) p (G':=G') k
 rwa [List.map_id] at this
theorem zg0 {α β:Type} {G:α→β→Prop} {l:List α} {m:List β} (p:Paired G l m) {a:α} (ha:a∈l):∃ b∈m,G a b:=by
 induction p with
 | nil=>cases ha
 | cons r t ih=>
  rcases List.mem_cons.mp ha with rfl | ha
  ·exact ⟨_,by simp,r⟩
  ·obtain ⟨b,hb,g⟩:=ih ha
   exact ⟨b,List.mem_cons_of_mem _ hb,g⟩
theorem zdi {α β:Type} {G:α→β→Prop} {l:List α} {m:List β} (p:Paired G l m) {b:β} (hb:b∈m):∃ a∈l,G a b:=by
 induction p with
 | nil=>cases hb
 | cons r t ih=>
  rcases List.mem_cons.mp hb with rfl | hb
  ·exact ⟨_,by simp,r⟩
  ·obtain ⟨a,ha,g⟩:=ih hb
   exact ⟨a,List.mem_cons_of_mem _ ha,g⟩
theorem zmt {l:List Tilt.Coil} (n:(l.map (·.place)).Nodup) {a b:Tilt.Coil} (ha:a∈l) (hb:b∈l) (e:a.place=b.place):a=b:=by
 induction l with
 | nil=>cases ha
 | cons x r ih=>
  rw [List.map_cons,List.nodup_cons] at n
  rcases List.mem_cons.mp ha with e1 | h1<;>rcases List.mem_cons.mp hb with e2 | h2
  ·rw [e1,e2]
  ·exact absurd (by rw [← e1,e];exact List.mem_map.mpr ⟨b,h2,rfl⟩) n.1
  ·exact absurd (by rw [← e2,← e];exact List.mem_map.mpr ⟨a,h1,rfl⟩) n.1
  ·exact ih n.2 h1 h2
theorem zcz {T:Table} {p:Nat} {c:Tilt.Coil} (h:T.coilAt p=some c):c∈T.coils∧c.place=p:=by
 unfold Table.coilAt at h
 exact ⟨List.mem_of_find?_eq_some h,by have:=List.find?_some h;simpa using this⟩
theorem zj8 {T:Table} {p:Nat} (h:T.coilAt p=none):∀ c∈T.coils,c.place≠p:=by
 unfold Table.coilAt at h
 intro c hc z
 have:=List.find?_eq_none.mp h c hc
 simp [z] at this
theorem zif {T:Table} (k:TOk T) {c:Tilt.Coil} (h:c∈T.coils):T.coilAt c.place=some c:=by
 cases e:T.coilAt c.place with
 | none=>exact absurd rfl (zj8 e c h)
 | some d=>
  obtain ⟨h1,h2⟩:=zcz e
  rw [zmt k.nd h1 h h2]
theorem zii {x:Drive} {p q:Nat} {s:Stand} (h:p<x.at_.length):(x.set p s).get q=if q=p then s else x.get q:=by
 unfold Drive.set Drive.get
 show (x.at_.set p s).getD q Tilt.free=_
 rw [List.getD_eq_getElem?_getD,List.getD_eq_getElem?_getD,List.getElem?_set]
 by_cases e:q=p
 ·subst e;simp [h]
 ·rw [if_neg (fun z=>e z.symm),if_neg e]
theorem zly {x:Drive} {p:Nat} {s:Stand} (h:p<x.at_.length):(x.set p s).pulses=(x.pulses-if (x.get p).isPulsed=true then 1 else 0)+if s.isPulsed=true then 1 else 0:=by
 unfold Drive.pulses Drive.set
 show ((x.at_.set p s).filter Stand.isPulsed).length=_
 rw [← List.countP_eq_length_filter,← List.countP_eq_length_filter,List.countP_set h]
 have:x.get p=x.at_[p]:=by
  unfold Drive.get
  rw [List.getD_eq_getElem?_getD,List.getElem?_eq_getElem h];rfl
 rw [this]
theorem ztj {x:Drive} {p:Nat} (h:p<x.at_.length) (hp:(x.get p).isPulsed=true):1≤x.pulses:=by
 have e:x.get p=x.at_[p]:=by
  unfold Drive.get
  rw [List.getD_eq_getElem?_getD,List.getElem?_eq_getElem h];rfl
 rw [e] at hp
 unfold Drive.pulses
 exact List.length_pos_of_mem (List.mem_filter.mpr ⟨List.getElem_mem h,hp⟩)
section
variable {T:Table} {su:Nat} {x:Drive} {m:MB} {cs:MS}
theorem Rel.change (k:TOk T) (r:Rel T su x m cs) {p:Nat} {f:Tilt.Coil→Stand→Stand} {g:MC→MC} (hg:∀ c y,c∈T.coils→c.place=p→MCo c y→MCo c (g y)∧stOf (g y)=f c (stOf y)) (hp:∀ c s,(f c s).isPulsed=true→s.isPulsed=true) :
  Rel T su (T.change p f x) m (atP p g cs):=by
 unfold Table.change
 cases e:T.coilAt p with
 | none=>
  have:atP p g cs=cs:=by
   unfold atP
   conv=>rhs;rw [← List.map_id cs]
   refine List.map_congr_left fun y hy=>if_neg fun z=>?_
   obtain ⟨c,hc,h1,h2⟩:=zdi r.co hy
   exact zj8 e c hc (by have:=h1.place;omega)
  rw [this]
  exact r
 | some c=>
  obtain ⟨hc,rfl⟩:=zcz e
  have hl:c.place<x.at_.length:=by rw [r.ln];have:=k.le c hc;omega
  refine ⟨zfs r.co fun a ha y hy h=>?_,?_,fun q hq=>?_,r.pa,r.kg,?_,r.sp⟩
  ·obtain ⟨h1,h2⟩:=h
   by_cases ea:a.place=c.place
   ·have:=zmt k.nd ha hc ea
    subst this
    obtain ⟨g1,g2⟩:=hg a y.2.2 ha rfl h1
    rw [if_pos h1.place]
    refine ⟨g1,?_⟩
    rw [zii hl,if_pos rfl,h2]
    exact g2.symm
   ·rw [if_neg (fun z=>ea (by have:=h1.place;omega))]
    refine ⟨h1,?_⟩
    rw [zii hl,if_neg ea]
    exact h2
  ·show (x.at_.set _ _).length=32
   rw [List.length_set];exact r.ln
  ·rw [zii hl,if_neg (fun z=>by rw [z,e] at hq;cases hq)]
   exact r.no q hq
  ·show (x.set c.place (f c (x.get c.place))).pulses≤su
   rw [zly hl]
   have hpu:=r.pu
   by_cases h1:(f c (x.get c.place)).isPulsed=true
   ·have h2:=hp _ _ h1
    have:=ztj hl h2
    rw [if_pos h1,if_pos h2]
    omega
   ·rw [if_neg h1]
    omega
end
end
section
open Tilt (Stand Hold Drive Table)
theorem zrd {p:Int} {f g:MC→MC} (hf:∀ c,(f c).place=c.place) (cs:MS):atP p g (atP p f cs)=atP p (fun c=>g (f c)) cs:=by
 unfold atP
 rw [List.map_map]
 refine List.map_congr_left fun c _=>?_
 simp only [Function.comp]
 by_cases h:c.2.2.place=p
 ·simp [h,onC,hf]
 ·simp [h]
theorem zt2 {p:Int} {f:MC→MC} (hf:∀ c,f c=c) (cs:MS):atP p f cs=cs:=by
 unfold atP
 conv=>rhs;rw [← List.map_id cs]
 refine List.map_congr_left fun c _=>?_
 by_cases h:c.2.2.place=p
 ·simp [h,onC,hf]
 ·simp [h]
section
variable {T:Table} {su:Nat} {x:Drive} {m:MB} {cs:MS}
def zxt (T:Table) (n e:Nat) (y:Drive) (k:Tilt.Kick):Drive:=
 let a:=if e=k.first then T.change k.coil (fun (c:Tilt.Coil) (s:Stand)=>s.ask k.ticks n true (if c.hold=0 then .no else .kick)) y else y
 let b:=if k.till=some e then T.change k.coil znr a else a
 if e=64+k.first then T.change k.coil Stand.letGo b else b
theorem zxf (T:Table) (x:Drive) (e:Nat):T.event x e=if x.kicks=false then x else T.kicks.foldl (zxt T x.tick e) x:=rfl
theorem zzx {s:Stand} {n t:Nat} {k:Bool} {h:Hold} (z:(s.ask n t k h).isPulsed=true):s.isPulsed=true:=by cases s<;>first | rfl | exact z
theorem zp9 {c:Tilt.Coil} {s:Stand} (z:(s.letGo c).isPulsed=true):s.isPulsed=true:=by cases s<;>first | rfl | exact z
theorem zy9 {c:Tilt.Coil} {s:Stand} (z:(s.halt_ c).isPulsed=true):s.isPulsed=true:=by cases s<;>first | rfl | exact z
theorem zDn {c:Tilt.Coil} {s:Stand} (z:(znr c s).isPulsed=true):s.isPulsed=true:=by
 cases s with
 | pulsed=>rfl
 | held=>exact z
 | rests=>exact z
 | waits=>exact z
theorem Rel.kick (ok:TOk T) (r:Rel T su x m cs) {k:Tilt.Kick} (hk:k∈T.kicks) (n e:Nat):Rel T su (zxt T n e x k) m (zon e n cs k):=by
 have h1:=ok.kt k hk
 let g1:MC→MC:=fun c=>if (e:Int)=k.first then zev c k.ticks n true (if 0<c.hold then 2 else 0) else c
 let g2:MC→MC:=fun c=>if V.int e=zk0 k.till∧c.way=1∧c.kicked=true then zc2 c else c
 let g3:MC→MC:=fun c=>if (e:Int)=64+k.first then za3 c else c
 have p1:∀ c,(g1 c).place=c.place:=fun c=>by
  show (if (e:Int)=k.first then _ else _:MC).place=_
  split
  ·exact zlx ..
  ·rfl
 have p2:∀ c,(g2 c).place=c.place:=fun c=>by
  show (if V.int e=zk0 k.till∧c.way=1∧c.kicked=true then zc2 c else c).place=_
  split
  ·exact zvs _
  ·rfl
 have e0:zon e n cs k=atP k.coil g3 (atP k.coil g2 (atP k.coil g1 cs)):=by
  rw [zrd p2,zrd p1]
  rfl
 rw [e0]
 unfold zxt
 have r1:Rel T su (if e=k.first then T.change k.coil (fun (c:Tilt.Coil) (s:Stand)=>s.ask k.ticks n true (if c.hold=0 then .no else .kick)) x else x) m (atP k.coil g1 cs):=by
  by_cases he:e=k.first
  ·rw [if_pos he]
   refine r.change ok (fun c y hc hp w=>?_) fun c s z=>zzx z
   show MCo c (if (e:Int)=k.first then zev y k.ticks n true (if 0<y.hold then 2 else 0) else y)∧stOf (if (e:Int)=k.first then zev y k.ticks n true (if 0<y.hold then 2 else 0) else y)=_
   rw [if_pos (by rw [he])]
   have hh:=w.hold
   by_cases h0:c.hold=0
   ·rw [if_neg (by omega),if_pos h0]
    exact w.ask h1 (.inl rfl)
   ·rw [if_pos (by omega),if_neg h0]
    exact w.ask h1 (.inr (.inr rfl))
  ·rw [if_neg he,zt2 (fun c=>if_neg (by omega))]
   exact r
 generalize (if e=k.first then T.change k.coil (fun (c:Tilt.Coil) (s:Stand)=>s.ask k.ticks n true (if c.hold=0 then .no else .kick)) x else x)=x1 at r1
 generalize atP k.coil g1 cs=cs1 at r1
 have r2:Rel T su (if k.till=some e then T.change k.coil znr x1 else x1) m (atP k.coil g2 cs1):=by
  by_cases he:k.till=some e
  ·rw [if_pos he]
   refine r1.change ok (fun c y hc hp w=>?_) fun c s z=>zDn z
   have hg:g2 y=if y.way=1∧y.kicked=true then zc2 y else y:=by
    show (if V.int e=zk0 k.till∧y.way=1∧y.kicked=true then zc2 y else y)=_
    have:V.int (e:Int)=zk0 k.till:=by rw [he];rfl
    simp [this]
   rw [hg]
   exact w.till
  ·rw [if_neg he,zt2 (fun c=>if_neg (fun z=>he ?_))]
   ·exact r1
   ·have z:=z.1
    cases ht:k.till with
    | none=>rw [ht] at z;cases z
    | some t=>
     rw [ht] at z
     have:(e:Int)=t:=V.int.inj z
     have:e=t:=by omega
     rw [this]
 show Rel T su (if e=64+k.first then T.change k.coil Stand.letGo (if k.till=some e then T.change k.coil znr x1 else x1) else (if k.till=some e then T.change k.coil znr x1 else x1)) m (atP k.coil g3 (atP k.coil g2 cs1))
 generalize (if k.till=some e then T.change k.coil znr x1 else x1)=x2 at r2
 generalize atP k.coil g2 cs1=cs2 at r2
 show Rel T su (if e=64+k.first then T.change k.coil Stand.letGo x2 else x2) m (atP k.coil g3 cs2)
 by_cases he:e=64+k.first
 ·rw [if_pos he]
  refine r2.change ok (fun c y hc hp w=>?_) fun c s z=>zp9 z
  have hg:g3 y=za3 y:=if_pos (by omega)
  rw [hg]
  exact w.letGo
 ·rw [if_neg he,zt2 (fun c=>if_neg (by omega))]
  exact r2
def evM (m:MB) (tk:List Tilt.Kick) (cs:MS) (e:Int):MS:=if m.kicking=true then tk.foldl (zon e m.passed) cs else cs
theorem Rel.event (ok:TOk T) (r:Rel T su x m cs) (e:Nat):Rel T su (T.event x e) m (evM m T.kicks cs e):=by
 rw [zxf]
 unfold evM
 rw [r.kg]
 cases hk:x.kicks with
 | false=>exact r
 | true=>
  rw [if_neg (by decide),if_pos rfl,r.pa]
  have:∀ (l:List Tilt.Kick),(∀ k∈l,k∈T.kicks)→∀ (n:Nat) (x:Drive) (cs:MS),Rel T su x m cs→Rel T su (l.foldl (zxt T n e) x) m (l.foldl (zon e n) cs):=by
   intro l
   induction l with
   | nil=>exact fun _ _ _ _ r=>r
   | cons k t ih=>exact fun h n x cs r=>ih (fun z hz=>h z (List.mem_cons_of_mem _ hz)) n _ _ (r.kick ok (h k (by simp)) n e)
  exact this T.kicks (fun _ h=>h) x.tick x cs r
theorem zw9 {f:MC→MC} (hf:∀ c,(f c).place=c.place):∀ (ps:List Nat) (cs:MS),ps.Nodup→ps.foldl (fun cs (p:Nat)=>atP p f cs) cs=cs.map fun c=>if ∃ p∈ps,c.2.2.place=((p:Nat):Int) then onC f c else c:=by
 classical
 intro ps
 induction ps with
 | nil=>intro cs _;simp
 | cons p t ih=>
  intro cs n
  rw [List.nodup_cons] at n
  rw [List.foldl_cons,ih _ n.2]
  unfold atP
  rw [List.map_map]
  refine List.map_congr_left fun c _=>?_
  simp only [Function.comp]
  by_cases h:c.2.2.place=(p:Int)
  ·have hn:¬∃ q∈t,(onC f c).2.2.place=((q:Nat):Int):=by
    rintro ⟨q,hq,e⟩
    have e:(f c.2.2).place=(q:Int):=e
    rw [hf,h] at e
    have:p=q:=by omega
    exact n.1 (this▸hq)
   have hy:∃ q∈p :: t,c.2.2.place=((q:Nat):Int):=⟨p,List.mem_cons_self ..,h⟩
   rw [if_pos h,if_neg hn,if_pos hy]
  ·rw [if_neg h]
   by_cases h2:∃ q∈t,c.2.2.place=((q:Nat):Int)
   ·rw [if_pos h2,if_pos]
    obtain ⟨q,hq,e⟩:=h2
    exact ⟨q,List.mem_cons_of_mem _ hq,e⟩
   ·rw [if_neg h2,if_neg]
    rintro ⟨q,hq,e⟩
    rcases List.mem_cons.mp hq with rfl | hq
    ·exact h e
    ·exact h2 ⟨q,hq,e⟩
theorem Rel.all (ok:TOk T) (r:Rel T su x m cs):Rel T su ((T.coils.map fun (c:Tilt.Coil)=>c.place).foldl (fun (y:Drive) (p:Nat)=>T.change p Stand.halt_ y) x) m (cs.map (onC zeh)):=by
 have e:cs.map (onC zeh)=(T.coils.map fun (c:Tilt.Coil)=>c.place).foldl (fun cs (p:Nat)=>atP p zeh cs) cs:=by
  rw [zw9 zpb _ _ ok.nd]
  refine List.map_congr_left fun y hy=>?_
  obtain ⟨c,hc,h1,_⟩:=zdi r.co hy
  rw [if_pos ⟨c.place,List.mem_map.mpr ⟨c,hc,rfl⟩,h1.place⟩]
 rw [e]
 have:∀ (l:List Nat) (x:Drive) (cs:MS),Rel T su x m cs→Rel T su (l.foldl (fun (y:Drive) (p:Nat)=>T.change p Stand.halt_ y) x) m (l.foldl (fun cs (p:Nat)=>atP p zeh cs) cs):=by
  intro l
  induction l with
  | nil=>exact fun _ _ r=>r
  | cons p t ih=>exact fun x cs r=>ih _ _ (r.change ok (fun c y _ _ w=>w.cut) fun c s z=>zy9 z)
 exact this _ _ _ r
theorem Rel.lets (ok:TOk T) (r:Rel T su x m cs):Rel T su (T.letKicksGo x) m (T.kicks.foldl letM cs):=by
 unfold Table.letKicksGo
 have:∀ (l:List Tilt.Kick) (x:Drive) (cs:MS),Rel T su x m cs→Rel T su (l.foldl (fun (y:Drive) (k:Tilt.Kick)=>T.change k.coil Stand.letGo y) x) m (l.foldl letM cs):=by
  intro l
  induction l with
  | nil=>exact fun _ _ r=>r
  | cons p t ih=>exact fun x cs r=>ih _ _ (r.change ok (fun c y _ _ w=>w.letGo) fun c s z=>zp9 z)
 exact this _ _ _ r
theorem Rel.kicks (r:Rel T su x m cs) (g:Bool):Rel T su { x with kicks:=g } ⟨m.supply,m.coils,m.kicks,g,m.passed⟩ cs:=⟨r.co,r.ln,r.no,r.pa,rfl,r.pu,r.sp⟩
def zw7 (o:Tilt.Order):Prop:=(o.kind≤1→1≤o.ticks)∧o.kind≤5∧(o.kind=5→o.ticks≤1)
def ordN (tk:List Tilt.Kick) (m:MB) (cs:MS) (kind place len:Int):MB:=⟨m.supply,m.coils,m.kicks,(ordM m cs tk kind place len).1,m.passed⟩
theorem Rel.order (ok:TOk T) (r:Rel T su x m cs) {o:Tilt.Order} (h:zw7 o):Rel T su (T.order x o) (ordN T.kicks m cs o.kind o.coil o.ticks) (ordM m cs T.kicks o.kind o.coil o.ticks).2:=by
 obtain ⟨a,kd,p,n⟩:=o
 obtain ⟨h1,h2,h3⟩:=h
 simp only at h1 h2 h3
 unfold ordN
 have pa:=r.pa
 match kd,h1,h2,h3 with
 | 0,h1,_,_=>
  have e:ordM m cs T.kicks (0:Nat) p n=(m.kicking,atP p (fun c=>zev c n x.tick false 0) cs):=by rw [← pa];rfl
  rw [e]
  exact r.change ok (fun c y _ _ w=>w.ask (h1 (by omega)) (.inl rfl)) fun c s z=>zzx z
 | 1,h1,_,_=>
  have e:ordM m cs T.kicks (1:Nat) p n=(m.kicking,atP p (fun c=>zev c n x.tick false 1) cs):=by rw [← pa];rfl
  rw [e]
  exact r.change ok (fun c y _ _ w=>w.ask (h1 (by omega)) (.inr (.inl rfl))) fun c s z=>zzx z
 | 2,_,_,_=>exact r.change ok (fun c y _ _ w=>w.letGo) fun c s z=>zp9 z
 | 3,_,_,_=>exact r.change ok (fun c y _ _ w=>w.cut) fun c s z=>zy9 z
 | 4,_,_,_=>exact r.all ok
 | 5,_,_,h3=>
  have h3:=h3 rfl
  have e:ordM m cs T.kicks (5:Nat) p n=(decide ((n:Int)=1),if (n:Int)=1 then cs else T.kicks.foldl letM cs):=rfl
  rw [e]
  show Rel T su (if n=0 then { T.letKicksGo x with kicks:=false } else { x with kicks:=true }) _ _
  by_cases hn:n=0
  ·subst hn
   exact (r.lets ok).kicks false
  ·have:n=1:=by omega
   subst this
   exact r.kicks true
end
end
section
open Tilt (Stand Hold Drive Table)
theorem zmj {t:Nat} {h:Nat→Stand} {k:Bool} (p:Nat):(⟨t,(List.range 32).map h,k⟩ : Drive).get p=if p<32 then h p else Tilt.free:=by
 unfold Drive.get
 show ((List.range 32).map h).getD p Tilt.free=_
 rw [List.getD_eq_getElem?_getD,List.getElem?_map]
 by_cases hp:p<32
 ·rw [if_pos hp,List.getElem?_range hp];rfl
 ·rw [if_neg hp,List.getElem?_eq_none (by simpa using hp)];rfl
theorem zre {x:Drive} (h:x.at_.length=32):x.at_=(List.range 32).map x.get:=by
 apply List.ext_getElem?
 intro i
 rw [List.getElem?_map]
 by_cases hi:i<32
 ·rw [List.getElem?_range hi,List.getElem?_eq_getElem (by omega)]
  show _=some (x.get i)
  unfold Drive.get
  rw [List.getD_eq_getElem?_getD,List.getElem?_eq_getElem (by omega)];rfl
 ·rw [List.getElem?_eq_none (by omega),List.getElem?_eq_none (by simpa using hi)];rfl
theorem zC1 {c:Tilt.Coil} {s:Stand} (z:(s.pass c).isPulsed=true):s.isPulsed=true:=by cases s<;>first | rfl | exact z
section
variable {T:Table} {su:Nat} {x:Drive} {m:MB} {cs:MS}
def ztd (T:Table) (x:Drive) (p:Nat):Stand:=match T.coilAt p with
 | some c=>(x.get p).pass c
 | none=>Tilt.free
theorem Rel.pass (ok:TOk T) (r:Rel T su x m cs):Rel T su ⟨x.tick+1,(List.range 32).map (ztd T x),x.kicks⟩ ⟨m.supply,m.coils,m.kicks,m.kicking,m.passed+1⟩ (cs.map (onC zc3)):=by
 refine ⟨zfs r.co fun c hc y hy h=>?_,by simp,fun p hp=>?_,by show m.passed+1=((x.tick+1:Nat):Int);rw [r.pa];rfl,r.kg,?_,r.sp⟩
 ·obtain ⟨h1,h2⟩:=h
  obtain ⟨p1,p2,_⟩:=h1.passes
  refine ⟨p1,?_⟩
  rw [zmj,if_pos (by have:=ok.le c hc;omega)]
  unfold ztd
  rw [zif ok hc]
  show (x.get c.place).pass c=_
  rw [h2]
  exact p2.symm
 ·rw [zmj]
  split
  ·unfold ztd;rw [hp]
  ·rfl
 ·have hpu:=r.pu
  refine Nat.le_trans ?_ hpu
  unfold Drive.pulses
  show (((List.range 32).map (ztd T x)).filter Stand.isPulsed).length≤_
  rw [← List.countP_eq_length_filter,← List.countP_eq_length_filter]
  rw [zre r.ln,List.countP_map,List.countP_map]
  refine List.countP_mono_left fun p _ hp=>?_
  simp only [Function.comp] at hp ⊢
  unfold ztd at hp
  cases e:T.coilAt p with
  | none=>rw [e] at hp;cases hp
  | some c=>rw [e] at hp;exact zC1 hp
theorem zx9 {l:List Tilt.Coil} {cs:MS} (h:Paired (PRel x) l cs):∀ a:Int,cs.foldl (fun a c=>if mcOn c.2.2=true then a+2 ^ c.2.2.place.toNat else a) a=a+(((l.filter fun c=>(x.get c.place).on).map fun c=>2 ^ c.place).sum:Nat):=by
 induction h with
 | nil=>intro a;simp
 | @cons c y l cs r t ih=>
  intro a
  obtain ⟨h1,h2⟩:=r
  have hon:=h1.passes.2.2
  rw [← h2] at hon
  have hpl:y.2.2.place.toNat=c.place:=by have:=h1.place;omega
  rw [List.foldl_cons,ih,List.filter_cons,hon,hpl]
  cases (x.get c.place).on with
  | true=>
   simp only [if_true,List.map_cons,List.sum_cons]
   rw [Int.natCast_add,Int.natCast_pow]
   simp only [Int.cast_ofNat_Int]
   omega
  | false=>simp
theorem zrx:∀ (l:List Nat) (a n:Nat),l.Pairwise (· < ·)→(∀ p∈l,n≤p)→a<2 ^ n→l.foldl (fun (n p:Nat)=>n ||| 2 ^ p) a=a+(l.map fun p=>2 ^ p).sum
 | [],a,_,_,_,_=>by simp
 | p :: l,a,n,hp,hn,ha=>by
  rw [List.pairwise_cons] at hp
  have hnp:=hn p (by simp)
  have h1:2 ^ n≤2 ^ p:=Nat.pow_le_pow_right (by decide) hnp
  have h2:a ||| 2 ^ p=a+2 ^ p:=by
   have:=Nat.two_pow_add_eq_or_of_lt (i:=p) (b:=a) (by omega) 1
   rw [Nat.mul_one] at this
   rw [Nat.or_comm,← this];omega
  rw [List.foldl_cons,h2,zrx l (a+2 ^ p) (p+1) hp.2 (fun q hq=>hp.1 q hq) (by rw [Nat.pow_succ];omega)]
  simp;omega
theorem zoh (ok:TOk T) (r:Rel T su x m cs) (g:Stand→Bool) (hg:g Tilt.free=false):((T.coils.map (·.place)).filter fun p=>g (x.get p)).Perm ((List.range 32).filter fun p=>g (x.get p)):=by
 rw [List.perm_ext_iff_of_nodup (ok.nd.filter _) (List.nodup_range.filter _)]
 intro p
 rw [List.mem_filter,List.mem_filter]
 constructor
 ·rintro ⟨h1,h2⟩
  obtain ⟨c,hc,rfl⟩:=List.mem_map.mp h1
  exact ⟨List.mem_range.mpr (by have:=ok.le c hc;omega),h2⟩
 ·rintro ⟨h1,h2⟩
  refine ⟨?_,h2⟩
  cases e:T.coilAt p with
  | none=>rw [r.no p e,hg] at h2;cases h2
  | some c=>
   obtain ⟨hc,rfl⟩:=zcz e
   exact List.mem_map.mpr ⟨c,hc,rfl⟩
theorem Rel.sum (ok:TOk T) (r:Rel T su x m cs):zo5 cs=(x.onMask:Nat):=by
 unfold zo5
 rw [zx9 r.co 0,Int.zero_add]
 congr 1
 unfold Drive.onMask Tilt.maskOf
 rw [zrx _ 0 0 (List.pairwise_lt_range.filter _) (fun p _=>Nat.zero_le _) (by decide),Nat.zero_add]
 have:=(zoh ok r Stand.on rfl).map (fun p=>2 ^ p)
 rw [show Tilt.COILS=32 from rfl,← this.sum_nat,List.filter_map,List.map_map]
 rfl
theorem zyk (l:List Tilt.Coil) (cs:MS) (h:Paired (PRel x) l cs):(cs.filter plsd).length=(l.filter fun c=>(x.get c.place).isPulsed).length:=by
 induction h with
 | nil=>rfl
 | @cons c y l cs r t ih=>
  obtain ⟨h1,h2⟩:=r
  have:=h1.isP
  rw [← h2] at this
  have e:plsd y=decide (y.2.2.way=1):=rfl
  rw [List.filter_cons,List.filter_cons,this,e]
  cases decide (y.2.2.way=1) with
  | true=>simpa using ih
  | false=>simpa using ih
theorem Rel.count (ok:TOk T) (r:Rel T su x m cs):(cs.filter plsd).length=x.pulses:=by
 rw [zyk _ _ r.co]
 have h:=(zoh ok r Stand.isPulsed rfl).length_eq
 rw [List.filter_map,List.length_map] at h
 unfold Drive.pulses
 rw [zre r.ln,List.filter_map,List.length_map]
 exact h
end
end
section
open Tilt (Stand Hold Drive Table)
def zmr (a b:Nat×Nat):Prop:=a.1<b.1∨(a.1=b.1∧a.2≤b.2)
def zvr (b:Option (Nat×Nat)) (z:Nat×Nat):Option (Nat×Nat):=match b with
 | none=>some z
 | some y=>if z.1<y.1 then some z else some y
theorem zmu:∀ (l:List (Nat×Nat)) (b:Nat×Nat),l.Pairwise (fun a b=>a.2<b.2)→(∀ z∈l,b.2<z.2)→∃ r,l.foldl zvr (some b)=some r∧(r=b∨r∈l)∧zmr r b∧∀ z∈l,zmr r z
 | [],b,_,_=>⟨b,rfl, .inl rfl, .inr ⟨rfl,Nat.le_refl _⟩,fun z hz=>nomatch hz⟩
 | z :: l,b,hp,hb=>by
  rw [List.pairwise_cons] at hp
  have hbz:=hb z (by simp)
  by_cases h:z.1<b.1
  ·have e:zvr (some b) z=some z:=if_pos h
   obtain ⟨r,h1,h2,h3,h4⟩:=zmu l z hp.2 hp.1
   refine ⟨r,by rw [List.foldl_cons,e];exact h1,?_,?_,fun w hw=>?_⟩
   ·rcases h2 with h2 | h2
    ·exact .inr (by rw [h2];simp)
    ·exact .inr (List.mem_cons_of_mem _ h2)
   ·unfold zmr at h3 ⊢;omega
   ·rcases List.mem_cons.mp hw with rfl | hw
    ·exact h3
    ·exact h4 w hw
  ·have e:zvr (some b) z=some b:=if_neg h
   obtain ⟨r,h1,h2,h3,h4⟩:=zmu l b hp.2 (fun w hw=>hb w (List.mem_cons_of_mem _ hw))
   refine ⟨r,by rw [List.foldl_cons,e];exact h1,?_,h3,fun w hw=>?_⟩
   ·rcases h2 with h2 | h2
    ·exact .inl h2
    ·exact .inr (List.mem_cons_of_mem _ h2)
   ·rcases List.mem_cons.mp hw with rfl | hw
    ·unfold zmr at h3 ⊢;omega
    ·exact h4 w hw
def rdyL (x:Drive):List (Nat×Nat):=(List.range 32).filterMap fun (p:Nat)=>(x.get p).ready.map fun (s:Nat)=>(s,p)
theorem zro (x:Drive):x.first=((rdyL x).foldl zvr none).map fun z=>z.2:=rfl
theorem zym {x:Drive} {s p:Nat}:(s,p)∈rdyL x↔p<32∧(x.get p).ready=some s:=by
 unfold rdyL
 rw [List.mem_filterMap]
 constructor
 ·rintro ⟨q,hq,e⟩
  rw [Option.map_eq_some_iff] at e
  obtain ⟨t,h1,h2⟩:=e
  obtain ⟨rfl,rfl⟩:=Prod.mk.inj h2
  exact ⟨List.mem_range.mp hq,h1⟩
 ·rintro ⟨h1,h2⟩
  exact ⟨p,List.mem_range.mpr h1,by rw [h2];rfl⟩
theorem zqs (x:Drive):(rdyL x).Pairwise (fun a b=>a.2<b.2):=by
 unfold rdyL
 rw [List.pairwise_filterMap]
 refine List.Pairwise.imp ?_ (List.pairwise_lt_range (n:=32))
 intro a b hab u hu v hv
 have hu:(x.get a).ready.map (fun (s:Nat)=>(s,a))=some u:=hu
 have hv:(x.get b).ready.map (fun (s:Nat)=>(s,b))=some v:=hv
 rw [Option.map_eq_some_iff] at hu hv
 obtain ⟨_,_,rfl⟩:=hu
 obtain ⟨_,_,rfl⟩:=hv
 exact hab
theorem zsy {x:Drive} (h:∀ s p,(s,p)∉rdyL x):x.first=none:=by
 rw [zro]
 cases e:rdyL x with
 | nil=>rfl
 | cons z l=>exact absurd (by rw [e];simp) (h z.1 z.2)
theorem zsz {x:Drive} {s p:Nat} (h:(s,p)∈rdyL x) (hm:∀ z∈rdyL x,zmr (s,p) z):x.first=some p:=by
 rw [zro]
 have so:=zqs x
 cases e:rdyL x with
 | nil=>rw [e] at h;cases h
 | cons z l=>
  rw [e] at h hm so
  rw [List.pairwise_cons] at so
  obtain ⟨r,h1,h2,h3,h4⟩:=zmu l z so.2 so.1
  have h0:zvr none z=some z:=rfl
  rw [List.foldl_cons,h0,h1]
  have hr:r∈z :: l:=by rcases h2 with rfl | h2<;>simp [*]
  have a1:=hm r hr
  have a2:zmr r (s,p):=by
   rcases List.mem_cons.mp h with e2 | h
   ·rw [e2];exact h3
   ·exact h4 _ h
  unfold zmr at a1 a2
  show some r.2=some p
  congr 1
  simp only at a1 a2
  omega
section
variable {T:Table} {su:Nat} {x:Drive} {m:MB} {cs:MS}
theorem Rel.setc (ok:TOk T) (r:Rel T su x m cs) {c:Tilt.Coil} (hc:c∈T.coils) {s:Stand} {g:MC→MC} (hg:∀ y∈cs,PRel x c y→MCo c (g y.2.2)∧stOf (g y.2.2)=s) (hp:(x.set c.place s).pulses≤su) :
  Rel T su (x.set c.place s) m (atP c.place g cs):=by
 have hl:c.place<x.at_.length:=by rw [r.ln];have:=ok.le c hc;omega
 refine ⟨zfs r.co fun a ha y hy h=>?_,?_,fun q hq=>?_,r.pa,r.kg,hp,r.sp⟩
 ·by_cases ea:a.place=c.place
  ·have:=zmt ok.nd ha hc ea
   subst this
   obtain ⟨g1,g2⟩:=hg y hy h
   obtain ⟨h1,h2⟩:=h
   rw [if_pos h1.place]
   refine ⟨g1,?_⟩
   rw [zii hl,if_pos rfl]
   exact g2.symm
  ·obtain ⟨h1,h2⟩:=h
   rw [if_neg (fun z=>ea (by have:=h1.place;omega))]
   refine ⟨h1,?_⟩
   rw [zii hl,if_neg ea]
   exact h2
 ·show (x.at_.set _ _).length=32
  rw [List.length_set];exact r.ln
 ·rw [zii hl,if_neg (fun z=>by rw [z,zif ok hc] at hq;cases hq)]
  exact r.no q hq
theorem Rel.pn (ok:TOk T) (r:Rel T su x m cs):(cs.map (·.2.2.place)).Nodup:=by
 have:cs.map (·.2.2.place)=(T.coils.map (·.place)).map fun (n:Nat)=>(n:Int):=by
  have h:=r.co
  clear r
  generalize T.coils=l at h
  induction h with
  | nil=>rfl
  | cons g t ih=>simp only [List.map_cons];rw [g.1.place,ih]
 rw [this]
 exact List.Pairwise.map _ (fun a b hab z=>hab (by omega)) ok.nd
theorem Rel.readyOf (ok:TOk T) (r:Rel T su x m cs) {s p:Nat}:(s,p)∈rdyL x↔∃ y∈cs,rdy y=true∧y.2.2.since=s∧y.2.2.place=p:=by
 rw [zym]
 constructor
 ·rintro ⟨h1,h2⟩
  cases e:T.coilAt p with
  | none=>rw [r.no p e] at h2;cases h2
  | some c=>
   obtain ⟨hc,rfl⟩:=zcz e
   obtain ⟨y,hy,g1,g2⟩:=zg0 r.co hc
   rw [g2,g1.ready] at h2
   split at h2
   ·rename_i hh
    have:=g1.since
    refine ⟨y,hy,by simp [rdy,hh],?_,g1.place⟩
    have:=Option.some.inj h2
    omega
   ·cases h2
 ·rintro ⟨y,hy,h1,h2,h3⟩
  obtain ⟨c,hc,g1,g2⟩:=zdi r.co hy
  have e:p=c.place:=by have:=g1.place;omega
  subst e
  refine ⟨by have:=ok.le c hc;omega,?_⟩
  have h1:0<y.2.2.waiting∧y.2.2.left=0:=by simpa [rdy] using h1
  rw [g2,g1.ready,if_pos h1,h2]
  rfl
theorem Rel.begins_aux (ok:TOk T):∀ (k:Nat) (ys:MS) (x:Drive) (cs:MS),Rel T su x m cs→ys.Perm (cs.filter rdy)→ys.Pairwise (fun a b=>¬zxr b a)→ys.length≤k→Rel T su (x.begins su k) m ((ys.take (su-x.pulses)).foldl begM cs):=by
 intro k
 induction k with
 | zero=>
  intro ys x cs r _ _ hl
  have:ys=[]:=List.eq_nil_of_length_eq_zero (by omega)
  subst this
  rw [List.take_nil]
  exact r
 | succ k ih=>
  intro ys x cs r hp so hl
  unfold Drive.begins
  by_cases hs:su≤x.pulses
  ·rw [if_pos hs,Nat.sub_eq_zero_of_le hs]
   exact r
  rw [if_neg hs]
  cases ys with
  | nil=>
   have hn:∀ s p,(s,p)∉rdyL x:=by
    intro s p h
    obtain ⟨y,hy,h1,_⟩:=(r.readyOf ok).mp h
    have:=hp.symm.subset (List.mem_filter.mpr ⟨hy,h1⟩)
    cases this
   rw [zsy hn]
   simpa using r
  | cons y t=>
   have hym:=List.mem_filter.mp (hp.subset (List.mem_cons_self ..))
   obtain ⟨hy,hry⟩:=hym
   obtain ⟨c,hc,g1,g2⟩:=zdi r.co hy
   have hpl:=g1.place
   have hsi:=g1.since
   have hwt:0<y.2.2.waiting∧y.2.2.left=0:=by simpa [rdy] using hry
   rw [List.pairwise_cons] at so
   have hmin:∀ z∈rdyL x,zmr (y.2.2.since.toNat,c.place) z:=by
    rintro ⟨s,p⟩ hz
    obtain ⟨w,hw,w1,w2,w3⟩:=(r.readyOf ok).mp hz
    have hw2:=hp.symm.subset (List.mem_filter.mpr ⟨hw,w1⟩)
    unfold zmr
    rcases List.mem_cons.mp hw2 with rfl | hw2
    ·simp only;omega
    ·have:=so.1 w hw2
     unfold zxr at this
     simp only
     omega
   have hfst:x.first=some c.place:=zsz ((r.readyOf ok).mpr ⟨y,hy,hry,by omega,hpl⟩) hmin
   rw [hfst]
   have hll:c.place<x.at_.length:=by rw [r.ln];have:=ok.le c hc;omega
   have hb:=g1.beg hwt.1
   have hpu:(x.set c.place (x.get c.place).begin_).pulses=x.pulses+1:=by
    rw [zly hll]
    have n1:(x.get c.place).isPulsed=false:=by
     rw [g2,g1.isP]
     apply decide_eq_false
     intro z
     have:=g1.busy (by omega)
     omega
    have n2:((x.get c.place).begin_).isPulsed=true:=by
     rw [g2,← hb.2,hb.1.isP];rfl
    rw [if_neg (by rw [n1];decide),if_pos n2];rfl
   have r1:Rel T su (x.set c.place (x.get c.place).begin_) m (begM cs y):=by
    unfold begM
    rw [hpl]
    refine r.setc ok hc (fun w hw gw=>?_) (by rw [hpu];omega)
    obtain ⟨w1,w2⟩:=gw
    have:w.2.2=y.2.2:=by
     obtain ⟨pre,post,rfl⟩:=List.append_of_mem hy
     have pn:=r.pn ok
     have hwp:=w1.place
     rw [List.map_append,List.map_cons,List.nodup_append] at pn
     obtain ⟨n1,n2,n3⟩:=pn
     rw [List.nodup_cons] at n2
     rcases List.mem_append.mp hw with hw | hw
     ·exact absurd (by omega) (n3 w.2.2.place (List.mem_map_of_mem (f:=fun c:MSc=>c.2.2.place) hw) y.2.2.place (by simp))
     ·rcases List.mem_cons.mp hw with rfl | hw
      ·rfl
      ·exact absurd (by rw [show y.2.2.place=w.2.2.place by omega];exact List.mem_map_of_mem (f:=fun c:MSc=>c.2.2.place) hw) n2.1
    rw [this,g2]
    exact hb
   have hpt:t.Perm ((begM cs y).filter rdy):=by
    obtain ⟨pre,post,rfl⟩:=List.append_of_mem hy
    unfold begM
    rw [znw (r.pn ok)]
    have nr:rdy (onC zdv y)=false:=by simp [rdy,onC,zdv]
    rw [List.filter_append,List.filter_cons,hry,if_pos rfl] at hp
    rw [List.filter_append,List.filter_cons,nr,if_neg (by decide)]
    exact List.Perm.cons_inv (hp.trans List.perm_middle)
   have h:=ih t _ _ r1 hpt so.2 (by simp at hl;omega)
   rw [hpu] at h
   obtain ⟨n,hn⟩ : ∃ n,su-x.pulses=n+1:=⟨su-x.pulses-1,by omega⟩
   have hn2:su-(x.pulses+1)=n:=by omega
   rw [hn,List.take_succ_cons,List.foldl_cons]
   rw [hn2] at h
   exact h
theorem Rel.begins (ok:TOk T) (r:Rel T su x m cs) (hl:cs.length≤32) {cs':MS} (h:zzs m.supply cs cs'):Rel T su (x.begins su Tilt.COILS) m cs':=by
 obtain ⟨ys,h1,h2,rfl⟩:=h
 rw [r.count ok,r.sp]
 have e:((su:Int)-(x.pulses:Nat)).toNat=su-x.pulses:=by omega
 rw [e]
 refine Rel.begins_aux ok 32 ys x cs r h1 h2 ?_
 rw [h1.length_eq]
 exact Nat.le_trans (List.length_filter_le _ _) hl
end
end
section
open Tilt (Drive Table)
def evR (es:List (Nat×Nat)):RWs:=es.map fun e=>((e.1:Int),[(e.2:Int)])
def orR (os:List Tilt.Order):RWs:=os.map fun o=>((o.at_:Int),[(o.kind:Int),(o.coil:Int),(o.ticks:Int)])
def Grp (H:Hp) (S:Addr→Prop) (l:Addr) (rs:List (Addr×List Int)):Prop:=H l=some (.lst (rs.map fun r=>.ref r.1))∧¬S l∧∀ r∈rs,H r.1=some (.lst (r.2.map V.int))∧¬S r.1
theorem Grp.keep {H H':Hp} {S:Addr→Prop} {l:Addr} {rs:List (Addr×List Int)} (h:Grp H S l rs) (k:SameX S H H'):Grp H' S l rs:=
 ⟨k _ _ h.2.1 h.1,h.2.1,fun r hr=>⟨k _ _ (h.2.2 r hr).2 (h.2.2 r hr).1,(h.2.2 r hr).2⟩⟩
theorem zz5 {H:Hp} {S:Addr→Prop} {g:Addr} {gs:GL} {rws:RWs} (gp:GP gs rws) (ce:Cel H (gC g gs)) (ns:∀ c∈gC g gs,¬S c.1) (t:Int) :
  (valV (gD gs) (Sum.inl t)=none∧rws.filter (fun r=>decide (r.1=t))=[])∨∃ l rs,valV (gD gs) (Sum.inl t)=some (.ref l)∧Grp H S l rs∧rs.map (·.2)=(rws.filter fun r=>decide (r.1=t)).map (·.2):=by
 rcases zwt (gs:=gs) (t:=t) with ⟨h1,h2⟩ | ⟨pre,l,rs,post,rfl,h2⟩
 ·exact .inl ⟨h1,gp.no t h2⟩
 ·have hm:(t,l,rs)∈pre++(t,l,rs) :: post:=by simp
  have hl:(l,HO.lst (rs.map fun r=>.ref r.1))∈gC g (pre++(t,l,rs) :: post):=by simp [gC,zdn]
  have hr:∀ r∈rs,(r.1,HO.lst (r.2.map V.int))∈gC g (pre++(t,l,rs) :: post):=fun r hr=>by
   have:(r.1,HO.lst (r.2.map V.int))∈rs.map fun r=>(r.1,HO.lst (r.2.map V.int)):=List.mem_map.mpr ⟨r,hr,rfl⟩
   simp only [gC,List.flatMap_append,List.flatMap_cons,List.mem_cons,List.mem_append,zdn]
   exact .inr (.inr (.inl (.inr this)))
  exact .inr ⟨l,rs,h2,⟨ce _ hl,ns _ hl,fun r h=>⟨ce _ (hr r h),ns _ (hr r h)⟩⟩,gp.ro _ hm⟩
theorem zuq {H:Hp} {S:Addr→Prop} {g:Addr} {gs:GL} {rws:RWs} {q:Addr} (gp:GP gs rws) (ce:Cel H (gC g gs)) (ns:∀ c∈gC g gs,¬S c.1) (hq:H q=none) (hqS:¬S q) (t:Int) :
  ∃ o l rs,DGet (upd H q (.lst [])) g (.int t) o∧o.getD (.ref q) = .ref l∧Grp (upd H q (.lst [])) S l rs∧rs.map (·.2)=(rws.filter fun r=>decide (r.1=t)).map (·.2):=by
 have ce4:Cel (upd H q (.lst [])) (gC g gs):=ce.same (Same.new hq)
 have hd:upd H q (.lst []) g=some (.dK (gD gs)):=ce4 (g,_) (by simp [gC])
 refine ⟨valV (gD gs) (Sum.inl t),?_⟩
 rcases zz5 gp ce4 ns t with ⟨h1,h2⟩ | ⟨l,rs,h1,h2,h3⟩
 ·exact ⟨q,[],DGet.k (k:=Sum.inl t) hd,by rw [h1];rfl,⟨zaf,hqS,fun r hr=>nomatch hr⟩,by rw [h2];rfl⟩
 ·exact ⟨l,rs,DGet.k (k:=Sum.inl t) hd,by rw [h1];rfl,h2,h3⟩
theorem zv0 {rs:List (Addr×List Int)} {α:Type} {l:List α} {f:α→List Int} (h:rs.map (·.2)=l.map f) {j:Nat} {rr:Addr×List Int} (hj:rs[j]? = some rr):∃ a,l[j]? = some a∧rr.2=f a:=by
 have:=congrArg (fun z=>z[j]?) h
 simp only [List.getElem?_map,hj,Option.map_some] at this
 cases e:l[j]? with
 | none=>rw [e] at this;cases this
 | some a=>rw [e] at this;exact ⟨a,rfl,Option.some.inj this⟩
theorem zsx (es:List (Nat×Nat)) (i:Nat):((evR es).filter fun r=>decide (r.1=(0+(i:Int)))).map (·.2)=((es.filter fun e=>e.1 == i).map fun e=>e.2).map fun (e:Nat)=>[(e:Int)]:=by
 unfold evR
 rw [List.filter_map,List.map_map,List.map_map]
 have:(es.filter ((fun r:Int×List Int=>decide (r.1=(0+(i:Int)))) ∘ fun e:Nat×Nat=>((e.1:Int),[(e.2:Int)])))=es.filter fun e=>e.1 == i:=by
  apply List.filter_congr
  intro e _
  simp only [Function.comp]
  by_cases h:e.1=i
  ·rw [decide_eq_true (by omega)];simp [h]
  ·rw [decide_eq_false (by omega)];simp [h]
 rw [this]
 rfl
theorem ztc (os:List Tilt.Order) (i:Nat):((orR os).filter fun r=>decide (r.1=(0+(i:Int)))).map (·.2)=(os.filter fun o=>o.at_ == i).map fun o=>[(o.kind:Int),(o.coil:Int),(o.ticks:Int)]:=by
 unfold orR
 rw [List.filter_map,List.map_map]
 have:(os.filter ((fun r:Int×List Int=>decide (r.1=(0+(i:Int)))) ∘ fun o:Tilt.Order=>((o.at_:Int),[(o.kind:Int),(o.coil:Int),(o.ticks:Int)])))=os.filter fun o=>o.at_ == i:=by
  apply List.filter_congr
  intro e _
  simp only [Function.comp]
  by_cases h:e.at_=i
  ·rw [decide_eq_true (by omega)];simp [h]
  ·rw [decide_eq_false (by omega)];simp [h]
 rw [this]
 rfl
theorem zl2 (T:Table) (su:Nat) (es:List (Nat×Nat)) (os:List Tilt.Order) (i n:Nat) (x:Drive):T.ticks su es os i (n+1) x =
  ((T.ticks su es os (i+1) n (T.tick su x ((es.filter fun e=>e.1 == i).map fun e=>e.2) (os.filter fun o=>o.at_ == i)).1).1,(T.tick su x ((es.filter fun e=>e.1 == i).map fun e=>e.2) (os.filter fun o=>o.at_ == i)).2 :: (T.ticks su es os (i+1) n (T.tick su x ((es.filter fun e=>e.1 == i).map fun e=>e.2) (os.filter fun o=>o.at_ == i)).1).2):=rfl
theorem zBn (T:Table) (su:Nat) (x:Drive) (es:List Nat) (os:List Tilt.Order):T.tick su x es os=(⟨x.tick+1,(List.range 32).map (ztd T ((os.foldl T.order (es.foldl T.event x)).begins su Tilt.COILS)),((os.foldl T.order (es.foldl T.event x)).begins su Tilt.COILS).kicks⟩,((os.foldl T.order (es.foldl T.event x)).begins su Tilt.COILS).onMask):=rfl
theorem zys (m:MB) (tk:List Tilt.Kick) (cs:MS) (e:Int):skel (evM m tk cs e)=skel cs:=by
 unfold evM
 split
 ·have:∀ (l:List Tilt.Kick) (cs:MS),skel (l.foldl (zon e m.passed) cs)=skel cs:=by
   intro l
   induction l with
   | nil=>exact fun _=>rfl
   | cons a r ih=>exact fun cs=>(ih _).trans (zd1 (fun c=>zvt ..) cs)
  exact this _ _
 ·rfl
theorem zv6 (m:MB) (tk:List Tilt.Kick) (cs:MS) (k p n:Int):skel (ordM m cs tk k p n).2=skel cs:=by
 unfold ordM
 have:∀ (l:List Tilt.Kick) (cs:MS),skel (l.foldl letM cs)=skel cs:=by
  intro l
  induction l with
  | nil=>exact fun _=>rfl
  | cons a r ih=>exact fun cs=>(ih _).trans (zd1 zew cs)
 split
 ·exact zd1 (fun c=>zlx ..) cs
 split
 ·exact zd1 (fun c=>zlx ..) cs
 split
 ·exact zd1 zew cs
 split
 ·exact zd1 zpb cs
 split
 ·exact zrw zpb cs
 split
 ·show skel (if n=1 then cs else tk.foldl letM cs)=_
  split
  ·rfl
  ·exact this _ _
 ·rfl
theorem ztl {su:Int} {cs cs':MS} (h:zzs su cs cs'):skel cs'=skel cs:=by
 obtain ⟨ys,h1,h2,rfl⟩:=h
 clear h1 h2
 generalize ys.take _=l
 induction l generalizing cs with
 | nil=>rfl
 | cons a r ih=>exact (ih (cs:=begM cs a)).trans (zd1 zm2 cs)
theorem zry {cs cs':MS} (h:skel cs'=skel cs):mcD cs'=mcD cs:=by rw [zrz,zrz,h]
section
variable {cW cF cT cC cK cB:Addr}
def zwb (cB cC cK:Addr):Sp:=fun vs H Q _=>E8 fun S b db m cs ks T su=>E6 fun x n er es or os=>A8 (vs=[.ref b, .int (n:Nat), .ref er, .ref or]) (BD cB cC cK S H H b db m (.dK (mcD cs)) cs ks T.kicks) (TOk T) (Rel T su x m cs) (n≤4096) (H er=some (.lst ((zcr (evR es)).map V.int))) (es.length≤4096) (A4 (H or=some (.lst ((zcr (orR os)).map V.int))) (os.length≤4096) ((∀ o∈os,zw7 o∧(o.kind<4→∃ c∈T.coils,c.place=o.coil))) (∀ H' p m' cs',BD cB cC cK S H H' b db m' (.dK (mcD cs')) cs' ks T.kicks→Rel T su (T.ticks su es os 0 n x).1 m' cs'→H' p=some (.lst ((T.ticks su es os 0 n x).2.map fun (z:Nat)=>V.int z))→H p=none→Q (.ref p) H'))
abbrev zd5:Stmt:=zaw (top 26) 1
theorem sc_Board_run:zai ["self","n","events","orders","events_of","orders_of","sums","tick","event","order"] ["self","n","events","orders"] (zae zd5):=by walk_at "sc"
theorem zn3:zak zd5 "run" "Board.run" ["self","n","events","orders"]:=fun _ _ _ _ _ _ us hl=>match us,hl with | [_,_,_,_],_=>rfl
theorem zot (tG:TG K mg) (tBoard:zdz K cB) (d_by_tick:Dn P w K mg base CX0 "by_tick" ["row","width"] 1 (znh)) (m_Board_take_event:Md P w K mg base CX0 cB "take_event" ["self","event"] 4 (zBc cB cC cK)) (m_Board_take_order:Md P w K mg base CX0 cB "take_order" ["self","kind","place","length"] 5 (zwa cB cC cK)) (m_Board_begin_waiting:Md P w K mg base CX0 cB "begin_waiting" ["self"] 4 (znf cB cC cK)) (m_Board_pass_tick:Md P w K mg base CX0 cB "pass_tick" ["self"] 4 (zqx cB cC cK)) (F:MtK K cB "run" "Board.run" zd5) :
  Md P w K mg base CX0 cB "run" ["self","n","events","orders"] 6 (zwb cB cC cK):=by
 refine F.md sc_Board_run zn3 (fun vs H Q E h=>?_) (fun f cdv A outer s H vs Q E hr h=>?_)
 ·obtain ⟨S,b,db,m,cs,ks,T,su,x,n,er,es,or,os,rfl,_⟩:=h
  rfl
 ·obtain ⟨S,b,db,m,cs,ks,T,su,x,n,er,es,or,os,rfl,B,ok,r,hn,her,hes,hor,hos,hoo,q⟩:=h
  have hu:=za2 hr
  have hu64:=hr.units
  refine ⟨_,(zab (zax (i:=4) sc_Board_run.nd rfl (Or.inl rfl) (pe_d d_by_tick hr zaz (zaa (pv 2) (zaa (zap tG.g_EVENT_WIDTH) zad))))
   (zab (zax (i:=5) sc_Board_run.nd rfl (Or.inl rfl) (pe_d d_by_tick hr zaz (zaa (pv 3) (zaa (zap tG.g_ORDER_WIDTH) zad))))
   (zab (zax (i:=6) sc_Board_run.nd rfl (Or.inl rfl) (zb5 zad))
   (zab (zd3 PassesOwn.never rfl (zvp rfl tG.b_range (zaa (pv 1) zad)) (zbp (i:=7) sc_Board_run.nd rfl (Or.inl rfl))
    (zab (zd3 PassesOwn.never rfl (zkm (zr8 hu (pv 4) (pv 7) (zb5 zad) ⟨rfl,rfl,rfl,rfl⟩)) (zbp (i:=8) sc_Board_run.nd rfl (Or.inl rfl))
    (zac (zal (pe_m m_Board_take_event tBoard.cl hr zaz (pv 0) (zaa (zdy zbu (pv 8) zao (fun _ _=>rfl)) zad)))))
   (zab (zd3 PassesOwn.never rfl (zkm (zr8 hu (pv 5) (pv 7) (zb5 zad) ⟨rfl,rfl,rfl,rfl⟩)) (zbp (i:=9) sc_Board_run.nd rfl (Or.inl rfl))
    (zac (zal (pe_m m_Board_take_order tBoard.cl hr zaz (pv 0) (zaa (zdy zbu (pv 9) zao (fun _ _=>rfl)) (zaa (zdy zbu (pv 9) zao (fun _ _=>rfl)) (zaa (zdy zbu (pv 9) zao (fun _ _=>rfl)) zad)))))))
   (zab (zal (zbk m_Board_begin_waiting tBoard.cl hr zaz (pv 0)))
   (zac (zal (zte PySem.F.plainAttrs_list PySem.F.slot_list_append PySem.F.type_list_append zhk (pv 6) (zaa (zbk m_Board_pass_tick tBoard.cl hr zaz (pv 0)) zad))))))))
   (zac (zar (pv 6))))))),?_⟩
  have f_tBoard_cl:=tBoard.cl
  refine ⟨_,rfl,er,2,evR es,rfl,her,by decide,by decide,by simpa [evR] using hes,?_,fun H1 ge gsE k1 ceE ndE frE gpE=>?_⟩
  ·intro y hy
   obtain ⟨e,_,rfl⟩:=List.mem_map.mp hy
   rfl
  refine ⟨_,rfl,or,4,orR os,rfl,k1 _ _ hor,by decide,by decide,by simpa [orR] using hos,?_,fun H2 go gsO k2 ceO ndO frO gpO=>?_⟩
  ·intro y hy
   obtain ⟨e,_,rfl⟩:=List.mem_map.mp hy
   rfl
  refine ⟨Nat.zero_le _,fun p hp=>?_⟩
  have k3:Same H2 (upd H2 p (.lst [])):=Same.new hp
  have k13:Same H (upd H2 p (.lst [])):=Same.trans k1 (Same.trans k2 k3)
  have hpH:H p=none:=by
   cases z:H p with
   | none=>rfl
   | some u=>rw [k2 _ _ (k1 _ _ z)] at hp;cases hp
  have nS:∀ a,H a=none→¬S a:=fun a ha hs=>by
   obtain ⟨u,hu⟩:=B.al a hs
   rw [hu] at ha;cases ha
  have nsE:∀ c∈gC ge gsE,¬S c.1:=fun c hc=>nS _ (frE c hc)
  have nsO:∀ c∈gC go gsO,¬S c.1:=fun c hc=>nS _ (by
   have:=frO c hc
   cases z:H c.1 with
   | none=>rfl
   | some u=>rw [k1 _ _ z] at this;cases this)
  have pE:∀ c∈gC ge gsE,c.1≠p:=fun c hc=>zaj (k2 _ _ (ceE c hc)) hp
  have pO:∀ c∈gC go gsO,c.1≠p:=fun c hc=>zaj (ceO c hc) hp
  refine ⟨_,rfl,(n:Nat),rfl,by omega,by omega,?_⟩
  refine zok (n:=n) (fun i σ H'=>i≤n∧∃ x' m' cs' acc y1 y2 y3,σ=[some (.ref b),some (.int (n:Nat)),some (.ref er),some (.ref or),some (.ref ge),some (.ref go),some (.ref p),y1,y2,y3]∧
   BD cB cC cK S H H' b db m' (.dK (mcD cs')) cs' ks T.kicks∧Rel T su x' m' cs'∧Cel H' (gC ge gsE)∧Cel H' (gC go gsO)∧H' p=some (.lst ((acc:List Nat).map fun (z:Nat)=>V.int z))∧acc.length=i∧T.ticks su es os 0 n x=((T.ticks su es os i (n-i) x').1,acc++(T.ticks su es os i (n-i) x').2))
   ⟨Nat.zero_le _,x,m,cs,[],none,none,none,rfl,B.same k13,r,(ceE.same k2).same k3,ceO.same k3,zaf,rfl,rfl⟩ (fun i σ H' hi hp=>?_) (fun σ H' hp=>?_)
  ·obtain ⟨_,x',m',cs',acc,y1,y2,y3,rfl,B',r',cE,cO,hacc,hal,heq⟩:=hp
   obtain ⟨nn,hnn⟩ : ∃ nn,n-i=nn+1:=⟨n-i-1,by omega⟩
   rw [hnn,zl2,zBn] at heq
   have hni:n-(i+1)=nn:=by omega
   generalize hei:((es.filter fun e=>e.1 == i).map fun e=>e.2)=ei at heq
   generalize hoi:(os.filter fun o=>o.at_ == i)=oi at heq
   have nS':∀ {H6:Hp} {m6:MB} {cs6:MS} {u:HO} {H0:Hp} {a:Addr},BD cB cC cK S H0 H6 b db m6 u cs6 ks T.kicks→H6 a=none→¬S a:=fun {H6 m6 cs6 u H0 a} B6 ha hs=>by
    obtain ⟨u,hu⟩:=B6.al a hs
    rw [hu] at ha;cases ha
   refine ⟨_,rfl,ge,rfl, .inl ⟨_, .inl (cE (ge, .dK (gD gsE)) (by simp [gC]))⟩,_,rfl,Nat.zero_le _,fun q1 hq1=>?_⟩
   obtain ⟨o1,l1,rs1,hd1,ho1,g1,e1⟩:=zuq gpE cE nsE hq1 (nS' B' hq1) (0+(i:Int))
   rw [zsx,hei] at e1
   have kq1:Same H' (upd H' q1 (.lst [])):=Same.new hq1
   generalize upd H' q1 (.lst [])=H4 at hd1 g1 kq1 ⊢
   have B4:=B'.same kq1
   refine ⟨o1,hd1,?_⟩
   rw [ho1]
   refine ⟨l1,rfl,⟨_,SqL.of g1.1⟩,?_⟩
   refine zhg (xs:=rs1.map fun r=>V.ref r.1) (fun j σ H5=>∃ cs5 y,σ=[some (.ref b),some (.int (n:Nat)),some (.ref er),some (.ref or),some (.ref ge),some (.ref go),some (.ref p),some (.int (0+(i:Int))),y,y3]∧
    BD cB cC cK S H4 H5 b db m' (.dK (mcD cs5)) cs5 ks T.kicks∧Rel T su ((ei.take j).foldl T.event x') m' cs5) ⟨cs',y2,rfl,B4.re,r'⟩ (fun j σ H5 _ h5=>by
     obtain ⟨cs5,y,_,B5,_⟩:=h5
     exact SqL.of (g1.keep B5.sx).1) (fun j v σ H5 hv h5=>?_) (fun σ H5 h5=>?_)
   ·obtain ⟨cs5,y,rfl,B5,r5⟩:=h5
    simp only [List.getElem?_map,Option.map_eq_some_iff] at hv
    obtain ⟨rr,hrr,rfl⟩:=hv
    obtain ⟨e,he,hrow⟩:=zv0 e1 hrr
    have hrc:=((g1.keep B5.sx).2.2 rr (List.mem_of_getElem? hrr)).1
    rw [hrow] at hrc
    refine ⟨_,rfl,b,_,_,rfl,B5.self,rfl,_,rfl,rr.1,_,_,_,rfl,rfl,SqL.of hrc,zjj (j:=0) rfl rfl,S,b,db,m',cs5,ks,T.kicks,(e:Nat),rfl,B5.re,fun H6 B6=>?_⟩
    have B6:BD cB cC cK S H5 H6 b db m' (.dK (mcD cs5)) (evM m' T.kicks cs5 e) ks T.kicks:=B6
    rw [← zry (zys m' T.kicks cs5 e)] at B6
    refine ⟨_,_,rfl,B6.tr B5.sx,?_⟩
    rw [zbe he,List.foldl_append]
    exact r5.event ok e
   obtain ⟨cs5,y,rfl,B5,r5⟩:=h5
   have el1:rs1.length=ei.length:=by
    have:=congrArg List.length e1
    simpa using this
   rw [List.length_map,el1,List.take_length] at r5
   have cE5:Cel H5 (gC ge gsE):=fun c hc=>B5.sx _ _ (nsE c hc) (kq1 _ _ (cE c hc))
   have cO5:Cel H5 (gC go gsO):=fun c hc=>B5.sx _ _ (nsO c hc) (kq1 _ _ (cO c hc))
   have hp5:H5 p=some (.lst ((acc:List Nat).map fun (z:Nat)=>V.int z)):=B5.sx _ _ (nS p hpH) (kq1 _ _ hacc)
   have B5H:BD cB cC cK S H H5 b db m' (.dK (mcD cs5)) cs5 ks T.kicks:=B5.tr (B'.sx.trans (SameX.of kq1))
   generalize ei.foldl T.event x'=x1 at r5 heq
   clear B5 cE cO
   refine ⟨_,rfl,go,rfl, .inl ⟨_, .inl (cO5 (go, .dK (gD gsO)) (by simp [gC]))⟩,_,rfl,Nat.zero_le _,fun q2 hq2=>?_⟩
   obtain ⟨o2,l2,rs2,hd2,ho2,g2,e2⟩:=zuq gpO cO5 nsO hq2 (nS' B5H hq2) (0+(i:Int))
   rw [ztc,hoi] at e2
   have kq2:Same H5 (upd H5 q2 (.lst [])):=Same.new hq2
   generalize upd H5 q2 (.lst [])=H7 at hd2 g2 kq2 ⊢
   have B7:=B5H.same kq2
   refine ⟨o2,hd2,?_⟩
   rw [ho2]
   refine ⟨l2,rfl,⟨_,SqL.of g2.1⟩,?_⟩
   refine zhg (xs:=rs2.map fun r=>V.ref r.1) (fun j σ H8=>∃ m8 cs8 yy,σ=[some (.ref b),some (.int (n:Nat)),some (.ref er),some (.ref or),some (.ref ge),some (.ref go),some (.ref p),some (.int (0+(i:Int))),y,yy]∧m8.passed=m'.passed∧
    BD cB cC cK S H7 H8 b db m8 (.dK (mcD cs8)) cs8 ks T.kicks∧Rel T su ((oi.take j).foldl T.order x1) m8 cs8) ⟨m',cs5,y3,rfl,rfl,B7.re,r5⟩ (fun j σ H8 _ h8=>by
     obtain ⟨m8,cs8,yy,_,_,B8,_⟩:=h8
     exact SqL.of (g2.keep B8.sx).1) (fun j v σ H8 hv h8=>?_) (fun σ H8 h8=>?_)
   ·obtain ⟨m8,cs8,yy,rfl,hpa,B8,r8⟩:=h8
    simp only [List.getElem?_map,Option.map_eq_some_iff] at hv
    obtain ⟨rr,hrr,rfl⟩:=hv
    obtain ⟨o,ho,hrow⟩:=zv0 e2 hrr
    have hrc:=((g2.keep B8.sx).2.2 rr (List.mem_of_getElem? hrr)).1
    rw [hrow] at hrc
    have hom:o∈os:=by
     have:=List.mem_of_getElem? ho
     rw [← hoi] at this
     exact (List.mem_filter.mp this).1
    obtain ⟨oo,oc⟩:=hoo o hom
    refine ⟨_,rfl,b,_,_,rfl,B8.self,rfl,_,rfl,rr.1,_,_,_,rfl,rfl,SqL.of hrc,zjj (j:=0) rfl rfl,_,rfl,rr.1,_,_,_,rfl,rfl,SqL.of hrc,zjj (j:=1) rfl rfl,_,rfl,rr.1,_,_,_,rfl,rfl,SqL.of hrc,zjj (j:=2) rfl rfl,S,b,db,m8,cs8,ks,T.kicks,(o.kind:Nat),(o.coil:Nat),(o.ticks:Nat),rfl,B8.re,fun hk=>?_,fun H9 B9=>?_⟩
    ·obtain ⟨c,hc,e⟩:=oc (by omega)
     obtain ⟨z,hz,z1,z2⟩:=zg0 r8.co hc
     exact ⟨z,hz,by have:=z1.place;omega⟩
    ·rw [← zry (zv6 m8 T.kicks cs8 o.kind o.coil o.ticks)] at B9
     refine ⟨ordN T.kicks m8 cs8 o.kind o.coil o.ticks,_,_,rfl,hpa,B9.tr B8.sx,?_⟩
     rw [zbe ho,List.foldl_append]
     exact r8.order ok oo
   obtain ⟨m8,cs8,yy,rfl,hpa,B8,r8⟩:=h8
   have el2:rs2.length=oi.length:=by
    have:=congrArg List.length e2
    simpa using this
   rw [List.length_map,el2,List.take_length] at r8
   generalize oi.foldl T.order x1=x2 at r8 heq
   refine ⟨_,rfl,b,_,_,rfl,B8.self,rfl,S,b,db,m8,cs8,ks,T.kicks,rfl,B8.re,?_,fun H9 cs9 bg B9=>?_⟩
   ·rw [r8.count ok,r8.sp]
    have:=r8.pu
    omega
   rw [← zry (ztl bg)] at B9
   have r9:=r8.begins ok B8.cl bg
   generalize x2.begins su Tilt.COILS=x3 at r9 heq
   have hp9:H9 p=some (.lst ((acc:List Nat).map fun (z:Nat)=>V.int z)):=B9.sx _ _ (nS p hpH) (B8.sx _ _ (nS p hpH) (kq2 _ _ hp5))
   refine ⟨_,rfl, .inl ⟨rfl,_,SqL.of hp9⟩,_,rfl,b,_,_,rfl,B9.self,rfl,S,b,db,m8,cs9,ks,T.kicks,rfl,B9.re,fun Ha Ba=>?_⟩
   have hpa2:Ha p=some (.lst ((acc:List Nat).map fun (z:Nat)=>V.int z)):=Ba.sx _ _ (nS p hpH) hp9
   have hlen:acc.length=i:=hal
   refine ⟨p,_,_,rfl,rfl,hpa2,by rw [List.length_map,hlen];simp [sizeLine];omega,?_⟩
   rw [← zry (zrw zqp cs9)] at Ba
   have hS:SameX S H Ha:=(B7.sx.trans B8.sx).trans (B9.sx.trans Ba.sx)
   have ht:x3.tick=x'.tick:=by
    have h1:=r9.pa
    have h2:=r'.pa
    omega
   rw [r9.sum ok]
   have rp:=r9.pass ok
   rw [ht] at rp
   have keep:∀ c:Addr,¬S c→∀ u,H5 c=some u→Ha c=some u:=fun c hc u hu=>Ba.sx _ _ hc (B9.sx _ _ hc (B8.sx _ _ hc (kq2 _ _ hu)))
   have BaH:=Ba.tr ((B7.sx.trans B8.sx).trans B9.sx)
   refine ⟨by omega,_,⟨m8.supply,m8.coils,m8.kicks,m8.kicking,m8.passed+1⟩,_,acc++[x3.onMask],_,_,_,rfl,BaH.side (fun c hc z=>nS p hpH (z▸BaH.fs c hc)) (.inr hpH),rp,fun c hc=>?_,fun c hc=>?_,?_,by simp [hlen],?_⟩
   ·rw [zag (pE c hc)];exact keep _ (nsE c hc) _ (cE5 c hc)
   ·rw [zag (pO c hc)];exact keep _ (nsO c hc) _ (cO5 c hc)
   ·rw [zaf,List.map_append];rfl
   ·rw [hni,heq]
    simp
  ·obtain ⟨_,x',m',cs',acc,y1,y2,y3,rfl,B',r',cE,cO,hacc,hal,heq⟩:=hp
   have heq:T.ticks su es os 0 n x=(x',acc++[]):=by
    rw [heq]
    show ((T.ticks su es os n (n-n) x').1,acc++(T.ticks su es os n (n-n) x').2)=_
    rw [Nat.sub_self];rfl
   rw [List.append_nil] at heq
   refine ⟨_,rfl,q H' p m' cs' B' ?_ ?_ hpH⟩
   ·rw [heq];exact r'
   ·rw [heq,hacc]
end
end
section
section
variable {P:Program} {w:World} {A:Around} {E:Value→Shared→Prop} {s:Shared}
def zwu (h:Heap) (it:Addr) (i:Nat):Heap:=h.update it (Obj.mapFields (·.setIfInBounds 1 (rawInt ((i:Int)+1))))
theorem zwv {h:Heap} {it d:Addr} {i n ep:Nat} (x:h.IsValIter it d i n ep):(zwu h it i).IsValIter it d (i+1) n ep:=by
 obtain ⟨o,ho,hc,hd⟩:=x
 exact ⟨_,Heap.get?_update_self _ ho (Obj.isFreed_of_fields (Obj.data_mapFields hd _)),(Obj.cls_mapFields ..).trans hc,by rw [Obj.data_mapFields hd];simp [rawInt]⟩
theorem zww {it d:Addr} {i n ep:Nat} {od:Obj} {es:Array DictEntry} {Q:Option Value→Shared→Prop} (x:s.heap.IsValIter it d i n ep) (hod:s.heap.get? d=some od) (hdd:od.data = .dict es ep) (hsz:es.size=n)
  (some_:∀ en,es[i]? = some en→∀ h',h'.IsValIter it d (i+1) n ep→Heap.SameBut it s.heap h'→Q (some en.val) { s with heap:=h' })
  (none_:es.size≤i→A.handled=none∧∀ h',Heap.ExtBut it s.heap h'→Q none { s with heap:=h' }):wpAny (model P w) A (pyNext (.ref it)) Q E s:=by
 obtain ⟨o,ho,hc,hd⟩:=id x
 have hT:=x.typeIs
 unfold pyNext
 refine wpAny_bind (wpAny_attempt (wpAny_callSpecial?_slot (name:=Str.ofString "__next__") hT F.slot_dict_valueiterator_next (wpAny_call_entry F.slot_dict_valueiterator_next hT F.entry_dict_valueiterator_next ?_ (F.args_dict_valueiterator_next_1 _))))
 refine wpAny_bind (wpAny_pure (wpAny_bind (wpAny_bind ?_)))
 first
  | refine wpAny_bind (wpAny_typeNameOfWhole_valiter hT (wpAny_pure ?_))
  | refine wpAny_bind (wpAny_typeNameOf_valiter hT (wpAny_pure ?_))
 refine wpAny_bind (wpAny_fieldsOf ho hd ?_)
 simp only [show Builtin.Dict_items.ownsTuple "dict_valueiterator"=false by decide,Bool.false_eq_true,if_false]
 show wpAny _ _ (if (Value.ref d == Value.none)=true then _ else _) _ _ s
 rw [if_neg (show ¬(Value.ref d == Value.none)=true from Bool.false_ne_true)]
 refine wpAny_bind (wpAny_pure (wpAny_bind (wpAny_dictEntries hod hdd ?_)))
 rw [if_neg (by rw [hsz];simp)]
 refine wpAny_bind (wpAny_pure (wpAny_bind (wpAny_dictEpoch hod hdd ?_)))
 rw [if_neg (by simp)]
 refine wpAny_pure ?_
 by_cases hi:i<es.size
 ·simp only [show ¬(i:Int)<0 by omega,if_false,Int.toNat_natCast,Array.getElem?_eq_getElem hi]
  refine wpAny_bind ?_
  first
   | refine wpAny_bind (wpAny_typeNameOfWhole_valiter hT (wpAny_pure ?_))
   | refine wpAny_bind (wpAny_typeNameOf_valiter hT (wpAny_pure ?_))
  refine wpAny_bind (wpAny_isOneOf_valiter hT ?_)
  show wpAny _ _ (setField (.ref it) 1 (rawInt ((i:Int)+1)) >>= _) _ _ s
  refine wpAny_bind (wpAny_setField ho hd (by simp) (wpAny_bind (wpAny_holding ?_)))
  have x':=zwv x
  refine wpAny_bind (wpAny_isOneOf_valiter (s:={ s with heap:=zwu s.heap it i }) x'.typeIs (wpAny_bind (wpAny_isOneOf_valiter (s:={ s with heap:=zwu s.heap it i }) x'.typeIs ?_)))
  show wpAny _ _ (pure (es[i]'hi).val) _ _ _
  exact wpAny_pure (wpAny_pure ⟨_,rfl,wpAny_pure (some_ es[i] (Array.getElem?_eq_getElem hi) _ x' (Heap.SameBut.update ..))⟩)
 ·have hge:es.size≤i:=by omega
  obtain ⟨hh,hQ⟩:=none_ hge
  simp only [show ¬(i:Int)<0 by omega,if_false,Int.toNat_natCast,Array.getElem?_eq_none hge]
  refine wpAny_bind ?_
  first
   | refine wpAny_bind (wpAny_typeNameOfWhole_valiter hT (wpAny_pure ?_))
   | refine wpAny_bind (wpAny_typeNameOf_valiter hT (wpAny_pure ?_))
  show wpAny _ _ (setField (.ref it) 0 .none >>= _) _ _ s
  refine wpAny_bind (wpAny_setField ho hd (by simp) ?_)
  show wpAny _ _ (newExc (.type "StopIteration") [] >>= _) _ _ _
  refine wpAny_bind ?_
  simp only [newExc,newTuple]
  refine wpAny_bind (wpAny_newObj_type ?_ (by size_fits))
  refine wpAny_bind (m:=firstArgMember _ _) (wpAny_of_eq (a:=Value.none) (by first | rfl | (simp only [firstArgMember];rfl)) (wpAny_newObj_type ?_ (by size_fits)))
  simp only [raiseNew]
  refine wpAny_bind (wpAny_handled ?_)
  rw [show A.in1.handled=none from hh]
  refine wpAny_bind (wpAny_pure (wpAny_throw ?_))
  refine wpAny_bind (wpAny_isInstance (T:="StopIteration") (b:=true) ⟨_,Heap.get?_push_size _ rfl,rfl⟩ isSubtype_stop ?_)
  exact wpAny_pure (hQ _ (((Heap.SameBut.update ..).extBut.push _).push _))
theorem zBr {v d:Addr} {ep:Nat} {od:Obj} {es:Array DictEntry} {Q:Value→Shared→Prop} (hv:s.heap.IsValuesView v d) (hod:s.heap.get? d=some od) (hdd:od.data = .dict es ep)
  (hQ:Q (.ref s.heap.objs.size) { s with heap:=s.heap.push { cls:=.type "dict_valueiterator",data:=.fields #[.ref d, .int 0 0, .int es.size 0, .int ep 0] } }):wpAny (model P w) A (pyIter (.ref v)) Q E s:=by
 have tv:=hv.typeIs
 obtain ⟨ov,gv,_,dv⟩:=hv
 refine wpAny_pyIter_slot tv F.slot_dict_values_iter ?_
 refine wpAny_call_entry F.slot_dict_values_iter tv F.entry_dict_values_iter ?_ (F.args_dict_values_iter_1 _)
 unfold Builtin.«dict_values.__iter__» Builtin.Dict_items.dictOf Builtin.Dict_items.newIterator
 refine wpAny_bind (wpAny_pure (wpAny_bind (wpAny_bind (wpAny_field gv dv (x:=.ref d) rfl (wpAny_pure (wpAny_bind ?_))))))
 refine wpAny_bind (wpAny_dictEntries hod hdd (wpAny_bind (wpAny_dictEpoch hod hdd ?_)))
 simp only [show Builtin.Dict_items.ownsTuple "dict_valueiterator"=false by decide,Bool.false_eq_true,if_false]
 refine wpAny_newObj_type (wpAny_pure ⟨_,rfl,?_⟩)
 exact ⟨"dict_valueiterator",_,⟨_,Heap.get?_push_size _ rfl,rfl⟩,F.slot_dict_valueiterator_next.lookup,by simpa [rawInt] using hQ⟩
theorem zBs (d:Addr) (hd:(d == sysModules)=false):MeetsIn P w (Builtin.«dict.values» ⟨[.ref d],[]⟩) (fun _ R s=>s.TypeIs (.ref d) "dict"∧R (.ok (.ret (.ref s.heap.objs.size))) { s with heap:=s.heap.push { cls:=.type "dict_values",data:=.fields #[.ref d] } }):=
 .of_wp fun A R s ⟨hm,h⟩=>by
  refine wpAny_bind ?_
  unfold Builtin.Dict.noArgs
  refine wpAny_bind (wpAny_notOrdered_dict hm ?_)
  show wpAny _ _ (pure d) _ _ s
  refine wpAny_pure ?_
  show wpAny _ _ (Builtin.Dict.showsAll d >>= _) _ _ s
  unfold Builtin.Dict.showsAll
  rw [if_neg (by rw [hd];exact Bool.false_ne_true)]
  exact wpAny_bind (wpAny_pure (wpAny_bind (wpAny_newObj_type (wpAny_pure ⟨_,rfl,h⟩))))
end
theorem frzV {X:Cx} {pins:List (Addr×Obj)} {σ:St} {H:Hp} {s:Shared} {d:Addr} {o:Obj} {kvs:List (List Key×V)} (I:L2.Inv X pins σ H s) (h:H d=some (.frz o (.dT kvs))) :
  (d == sysModules)=false∧s.heap.get? d=some o∧o.ExactDict∧∃ (es:Array DictEntry) (ep:Nat),o.data = .dict es ep∧es.size=kvs.length∧∀ (i:Nat) (en:DictEntry),es[i]? = some en→∃ k v,kvs[i]? = some (k,v)∧RelV v en.val:=by
 obtain ⟨hd,z,hs,xs,pr,o',es,ep,ho,hx,hdt,he,_⟩:=I.hok d _ h
 rw [hd] at ho
 cases ho
 have l1:es.size=xs.length:=size_of_entries he
 have l2:kvs.length=xs.length:=Paired.length pr
 refine ⟨hs,hd,hx,es,ep,hdt,by omega,fun i en e=>?_⟩
 have hi:i<es.size:=(Array.getElem?_eq_some_iff.mp e).1
 have hk:kvs[i]? = some kvs[i]:=List.getElem?_eq_getElem (by omega)
 obtain ⟨b,hb,e1,e2,e3⟩:=zlw pr hk
 have q:=entry_at he i
 rw [hb,e] at q
 have q:=Option.some.inj q
 refine ⟨kvs[i].1,kvs[i].2,hk,?_⟩
 rw [q]
 exact e3
def ItdT (d:Addr) (o:Obj) (kvs:List (List Key×V)):It:=
 ⟨fun i H=>H d=some (.frz o (.dT kvs))∧i<kvs.length,fun i H x H'=>H'=H∧∃ k,kvs[i]? = some (k,x),fun i H=>H d=some (.frz o (.dT kvs))∧kvs.length≤i⟩
section
variable {P:Program} {w:World} {K:W.Frag} {tg:Expr} {d:Addr} {o:Obj} {es:Array DictEntry} {ep:Nat}
theorem ztq {kvs:List (List Key×V)} (it:Addr) (hod:o.data = .dict es ep):Turn P w K tg (ItdT d o kvs) [it] it (fun i h=>h.IsValIter it d i kvs.length ep) where
 mem:=by simp
 obj:=fun i h st b hb=>by
  have e:b=it:=by simpa using hb
  subst e
  obtain ⟨oi,e,c,dd⟩:=st
  exact ⟨oi,e,fun v z=>by rw [dd] at z;cases z⟩
 keep:=fun i h h' st k=>st.at fun oi e=>k it (by simp) oi e
 item:=by
  intro X hP hw hK hc i pins s σ H E I hf st hg
  subst hP hw hK
  obtain ⟨hd,hi⟩:=hg
  obtain ⟨f0,f1,f2,f3,f4,f5⟩:=hf it (by simp)
  obtain ⟨hs,hgd,hx,es',ep',hdt,hsz,ent⟩:=frzV I hd
  obtain ⟨rfl,rfl⟩:=zmf hod hdt
  refine zww st hgd hdt hsz (fun en he h' st' sb=>?_) fun z=>absurd hi (by omega)
  obtain ⟨k,v,hkv,ru⟩:=ent i en he
  have I1:L2.Inv X pins σ H { s with heap:=h' }:=I.turned (t':=s.toks) (fun b ob hb e=>(sb.2 b hb).trans e) f0 f1 f3 f4 f5
  obtain ⟨oi,e,c,dd⟩:=id st'
  exact ⟨_,rfl,zp5 (s:={ s with heap:=h' }) e c dd (by decide) ⟨v,H,I1,ru,⟨rfl,k,hkv⟩,st',fun b hb=>(hf b hb).1⟩⟩
 done:=by
  intro X hP hw hK hc i pins s σ H E I hf st hg
  subst hP hw hK
  obtain ⟨hd,hi⟩:=hg
  obtain ⟨f0,f1,f2,f3,f4,f5⟩:=hf it (by simp)
  obtain ⟨hs,hgd,hx,es',ep',hdt,hsz,ent⟩:=frzV I hd
  obtain ⟨rfl,rfl⟩:=zmf hod hdt
  exact zww st hgd hdt hsz (fun en he=>absurd (Array.getElem?_eq_some_iff.mp he).1 (by omega)) fun _=>⟨I.ok.hd hc,fun h' eb=>⟨rfl,I.turned (t':=s.toks) (fun b ob hb e=>eb b ob hb e) f0 f1 f3 f4 f5⟩⟩
 self:=fun A i s Q E st h=>wpAny_pyIter_valiter st h
end
def zCi (td:TE):TI:=fun σ H R=>td σ H fun x H1=>E3 fun d o kvs=>A3 (x = .ref d) (H1 d=some (.frz o (.dT kvs))) (R (ItdT d o kvs) H1)
theorem zth {X:Cx} {tg e:Expr} {td:TE} {apos cpos:Pos} (he:PE X e td) (hbase:attributeBase e "values" X.env (eval e X.env)=eval e X.env:=by rfl) (hline:(apos.endLine == cpos.line)=true:=by rfl):PI X tg (.Call (.Attribute e "values" apos) [] [] cpos) (zCi td):=by
 intro pins s σ H R I h
 refine wpAny_Call_method (T:="dict") (id:="dict.values") hbase rfl hline F.plainAttrs_dict F.slot_dict_values F.type_dict_values (thn (he pins s σ H _ I h) fun u s1 ⟨x,H1,I1,rx,d,o,kvs,ex,hd,q⟩=>?_)
 subst ex
 obtain rfl:u=Value.ref d:=rx
 obtain ⟨hs,hgd,hx,es,ep,hdt,hsz,ent⟩:=frzV I1 hd
 have hty:s1.TypeIs (.ref d) "dict":=⟨o,hgd,hx.1⟩
 refine ⟨hty,?_,?_⟩
 ·intro b hb
  cases hb
  exact ⟨o,hgd,hx.2.1⟩
 have I2:L2.Inv X pins σ H1 { s1 with heap:=s1.heap.push { cls:=.type "dict_values",data:=.fields #[.ref d] } }:=I1.kept (t':=s1.toks) fun b ob q=>Heap.get?_push_of_some _ q
 have fin:wpAny (model X.prog X.w) X.A (pyIter (.ref s1.heap.objs.size)) (PIE X pins σ tg R) X.xe { s1 with heap:=s1.heap.push { cls:=.type "dict_values",data:=.fields #[.ref d] } }:=by
  refine zBr (d:=d) ⟨_,Heap.get?_push_size _ rfl,rfl,rfl⟩ (Heap.get?_push_of_some _ hgd) hdt (zo9 (tk:=s1.toks) I2 _ (ztq _ hdt) ⟨_,Heap.get?_push_size _ rfl,rfl,?_⟩ q)
  rw [hsz]<;>rfl
 show wpAny _ _ (callWith cpos (.builtin "dict.values") [.ref d] [] []) _ X.xe s1
 exact method_meetsIn F.slot_dict_values F.entry_dict_values rfl (PySem.evalArgs_none ⟨rfl,hty,F.args_dict_values_1 _,_,zBs d hs,hty,fin⟩)
end
section
def csOf (cs:CS):MS:=cs.map fun c=>(c.1,c.2.1,mc0 c.2.2)
theorem zA3 {cs:MS} {x:MSc} (h:x.2.2.place∉cs.map (·.2.2.place)):putK (mcD cs) (Sum.inl x.2.2.place) (.ref x.1)=mcD (cs++[x]):=by
 rw [zm7]
 ·simp [mcD]
 ·rw [zpl]
  have:(cs.find? fun c=>decide (c.2.2.place=x.2.2.place))=none:=by
   rw [List.find?_eq_none]
   intro y hy z
   exact h (List.mem_map.mpr ⟨y,hy,of_decide_eq_true z⟩)
  rw [this];rfl
section
variable {cW cF cT cC cK cB:Addr}
def zng (cB cC cK cT:Addr):Sp:=fun vs H Q _=>E7 fun p dx t dt mt cs su=>A8 (vs=[.ref p, .ref t, .int su]) (H p=some (.ins cB dx [])) (H t=some (.ins cT dt (zdx mt))) (H mt.coils=some (.dT (coD cs))) ((∀ c∈cs,H c.1=some (.ins cC c.2.1 (za4 (mc0 c.2.2))))) ((cs.map (·.2.2.place)).Nodup) (cs.length≤32) (A3 (p≠t) (p∉cs.map (·.1)) (∀ H' d,H d=none→H' p=some (.ins cB dx (zj4 ⟨su,d,mt.kicks,false,0⟩))→H' d=some (.dK (mcD (csOf cs)))→d≠p→SameX (only p) H H'→Q .non H'))
abbrev zci:Stmt:=zaw (top 26) 0
theorem sc_Board___init__:zai ["self","table","supply","coil"] ["self","table","supply"] (zae zci):=by walk_at "sc"
theorem zh5:zak zci "__init__" "Board.__init__" ["self","table","supply"]:=fun _ _ _ _ _ _ us hl=>match us,hl with | [_,_,_],_=>rfl
theorem ziq (tG:TG K mg) (tBoard:zdz K cB) (tTable:zd0 K cT) (tCoil:zdt K cC) (F:InK K mg cB "Board" "Board.__init__" zci) :
  Id P w K mg base CX0 cB "Board" ["self","table","supply"] 1 (zng cB cC cK cT):=by
 refine F.id sc_Board___init__ zh5 (fun vs H Q E h=>?_) (fun f cdv A outer s H vs Q E hr h=>?_)
 ·obtain ⟨p,dx,t,dt,mt,cs,su,rfl,_⟩:=h
  rfl
 ·obtain ⟨p,dx,t,dt,mt,cs,su,rfl,hp,ht,hc,hcs,hnd,hcl,npt,npc,q⟩:=h
  have hu:=za2 hr
  have hu64:=hr.units
  refine ⟨_,(zab (zau (pv 0) (pv 2) rfl)
   (zab (zau (pv 0) zr9 rfl)
   (zab (zkn (zd3 PassesOwn.never rfl (zth (zah (pv 1) rfl)) (zbp (i:=3) sc_Board___init__.nd rfl (Or.inl rfl))
    (zac (zg1 hu (zah (pv 0) rfl) (zah (pv 3) rfl) (pv 3) rfl))))
   (zab (zau (pv 0) (zah (pv 1) rfl) rfl)
   (zab (zau (pv 0) zei rfl)
   (zac (zau (pv 0) zao rfl))))))),?_⟩
  have f_tBoard_cl:=tBoard.cl
  have f_tBoard_n_supply:=tBoard.n_supply
  have f_tBoard_n_coils:=tBoard.n_coils
  have f_tTable_cl:=tTable.cl
  have f_tTable_n_coils:=tTable.n_coils
  have f_tCoil_cl:=tCoil.cl
  have f_tCoil_n_place:=tCoil.n_place
  have f_tBoard_n_kicks:=tBoard.n_kicks
  have f_tTable_n_kicks:=tTable.n_kicks
  have f_tBoard_n_kicking:=tBoard.n_kicking
  have f_tBoard_n_passed:=tBoard.n_passed
  refine ⟨_,rfl,_,rfl,p,_,_,_,rfl,hp,f_tBoard_cl,f_tBoard_n_supply,(by decide),?_⟩
  intro d hd
  have hpd:p≠d:=zaj zaf hd
  have hd0:H d=none:=by rw [zag hpd.symm] at hd;exact hd
  refine ⟨_,rfl,p,_,_,_,rfl,by rw [zag hpd,zaf],f_tBoard_cl,f_tBoard_n_coils,(by simp [putF]),?_⟩
  have npc2:p≠mt.coils:=fun z=>by rw [z,hc] at hp;cases hp
  have ndc:d≠mt.coils:=(zaj hc hd0).symm
  have ndt:d≠t:=(zaj ht hd0).symm
  refine ⟨mt.coils, .dT (coD cs),by rw [zag npc2.symm,zag ndc.symm,zag npc2.symm];exact hc,True.intro,fun od=>?_⟩
  generalize hH1:upd (upd (upd H p _) d _) p _=H1
  have h1p:H1 p=some (.ins cB dx [("supply", .int su),("coils", .ref d)]):=by rw [← hH1,zaf];rfl
  have h1:∀ b,b≠p→b≠d→H1 b=H b:=fun b b1 b2=>by rw [← hH1,zag b1,zag b2,zag b1]
  have h1d:H1 d=some (.dK []):=by rw [← hH1,zag hpd.symm,zaf]
  generalize hHl:upd H1 mt.coils (.frz od (.dT (coD cs)))=Hl
  have hlc:Hl mt.coils=some (.frz od (.dT (coD cs))):=by rw [← hHl,zaf]
  have hl:∀ b,b≠mt.coils→Hl b=H1 b:=fun b hb=>by rw [← hHl,zag hb]
  have hlt:Hl t=some (.ins cT dt (zdx mt)):=by
   rw [hl t (fun z=>by rw [z,hc] at ht;cases ht),h1 t npt.symm ndt.symm];exact ht
  have hlp:Hl p=some (.ins cB dx [("supply", .int su),("coils", .ref d)]):=by rw [hl p npc2];exact h1p
  have hlcs:∀ c∈cs,Hl c.1=some (.ins cC c.2.1 (za4 (mc0 c.2.2))):=fun c hcm=>by
   have e:=hcs c hcm
   rw [hl c.1 (fun z=>by rw [z,hc] at e;cases e),h1 c.1 (fun z=>npc (z▸List.mem_map.mpr ⟨c,hcm,rfl⟩)) (zaj e hd0)]
   exact e
  refine ⟨_,rfl,t,_,_,_,_,rfl,hlt,f_tTable_cl,f_tTable_n_coils,rfl,mt.coils,od,coD cs,rfl,hlc,?_⟩
  have hUp:∀ (X:HO) (b:Addr),b≠d→upd Hl d X b=Hl b:=fun X b hb=>zag hb
  refine zp4 (n:=cs.length) (fun i σ H'=>(∃ y,σ=[some (.ref p),some (.ref t),some (.int su),y])∧H'=upd Hl d (.dK (mcD ((csOf cs).take i)))) ⟨⟨none,rfl⟩,?_⟩ (fun σ H' hp=>?_) (fun i σ H' hi hp=>?_)
  ·show Hl=upd Hl d (.dK [])
   exact (zsm (by rw [hl d ndc];exact h1d)).symm
  ·obtain ⟨⟨y,rfl⟩,rfl⟩:=hp
   have e0:upd Hl d (.dK (mcD ((csOf cs).take cs.length))) mt.coils=some (.frz od (.dT (coD cs))):=by rw [hUp _ _ ndc.symm];exact hlc
   refine ⟨⟨e0,by simp [coD]⟩,e0,?_⟩
   have etk:(csOf cs).take cs.length=csOf cs:=List.take_of_length_le (by simp [csOf])
   rw [etk]
   generalize hHz:upd (upd Hl d (.dK (mcD (csOf cs)))) mt.coils (.dT (coD cs))=Hz
   have zp:Hz p=some (.ins cB dx [("supply", .int su),("coils", .ref d)]):=by rw [← hHz,zag npc2,zag hpd];exact hlp
   have zt:Hz t=some (.ins cT dt (zdx mt)):=by rw [← hHz,zag (fun z=>by rw [z,hc] at ht;cases ht),zag ndt.symm];exact hlt
   have zd:Hz d=some (.dK (mcD (csOf cs))):=by rw [← hHz,zag ndc,zaf]
   have zs:SameX (only p) H Hz:=fun b o hb he=>by
    have hb:b≠p:=hb
    have hbd:b≠d:=zaj he hd0
    by_cases e:b=mt.coils
    ·rw [← hHz,e,zaf];rw [e,hc] at he;exact he
    ·rw [← hHz,zag e,zag hbd,hl b e,h1 b hb hbd];exact he
   refine ⟨_,rfl,t,_,_,_,_,rfl,zt,f_tTable_cl,f_tTable_n_kicks,rfl,_,rfl,p,_,_,_,rfl,zp,f_tBoard_cl,f_tBoard_n_kicks,(by simp),?_⟩
   refine ⟨_,rfl,p,_,_,_,rfl,zaf,f_tBoard_cl,f_tBoard_n_kicking,(by show 3<1000;decide),?_⟩
   refine ⟨_,rfl,p,_,_,_,rfl,zaf,f_tBoard_cl,f_tBoard_n_passed,(by show 4<1000;decide),?_⟩
   refine q _ d hd0 (by rw [zaf];rfl) ?_ hpd.symm ?_
   ·rw [zag hpd.symm,zag hpd.symm,zag hpd.symm];exact zd
   ·exact zs.trans ((SameX.put (S:=only p) rfl).trans ((SameX.put (S:=only p) rfl).trans (SameX.put (S:=only p) rfl)))
  ·obtain ⟨⟨y,rfl⟩,rfl⟩:=hp
   have e0:∀ X,upd Hl d X mt.coils=some (.frz od (.dT (coD cs))):=fun X=>by rw [hUp _ _ ndc.symm];exact hlc
   refine ⟨⟨e0 _,by simpa [coD] using hi⟩,fun v H2 hv=>?_⟩
   obtain ⟨rfl,k,hk⟩:=hv
   simp only [coD,List.getElem?_map,Option.map_eq_some_iff] at hk
   obtain ⟨c,hci,e⟩:=hk
   obtain ⟨_,rfl⟩:=Prod.mk.inj e
   have hcm:c∈cs:=List.mem_of_getElem? hci
   have hx:(csOf cs)[i]? = some (c.1,c.2.1,mc0 c.2.2):=by simp [csOf,hci]
   have hcd:c.1≠d:=zaj (hcs c hcm) hd0
   have hcc:upd Hl d (.dK (mcD ((csOf cs).take i))) c.1=some (.ins cC c.2.1 (za4 (mc0 c.2.2))):=by rw [hUp _ _ hcd];exact hlcs c hcm
   have hpp:upd Hl d (.dK (mcD ((csOf cs).take i))) p=some (.ins cB dx [("supply", .int su),("coils", .ref d)]):=by rw [hUp _ _ hpd];exact hlp
   refine ⟨_,rfl,_,rfl,p,_,_,_,_,rfl,hpp,f_tBoard_cl,f_tBoard_n_coils,rfl,_,rfl,c.1,_,_,_,_,rfl,hcc,f_tCoil_cl,f_tCoil_n_place,rfl,d,_,rfl,DPut.k (k:=Sum.inl (mc0 c.2.2).place) zaf ?_,⟨_,rfl⟩,?_⟩
   ·simp [mcD,csOf,sizeLine];omega
   ·rw [zc9,zbe hx]
    congr 2
    refine zA3 (x:=(c.1,c.2.1,mc0 c.2.2)) ?_
    have hn:((csOf cs).map (·.2.2.place)).Nodup:=by
     have:(csOf cs).map (·.2.2.place)=(cs.map (·.2.2.place)).map fun (n:Nat)=>(n:Int):=by simp [csOf,mc0,Function.comp_def]
     rw [this]
     exact List.Pairwise.map _ (fun a b hab z=>hab (by omega)) hnd
    intro hm
    rw [← List.take_append_drop i (csOf cs),List.map_append,List.nodup_append] at hn
    refine hn.2.2 _ hm _ ?_ rfl
    have hil:i<(csOf cs).length:=(List.getElem?_eq_some_iff.mp hx).1
    rw [List.drop_eq_getElem_cons hil,List.map_cons]
    have:(csOf cs)[i]=(c.1,c.2.1,mc0 c.2.2):=(List.getElem?_eq_some_iff.mp hx).2
    rw [this]
    exact List.mem_cons_self ..
end
end
section
open Tilt (Drive Table Ans)
open TiltCoilCalls (State)
def DK (cD cB cC cK:Addr) (S:Addr→Prop) (H:Hp) (k dk:Addr) (st:State):Prop:=¬S k∧match st with
 | none=>H k=some (.ins cD dk (zf5 ⟨.non⟩))∧∀ a,S a→∃ u,H a=some u
 | some a=>∃ b db m cs ks,H k=some (.ins cD dk (zf5 ⟨.ref b⟩))∧BD cB cC cK S H H b db m (.dK (mcD cs)) cs ks a.T.kicks∧TOk a.T∧Rel a.T a.supply a.x m cs
theorem DK.same {cD cB cC cK:Addr} {S:Addr→Prop} {H H':Hp} {k dk:Addr} {st:State} (h:DK cD cB cC cK S H k dk st) (s:Same H H'):DK cD cB cC cK S H' k dk st:=by
 obtain ⟨h0,h⟩:=h
 refine ⟨h0,?_⟩
 cases st with
 | none=>exact ⟨s _ _ h.1,fun a ha=>let ⟨u,hu⟩:=h.2 a ha; ⟨u,s _ _ hu⟩⟩
 | some a=>
  obtain ⟨b,db,m,cs,ks,h1,h2,h3,h4⟩:=h
  exact ⟨b,db,m,cs,ks,s _ _ h1,(h2.same s).re,h3,h4⟩
def ansL (a:Ans):List V:=(a.code :: a.nums).map V.int
def DRes (cD cB cC cK:Addr) (H:Hp) (S:Addr→Prop) (k dk:Addr) (r:State×Ans) (Q:VK):Prop:=
 ∀ H' S' p,DK cD cB cC cK S' H' k dk r.1→(∀ a,S' a→S a∨H a=none)→SameX (fun a=>S a∨a=k) H H'→H' p=some (.lst (ansL r.2))→H p=none→Q (.ref p) H'
theorem DRes.new {cD cB cC cK:Addr} {H H1:Hp} {S:Addr→Prop} {k dk:Addr} {st:State} {a:Ans} {Q:VK} (q:DRes cD cB cC cK H S k dk (st,a) Q) (h:DK cD cB cC cK S H k dk st) (s:Same H H1) {p:Addr} (hp:H1 p=none) :
  Q (.ref p) (upd H1 p (.lst (ansL a))):=by
 refine q _ S p ((h.same s).same (Same.new hp)) (fun a ha=>.inl ha) (SameX.of (Same.trans s (Same.new hp))) zaf ?_
 cases z:H p with
 | none=>rfl
 | some u=>rw [s _ _ z] at hp;cases hp
def zfp (st:State) (p:Nat):Int:=match st with
 | none=>-10
 | some a=>if 31<p then -1 else match a.T.coilAt p with
  | none=>-4
  | some _=>0
theorem zhy (a:TiltCoilCalls.At) (p:Nat):zfp (some a) p=if 31<p then -1 else match a.T.coilAt p with
  | none=>-4
  | some _=>0:=rfl
theorem zi1 {a:TiltCoilCalls.At} {p:Nat} (h:31<p):zfp (some a) p = -1:=by rw [zhy,if_pos h]
theorem zkq {a:TiltCoilCalls.At} {p:Nat} (h:¬31<p) (e:a.T.coilAt p=none):zfp (some a) p = -4:=by rw [zhy,if_neg h,e]
theorem zkr {a:TiltCoilCalls.At} {p:Nat} {c:Tilt.Coil} (h:¬31<p) (e:a.T.coilAt p=some c):zfp (some a) p=0:=by rw [zhy,if_neg h,e]
theorem Rel.find {T:Table} {su:Nat} {x:Drive} {m:MB} {cs:MS} (ok:TOk T) (r:Rel T su x m cs) (p:Nat) :
  (T.coilAt p=none∧valV (mcD cs) (Sum.inl (p:Int))=none)∨∃ c y,T.coilAt p=some c∧c.place=p∧y∈cs∧PRel x c y∧valV (mcD cs) (Sum.inl (p:Int))=some (.ref y.1)∧cs.find? (fun c=>decide (c.2.2.place=(p:Int)))=some y:=by
 rw [zpl]
 cases hf:cs.find? fun c=>decide (c.2.2.place=(p:Int)) with
 | none=>
  refine .inl ⟨?_,rfl⟩
  cases e:T.coilAt p with
  | none=>rfl
  | some c=>
   obtain ⟨hc,rfl⟩:=zcz e
   obtain ⟨y,hy,g1,g2⟩:=zg0 r.co hc
   exact absurd (decide_eq_true g1.place) (List.find?_eq_none.mp hf y hy)
 | some y=>
  have hy:=List.mem_of_find?_eq_some hf
  have hp:y.2.2.place=(p:Int):=by have:=List.find?_some hf;simpa using this
  obtain ⟨c,hc,g1,g2⟩:=zdi r.co hy
  have e:c.place=p:=by have:=g1.place;omega
  subst e
  exact .inr ⟨c,y,zif ok hc,rfl,hy,⟨g1,g2⟩,rfl,rfl⟩
section
variable {cW cF cT cC cK cB cD cR:Addr}
def zqz (cD:Addr):Sp:=fun vs H Q _=>E2 fun p dx=>A3 (vs=[.ref p]) (H p=some (.ins cD dx [])) (Q .non (upd H p (.ins cD dx (zf5 ⟨.non⟩))))
def spRP (cD cB cC cK:Addr):Sp:=fun vs H Q _=>E5 fun k dk S st p=>A3 (vs=[.ref k, .int (p:Nat)]) (DK cD cB cC cK S H k dk st) (Q (.int (zfp st p)) H)
def zBh (cD cB cC cK:Addr):Sp:=fun vs H Q _=>E4 fun k dk S st=>A3 (vs=[.ref k]) (DK cD cB cC cK S H k dk st) (DRes cD cB cC cK H S k dk (TiltCoilCalls.step st .now) Q)
def zwj (cD cB cC cK:Addr):Sp:=fun vs H Q _=>E5 fun k dk S st p=>A3 (vs=[.ref k, .int (p:Nat)]) (DK cD cB cC cK S H k dk st) (DRes cD cB cC cK H S k dk (TiltCoilCalls.step st (.soon p)) Q)
def znn (cD cB cC cK:Addr):Sp:=fun vs H Q _=>E5 fun k dk S st p=>A3 (vs=[.ref k, .int (p:Nat)]) (DK cD cB cC cK S H k dk st) (DRes cD cB cC cK H S k dk (TiltCoilCalls.step st (.stands p)) Q)
abbrev zcw:Stmt:=zaw (top 97) 0
theorem zjx:zai ["self"] ["self"] (zae zcw):=by walk_at "sc"
theorem zjm:zak zcw "__init__" "Desk.__init__" ["self"]:=fun _ _ _ _ _ _ us hl=>match us,hl with | [_],_=>rfl
abbrev zbq:Stmt:=zaw (top 97) 6
theorem zga:zai ["self","place"] ["self","place"] (zae zbq):=by walk_at "sc"
theorem zf1:zak zbq "refuse_place" "Desk.refuse_place" ["self","place"]:=fun _ _ _ _ _ _ us hl=>match us,hl with | [_,_],_=>rfl
abbrev ze0:Stmt:=zaw (top 97) 5
theorem zqu:zai ["self"] ["self"] (zae ze0):=by walk_at "sc"
theorem zpv:zak ze0 "now" "Desk.now" ["self"]:=fun _ _ _ _ _ _ us hl=>match us,hl with | [_],_=>rfl
abbrev zd6:Stmt:=zaw (top 97) 3
theorem sc_Desk_soon:zai ["self","place","refusal","coil"] ["self","place"] (zae zd6):=by walk_at "sc"
theorem zn4:zak zd6 "soon" "Desk.soon" ["self","place"]:=fun _ _ _ _ _ _ us hl=>match us,hl with | [_,_],_=>rfl
abbrev zdb:Stmt:=zaw (top 97) 4
theorem sc_Desk_stands:zai ["self","place","refusal"] ["self","place"] (zae zdb):=by walk_at "sc"
theorem zk4:zak zdb "stands" "Desk.stands" ["self","place"]:=fun _ _ _ _ _ _ us hl=>match us,hl with | [_,_],_=>rfl
theorem zjr (tG:TG K mg) (tDesk:zl4 K cD) (F:InK K mg cD "Desk" "Desk.__init__" zcw) :
  Id P w K mg base CX0 cD "Desk" ["self"] 1 (zqz cD):=by
 refine F.id zjx zjm (fun vs H Q E h=>?_) (fun f cdv A outer s H vs Q E hr h=>?_)
 ·obtain ⟨p,dx,rfl,_⟩:=h
  rfl
 ·obtain ⟨p,dx,rfl,hp,q⟩:=h
  have hu:=za2 hr
  have hu64:=hr.units
  refine ⟨_,(zac (zau (pv 0) zo8 rfl)),?_⟩
  have f_tDesk_cl:=tDesk.cl
  have f_tDesk_n_board:=tDesk.n_board
  exact ⟨_,rfl,p,_,_,_,rfl,hp,f_tDesk_cl,f_tDesk_n_board,(by decide),q⟩
theorem zp0 {b:Addr}:decide (V.ref b=V.non)=false:=decide_eq_false (fun h=>by cases h)
theorem zpz:decide (V.non=V.non)=true:=decide_eq_true rfl
theorem zf6 (tG:TG K mg) (tDesk:zl4 K cD) (tBoard:zdz K cB) (F:MtK K cD "refuse_place" "Desk.refuse_place" zbq) :
  Md P w K mg base CX0 cD "refuse_place" ["self","place"] 1 (spRP cD cB cC cK):=by
 refine F.md zga zf1 (fun vs H Q E h=>?_) (fun f cdv A outer s H vs Q E hr h=>?_)
 ·obtain ⟨k,dk,S,st,p,rfl,_⟩:=h
  rfl
 ·obtain ⟨k,dk,S,st,p,rfl,⟨h0,h⟩,q⟩:=h
  have hu:=za2 hr
  have hu64:=hr.units
  refine ⟨_,(zab (za5 (zan zvk (zah (pv 0) rfl) zo8 (zam _)) (zac (zar (zap tG.g_NOT_BEGUN))) zaq)
   (zab (za5 (zan zfm (pv 1) (zap tG.g_LAST_COIL) (zam _)) (zac (zar (zap tG.g_NOT_RIGHT))) zaq)
   (zab (za5 (zzp (zeo hu (pv 1) (zah (zah (pv 0) rfl) rfl))) (zac (zar (zap tG.g_NO_COIL))) zaq)
   (zac (zar (zap tG.g_DONE)))))),?_⟩
  have f_tDesk_cl:=tDesk.cl
  have f_tDesk_n_board:=tDesk.n_board
  have f_tBoard_cl:=tBoard.cl
  have f_tBoard_n_coils:=tBoard.n_coils
  cases st with
  | none=>
   refine ⟨_,rfl,k,_,_,_,_,rfl,h.1,f_tDesk_cl,f_tDesk_n_board,rfl,rfl,_,rfl,?_⟩
   rw [zpz]
   exact iteT q
  | some a=>
   obtain ⟨b,db,m,cs,ks,hk,B,ok,r⟩:=h
   refine ⟨_,rfl,k,_,_,_,_,rfl,hk,f_tDesk_cl,f_tDesk_n_board,rfl,rfl,_,rfl,?_⟩
   rw [zp0]
   refine iteF ⟨_,rfl,_,_,rfl,rfl,_,rfl,?_⟩
   by_cases h31:31<p
   ·rw [decide_eq_true (by omega)]
    rw [zi1 h31] at q
    exact iteT q
   rw [decide_eq_false (by omega)]
   refine iteF ⟨_,rfl,_,rfl,k,_,_,_,_,rfl,hk,f_tDesk_cl,f_tDesk_n_board,rfl,b,_,_,_,_,rfl,B.self,f_tBoard_cl,f_tBoard_n_coils,rfl,m.coils,_,rfl,DGet.k (k:=Sum.inl (p:Int)) B.dict,_,rfl,?_⟩
   rcases r.find ok p with ⟨e1,e2⟩ | ⟨c,y,e1,_,_,_,e2,_⟩
   ·rw [zkq h31 e1] at q
    rw [e2]
    exact iteT q
   ·rw [zkr h31 e1] at q
    rw [e2]
    exact iteF q
theorem zqk (tG:TG K mg) (tDesk:zl4 K cD) (tBoard:zdz K cB) (F:MtK K cD "now" "Desk.now" ze0) :
  Md P w K mg base CX0 cD "now" ["self"] 1 (zBh cD cB cC cK):=by
 refine F.md zqu zpv (fun vs H Q E h=>?_) (fun f cdv A outer s H vs Q E hr h=>?_)
 ·obtain ⟨k,dk,S,st,rfl,_⟩:=h
  rfl
 ·obtain ⟨k,dk,S,st,rfl,h,q⟩:=h
  have hu:=za2 hr
  have hu64:=hr.units
  refine ⟨_,(zab (za5 (zan zvk (zah (pv 0) rfl) zo8 (zam _)) (zac (zar (zb5 (zaa (zap tG.g_NOT_BEGUN) zad)))) zaq)
   (zac (zar (zb5 (zaa (zap tG.g_DONE) (zaa (zah (zah (pv 0) rfl) rfl) (zaa (zfn zj5 (by rfl) tG.b_int zt7 (zaa (zah (zah (pv 0) rfl) rfl) zad)) zad))))))),?_⟩
  have f_tDesk_cl:=tDesk.cl
  have f_tDesk_n_board:=tDesk.n_board
  have f_tBoard_cl:=tBoard.cl
  have f_tBoard_n_kicking:=tBoard.n_kicking
  have f_tBoard_n_passed:=tBoard.n_passed
  cases st with
  | none=>
   refine ⟨_,rfl,k,_,_,_,_,rfl,h.2.1,f_tDesk_cl,f_tDesk_n_board,rfl,rfl,_,rfl,?_⟩
   rw [zpz]
   exact iteT ⟨by decide,fun p hp=>DRes.new (a:=Tilt.says (-10)) q h (Same.refl H) hp⟩
  | some a=>
   obtain ⟨b,db,m,cs,ks,hk,B,ok,r⟩:=h.2
   refine ⟨_,rfl,k,_,_,_,_,rfl,hk,f_tDesk_cl,f_tDesk_n_board,rfl,rfl,_,rfl,?_⟩
   rw [zp0]
   refine iteF ⟨_,rfl,k,_,_,_,_,rfl,hk,f_tDesk_cl,f_tDesk_n_board,rfl,b,_,_,_,_,rfl,B.self,f_tBoard_cl,f_tBoard_n_passed,rfl,_,rfl,k,_,_,_,_,rfl,hk,f_tDesk_cl,f_tDesk_n_board,rfl,b,_,_,_,_,rfl,B.self,f_tBoard_cl,f_tBoard_n_kicking,rfl, .inr ⟨_,rfl,(by show 3≤sizeLine;decide),fun p hp=>?_⟩⟩
   have:=DRes.new (a:=Tilt.tells [a.x.tick,a.x.kicks.toNat]) q h (Same.refl H) hp
   have e:ansL (Tilt.tells [a.x.tick,a.x.kicks.toNat])=[.int 0, .int m.passed, .int (if m.kicking=true then 1 else 0)]:=by
    rw [r.pa,r.kg]
    cases a.x.kicks<;>rfl
   rw [e] at this
   exact this
theorem zov (tG:TG K mg) (tDesk:zl4 K cD) (tBoard:zdz K cB) (tCoil:zdt K cC) (m_Desk_refuse_place:Md P w K mg base CX0 cD "refuse_place" ["self","place"] 1 (spRP cD cB cC cK)) (m_Coil_is_idle:Md P w K mg base CX0 cC "is_idle" ["self"] 1 (spRd cC fun c=>.bl (zge c))) (F:MtK K cD "soon" "Desk.soon" zd6) :
  Md P w K mg base CX0 cD "soon" ["self","place"] 2 (zwj cD cB cC cK):=by
 refine F.md sc_Desk_soon zn4 (fun vs H Q E h=>?_) (fun f cdv A outer s H vs Q E hr h=>?_)
 ·obtain ⟨k,dk,S,st,p,rfl,_⟩:=h
  rfl
 ·obtain ⟨k,dk,S,st,p,rfl,h,q⟩:=h
  have hu:=za2 hr
  have hu64:=hr.units
  refine ⟨_,(zab (zax (i:=2) sc_Desk_soon.nd rfl (Or.inl rfl) (pe_m m_Desk_refuse_place tDesk.cl hr zaz (pv 0) (zaa (pv 1) zad)))
   (zab (za5 (zan zqm (pv 2) (zap tG.g_DONE) (zam _)) (zac (zar (zb5 (zaa (pv 2) zad)))) zaq)
   (zab (zax (i:=3) sc_Desk_soon.nd rfl (Or.inl rfl) (zdl hu (zah (zah (pv 0) rfl) rfl) (pv 1) (fun _ _=>rfl)))
   (zab (za5 (ze5 (zct (zbk m_Coil_is_idle tCoil.cl hr zaz (pv 3)))) (zac (zar (zb5 (zaa (zap tG.g_NOT_IDLE) zad)))) zaq)
   (zac (zar (zb5 (zaa (zap tG.g_DONE) (zaa (zah (pv 3) rfl) zad))))))))),?_⟩
  have f_tDesk_cl:=tDesk.cl
  have f_tBoard_cl:=tBoard.cl
  have f_tBoard_n_coils:=tBoard.n_coils
  have f_tDesk_n_board:=tDesk.n_board
  have f_tCoil_cl:=tCoil.cl
  have f_tCoil_n_left:=tCoil.n_left
  have hob:∃ v,H k=some (.ins cD dk (zf5 ⟨v⟩)):=by
   cases st with
   | none=>exact ⟨_,h.2.1⟩
   | some a=>obtain ⟨b,db,m,cs,ks,hk,_⟩:=h.2;exact ⟨_,hk⟩
  obtain ⟨v,hk0⟩:=hob
  refine ⟨_,rfl,k,_,_,rfl,hk0,rfl,_,rfl,k,dk,S,st,p,rfl,h,_,rfl,rfl,_,rfl,?_⟩
  cases st with
  | none=>exact iteT ⟨_,rfl,(by show 1≤sizeLine;decide),fun z hz=>DRes.new (a:=Tilt.says (-10)) q h (Same.refl H) hz⟩
  | some a=>
   obtain ⟨b,db,m,cs,ks,hk,B,ok,r⟩:=h.2
   by_cases h31:31<p
   ·have e:zfp (some a) p = -1:=zi1 h31
    have q':DRes cD cB cC cK H S k dk (some a,Tilt.says (-1)) Q:=by
     have:TiltCoilCalls.step (some a) (.soon p)=(some a,if Tilt.COILS≤p then Tilt.says (-1) else _):=rfl
     rw [this,if_pos (by show 32≤p;omega)] at q
     exact q
    rw [e]
    exact iteT ⟨_,rfl,by decide,fun z hz=>DRes.new q' h (Same.refl H) hz⟩
   have hs:TiltCoilCalls.step (some a) (.soon p)=(some a,match a.T.driveSoon a.x p with
    | none=>Tilt.says (-4)
    | some none=>Tilt.says (-3)
    | some (some n)=>Tilt.tells [n]):=by
    show (some a,if Tilt.COILS≤p then _ else _)=_
    rw [if_neg (by show ¬32≤p;omega)]
    rfl
   rw [hs] at q
   clear hs
   rcases r.find ok p with ⟨e1,e2⟩ | ⟨c,y,e1,ep,hy,pr,e2,_⟩
   ·have e:zfp (some a) p = -4:=zkq h31 e1
    have es:a.T.driveSoon a.x p=none:=by unfold Table.driveSoon;rw [e1];rfl
    rw [es] at q
    rw [e]
    exact iteT ⟨_,rfl,by decide,fun z hz=>DRes.new q h (Same.refl H) hz⟩
   ·have e:zfp (some a) p=0:=zkr h31 e1
    rw [e]
    have hyc:=B.coil hy
    have es:a.T.driveSoon a.x p=some (if zge y.2.2=true then some y.2.2.left.toNat else none):=by
     unfold Table.driveSoon
     rw [e1]
     show some _=some _
     congr 1
     rw [← ep,pr.2]
     unfold zge stOf
     have wt:=pr.1.wait
     rcases pr.1.way with z | z | z
     ·by_cases hw:0<y.2.2.waiting
      ·have:¬y.2.2.waiting=0:=by omega
       simp [z,hw,this]
      ·have:y.2.2.waiting=0:=by omega
       simp [z,this]
     ·simp [z]
     ·simp [z]
    rw [es] at q
    refine iteF ⟨_,rfl,k,_,_,_,_,rfl,hk,f_tDesk_cl,f_tDesk_n_board,rfl,b,_,_,_,_,rfl,B.self,f_tBoard_cl,f_tBoard_n_coils,rfl,_,rfl,m.coils,_,rfl,by rw [← e2];exact DGet.k (k:=Sum.inl (p:Int)) B.dict,_,rfl,y.1,_,_,rfl,hyc,rfl,y.1,y.2.1,y.2.2,rfl,hyc,_,rfl,?_⟩
    cases hi:zge y.2.2 with
    | false=>
     rw [hi] at q
     exact iteT ⟨by decide,fun z hz=>DRes.new (a:=Tilt.says (-3)) q h (Same.refl H) hz⟩
    | true=>
     rw [hi] at q
     refine iteF ⟨_,rfl,y.1,_,_,_,_,rfl,hyc,f_tCoil_cl,f_tCoil_n_left,rfl,(by show 2≤sizeLine;decide),fun z hz=>?_⟩
     have:=DRes.new (a:=Tilt.tells [y.2.2.left.toNat]) q h (Same.refl H) hz
     have el:ansL (Tilt.tells [y.2.2.left.toNat])=[.int 0, .int y.2.2.left]:=by
      have:=pr.1.left
      have e:((y.2.2.left.toNat:Nat):Int)=y.2.2.left:=by omega
      show [V.int 0,V.int (y.2.2.left.toNat:Nat)]=_
      rw [e]
     rw [el] at this
     exact this
theorem zle (tG:TG K mg) (tDesk:zl4 K cD) (tCoil:zdt K cC) (tBoard:zdz K cB) (m_Desk_refuse_place:Md P w K mg base CX0 cD "refuse_place" ["self","place"] 1 (spRP cD cB cC cK)) (m_Coil_standing:Md P w K mg base CX0 cC "standing" ["self"] 1 (zq3 cC)) (F:MtK K cD "stands" "Desk.stands" zdb) :
  Md P w K mg base CX0 cD "stands" ["self","place"] 2 (znn cD cB cC cK):=by
 refine F.md sc_Desk_stands zk4 (fun vs H Q E h=>?_) (fun f cdv A outer s H vs Q E hr h=>?_)
 ·obtain ⟨k,dk,S,st,p,rfl,_⟩:=h
  rfl
 ·obtain ⟨k,dk,S,st,p,rfl,h,q⟩:=h
  have hu:=za2 hr
  have hu64:=hr.units
  refine ⟨_,(zab (zax (i:=2) sc_Desk_stands.nd rfl (Or.inl rfl) (pe_m m_Desk_refuse_place tDesk.cl hr zaz (pv 0) (zaa (pv 1) zad)))
   (zab (za5 (zan zqm (pv 2) (zap tG.g_DONE) (zam _)) (zac (zar (zb5 (zaa (pv 2) zad)))) zaq)
   (zac (zar (zej zzj (zb5 (zaa (zap tG.g_DONE) zad)) (zbk m_Coil_standing tCoil.cl hr zaz (zdl hu (zah (zah (pv 0) rfl) rfl) (pv 1) (fun _ _=>rfl)))))))),?_⟩
  have f_tDesk_cl:=tDesk.cl
  have f_tCoil_cl:=tCoil.cl
  have f_tBoard_cl:=tBoard.cl
  have f_tBoard_n_coils:=tBoard.n_coils
  have f_tDesk_n_board:=tDesk.n_board
  have hob:∃ v,H k=some (.ins cD dk (zf5 ⟨v⟩)):=by
   cases st with
   | none=>exact ⟨_,h.2.1⟩
   | some a=>obtain ⟨b,db,m,cs,ks,hk,_⟩:=h.2;exact ⟨_,hk⟩
  obtain ⟨v,hk0⟩:=hob
  refine ⟨_,rfl,k,_,_,rfl,hk0,rfl,_,rfl,k,dk,S,st,p,rfl,h,_,rfl,rfl,_,rfl,?_⟩
  cases st with
  | none=>exact iteT ⟨_,rfl,(by show 1≤sizeLine;decide),fun z hz=>DRes.new (a:=Tilt.says (-10)) q h (Same.refl H) hz⟩
  | some a=>
   obtain ⟨b,db,m,cs,ks,hk,B,ok,r⟩:=h.2
   by_cases h31:31<p
   ·have e:zfp (some a) p = -1:=zi1 h31
    have q':DRes cD cB cC cK H S k dk (some a,Tilt.says (-1)) Q:=by
     have:TiltCoilCalls.step (some a) (.stands p)=(some a,if Tilt.COILS≤p then Tilt.says (-1) else _):=rfl
     rw [this,if_pos (by show 32≤p;omega)] at q
     exact q
    rw [e]
    exact iteT ⟨_,rfl,by decide,fun z hz=>DRes.new q' h (Same.refl H) hz⟩
   have hs:TiltCoilCalls.step (some a) (.stands p)=(some a,match a.T.coilAt p with
    | none=>Tilt.says (-4)
    | some _=>Tilt.tells (TiltCoilCalls.standNums (a.x.get p))):=by
    show (some a,if Tilt.COILS≤p then _ else _)=_
    rw [if_neg (by show ¬32≤p;omega)]
    rfl
   rw [hs] at q
   clear hs
   rcases r.find ok p with ⟨e1,e2⟩ | ⟨c,y,e1,ep,hy,pr,e2,_⟩
   ·have e:zfp (some a) p = -4:=zkq h31 e1
    rw [e1] at q
    rw [e]
    exact iteT ⟨_,rfl,by decide,fun z hz=>DRes.new q h (Same.refl H) hz⟩
   ·have e:zfp (some a) p=0:=zkr h31 e1
    rw [e]
    rw [e1] at q
    refine iteF ⟨by decide,fun z hz=>?_⟩
    have B1:=B.same (Same.new (o:=.lst [.int 0]) hz)
    have hk1:=Same.new (o:=.lst [.int 0]) hz _ _ hk
    have hyc:=B1.coil hy
    refine ⟨_,rfl,k,_,_,_,_,rfl,hk1,f_tDesk_cl,f_tDesk_n_board,rfl,b,_,_,_,_,rfl,B1.self,f_tBoard_cl,f_tBoard_n_coils,rfl,_,rfl,m.coils,_,rfl,by rw [← e2];exact DGet.k (k:=Sum.inl (p:Int)) B1.dict,y.1,_,_,rfl,hyc,rfl,y.1,y.2.1,y.2.2,rfl,hyc,fun l hl=>?_⟩
    have hzl:z≠l:=zaj zaf hl
    refine ⟨z,l,_,_,rfl,rfl,by rw [zag hzl,zaf],zaf,?_,fun n hn=>?_⟩
    ·rw [List.length_map]
     unfold zil
     have:(16777216:Nat)=sizeLine:=rfl
     show 1+_≤sizeLine
     split<;>(try split)<;>(try split)<;>(rw [← this];simp)
    ·have:=DRes.new (a:=Tilt.tells (TiltCoilCalls.standNums (a.x.get p))) q h (Same.trans (Same.new hz) (Same.new hl)) hn
     have el:ansL (Tilt.tells (TiltCoilCalls.standNums (a.x.get p)))=[.int 0]++(zil y.2.2).map V.int:=by
      rw [pr.1.stand,← ep,pr.2]
      rfl
     rw [el] at this
     exact this
end
end
section
open Tilt (Drive Table Ans)
theorem zrn:∀ (l:List Int),(∀ z∈l,0≤z)→l.length % 2=0→zcr (evR (CoilNeutral.eventsOf l))=l∧l.length=2*(CoilNeutral.eventsOf l).length
 | [],_,_=>⟨rfl,rfl⟩
 | [a],_,h=>by simp at h
 | a :: b :: r,h0,h=>by
  obtain ⟨h1,h2⟩:=zrn r (fun z hz=>h0 z (by simp [hz])) (by simp at h;omega)
  have ha:=h0 a (by simp)
  have hb:=h0 b (by simp)
  constructor
  ·show zcr (evR ((a.toNat,b.toNat) :: CoilNeutral.eventsOf r))=_
   have:zcr (evR ((a.toNat,b.toNat) :: CoilNeutral.eventsOf r))=[((a.toNat:Nat):Int),((b.toNat:Nat):Int)]++zcr (evR (CoilNeutral.eventsOf r)):=rfl
   rw [this,h1]
   have e1:((a.toNat:Nat):Int)=a:=by omega
   have e2:((b.toNat:Nat):Int)=b:=by omega
   rw [e1,e2];rfl
  ·show (a :: b :: r).length=2*((a.toNat,b.toNat) :: CoilNeutral.eventsOf r).length
   simp;omega
theorem zr6:∀ (l:List Int),(∀ z∈l,0≤z)→l.length % 4=0→zcr (orR (CoilNeutral.ordersOf l))=l∧l.length=4*(CoilNeutral.ordersOf l).length
 | [],_,_=>⟨rfl,rfl⟩
 | [a],_,h=>by simp at h
 | [a,b],_,h=>by simp at h
 | [a,b,c],_,h=>by simp at h
 | a :: b :: c :: d :: r,h0,h=>by
  obtain ⟨h1,h2⟩:=zr6 r (fun z hz=>h0 z (by simp [hz])) (by simp at h;omega)
  have ha:=h0 a (by simp)
  have hb:=h0 b (by simp)
  have hc:=h0 c (by simp)
  have hd:=h0 d (by simp)
  constructor
  ·have:zcr (orR (CoilNeutral.ordersOf (a :: b :: c :: d :: r)))=[((a.toNat:Nat):Int),((b.toNat:Nat):Int),((c.toNat:Nat):Int),((d.toNat:Nat):Int)]++zcr (orR (CoilNeutral.ordersOf r)):=rfl
   rw [this,h1]
   have e1:((a.toNat:Nat):Int)=a:=by omega
   have e2:((b.toNat:Nat):Int)=b:=by omega
   have e3:((c.toNat:Nat):Int)=c:=by omega
   have e4:((d.toNat:Nat):Int)=d:=by omega
   rw [e1,e2,e3,e4];rfl
  ·show (a :: b :: c :: d :: r).length=4*(⟨a.toNat,b.toNat,c.toNat,d.toNat⟩ :: CoilNeutral.ordersOf r).length
   simp;omega
def ev2 (es:List (Nat×Nat)):List (Int×Int):=es.map fun e=>((e.1:Int),(e.2:Int))
def or4 (os:List Tilt.Order):List (Int×Int×Int×Int):=os.map fun o=>((o.at_:Int),(o.kind:Int),(o.coil:Int),(o.ticks:Int))
theorem zxi (es:List (Nat×Nat)):zlb (ev2 es)=zcr (evR es):=by
 induction es with
 | nil=>rfl
 | cons e r ih=>
  have a1:zlb (ev2 (e :: r))=[(e.1:Int),(e.2:Int)]++zlb (ev2 r):=rfl
  have a2:zcr (evR (e :: r))=[(e.1:Int),(e.2:Int)]++zcr (evR r):=rfl
  rw [a1,a2,ih]
theorem zxj (os:List Tilt.Order):zjp (or4 os)=zcr (orR os):=by
 induction os with
 | nil=>rfl
 | cons e r ih=>
  have a1:zjp (or4 (e :: r))=[(e.at_:Int),(e.kind:Int),(e.coil:Int),(e.ticks:Int)]++zjp (or4 r):=rfl
  have a2:zcr (orR (e :: r))=[(e.at_:Int),(e.kind:Int),(e.coil:Int),(e.ticks:Int)]++zcr (orR r):=rfl
  rw [a1,a2,ih]
theorem zuo (n:Nat):∀ (ts:List Nat) (b:Nat),fol n b (ts.map fun (t:Nat)=>(t:Int))=(ts.all (fun t=>decide (t<n))&&Tilt.follows (b :: ts))
 | [],b=>rfl
 | t :: r,b=>by
  have e:fol n b ((t :: r).map fun (t:Nat)=>(t:Int))=(decide ((b:Int)≤t)&&(decide ((t:Int)<n)&&fol n t (r.map fun (t:Nat)=>(t:Int)))):=rfl
  have f:Tilt.follows (b :: t :: r)=(decide (b≤t)&&Tilt.follows (t :: r)):=rfl
  rw [e,f,zuo n r t,List.all_cons]
  have d1:decide ((b:Int)≤t)=decide (b≤t):=by
   by_cases h:b≤t
   ·rw [decide_eq_true h,decide_eq_true (by omega)]
   ·rw [decide_eq_false h,decide_eq_false (by omega)]
  have d2:decide ((t:Int)<n)=decide (t<n):=by
   by_cases h:t<n
   ·rw [decide_eq_true h,decide_eq_true (by omega)]
   ·rw [decide_eq_false h,decide_eq_false (by omega)]
  rw [d1,d2]
  cases decide (b≤t)<;>cases decide (t<n)<;>simp
theorem zjd (l:List Nat):Tilt.follows (0 :: l)=Tilt.follows l:=by
 cases l with
 | nil=>rfl
 | cons t r=>
  show (decide (0≤t)&&Tilt.follows (t :: r))=_
  simp
theorem ztx {α:Type} (p q:α→Bool) (l:List α):l.all (fun x=>p x&&q x)=(l.all p&&l.all q):=by
 induction l with
 | nil=>rfl
 | cons e r ih=>
  simp only [List.all_cons,ih]
  cases p e<;>cases q e<;>cases r.all p<;>simp
theorem zul (n:Nat) (es:List (Nat×Nat)):(fol n 0 ((ev2 es).map (·.1))&&(ev2 es).all fun p=>decide (p.2<128))=Tilt.eventsRight n es:=by
 have e1:(ev2 es).map (·.1)=(es.map (·.1)).map fun (t:Nat)=>(t:Int):=by simp [ev2,Function.comp_def]
 have h:=zuo n (es.map (·.1)) 0
 rw [e1]
 have h:fol n 0 ((es.map (·.1)).map fun (t:Nat)=>(t:Int))=_:=h
 rw [h,zjd]
 unfold Tilt.eventsRight
 have a1:(ev2 es).all (fun p=>decide (p.2<128))=es.all fun e=>decide (e.2<128):=by
  unfold ev2
  rw [List.all_map]
  congr 1
  funext e
  simp only [Function.comp]
  by_cases h:e.2<128
  ·rw [decide_eq_true h,decide_eq_true (by omega)]
  ·rw [decide_eq_false h,decide_eq_false (by omega)]
 have a2:(es.map (·.1)).all (fun t=>decide (t<n))=es.all fun e=>decide (e.1<n):=by rw [List.all_map];rfl
 have a3:es.all (fun (e:Nat×Nat)=>decide (e.1<n)&&decide (e.2<128))=((es.all fun e=>decide (e.1<n))&&es.all fun e=>decide (e.2<128)):=ztx _ _ es
 rw [a1,a2,a3]
 cases (es.all fun e=>decide (e.1<n))<;>cases (es.all fun e=>decide (e.2<128))<;>cases Tilt.follows (es.map (·.1))<;>rfl
theorem zme {a b:Nat}:decide ((a:Int)≤b)=decide (a≤b):=by
 by_cases h:a≤b
 ·rw [decide_eq_true h,decide_eq_true (by omega)]
 ·rw [decide_eq_false h,decide_eq_false (by omega)]
def ordS (T:Table) (o:Tilt.Order):Bool:=Tilt.orderRight T (o.at_+1) o
theorem zyp (T:Table) (n:Nat) (o:Tilt.Order):Tilt.orderRight T n o=(decide (o.at_<n)&&ordS T o):=by
 unfold ordS Tilt.orderRight
 rw [decide_eq_true (show o.at_<o.at_+1 by omega),Bool.true_and]
theorem zAu {T:Table} {su:Nat} {x:Drive} {m:MB} {cs:MS} (ok:TOk T) (r:Rel T su x m cs) (o:Tilt.Order):ordR (cs.map (·.2.2)) o.kind o.coil o.ticks=ordS T o:=by
 obtain ⟨at_,kd,p,n⟩:=o
 unfold ordS ordR Tilt.orderRight
 simp only [decide_eq_true (show at_<at_+1 by omega),Bool.true_and]
 rw [zum]
 have key:∀ {α:Type} (f:Option MC→α) (g:Option Tilt.Coil→α),(f none=g none)→(∀ c y,PRel x c y→f (some y.2.2)=g (some c))→f ((cs.find? fun c=>decide (c.2.2.place=(p:Int))).map (·.2.2))=g (T.coilAt p):=by
  intro α f g h0 h1
  rcases r.find ok p with ⟨e1,e2⟩ | ⟨c,y,e1,ep,hy,pr,e2,e3⟩
  ·rw [zpl] at e2
   rw [e1]
   have:(cs.find? fun c=>decide (c.2.2.place=(p:Int)))=none:=by
    cases hf:(cs.find? fun c=>decide (c.2.2.place=(p:Int))) with
    | none=>rfl
    | some z=>rw [hf] at e2;cases e2
   rw [this]
   exact h0
  ·rw [e1,e3]
   exact h1 c y pr
 have z0:∀ k:Nat,decide ((k:Int)=0)=(k == 0):=fun k=>by
  by_cases h:k=0
  ·subst h;rfl
  ·rw [decide_eq_false (by omega)];simp [h]
 match kd with
 | 0=>
  refine key (fun c=>match c with | none=>false | some c=>decide ((1:Int)≤n)&&decide ((n:Int)≤c.most)) (fun c=>(c.map fun (c:Tilt.Coil)=>Tilt.inside 1 c.most n).getD false) rfl fun c y pr=>?_
  show (decide ((1:Int)≤n)&&decide ((n:Int)≤y.2.2.most))=(decide (1≤n)&&decide (n≤c.most))
  rw [pr.1.most,zme,← zme (a:=1)];rfl
 | 1=>
  refine key (fun c=>match c with | none=>false | some c=>decide (0<c.hold)&&(decide ((1:Int)≤n)&&decide ((n:Int)≤c.most))) (fun c=>(c.map fun (c:Tilt.Coil)=>Tilt.inside 1 c.most n&&c.hold != 0).getD false) rfl fun c y pr=>?_
  show (decide (0<y.2.2.hold)&&(decide ((1:Int)≤n)&&decide ((n:Int)≤y.2.2.most)))=((decide (1≤n)&&decide (n≤c.most))&&(c.hold != 0))
  rw [pr.1.most,pr.1.hold,zme,Bool.and_comm]
  have e1:decide ((1:Int)≤n)=decide (1≤n):=by
   by_cases h:1≤n
   ·rw [decide_eq_true h,decide_eq_true (by omega)]
   ·rw [decide_eq_false h,decide_eq_false (by omega)]
  have e2:decide ((0:Int)<c.hold)=(c.hold != 0):=by
   by_cases h:c.hold=0
   ·rw [h];rfl
   ·rw [decide_eq_true (by omega)];simp [h]
  rw [e1,e2]
 | 2=>exact key (fun c=>match c with | none=>false | some c=>decide ((n:Int)=0)) (fun c=>c.isSome&&n == 0) rfl fun c y pr=>z0 n
 | 3=>exact key (fun c=>match c with | none=>false | some c=>decide ((n:Int)=0)) (fun c=>c.isSome&&n == 0) rfl fun c y pr=>z0 n
 | 4=>
  show (decide ((p:Int)=0)&&decide ((n:Int)=0))=_
  rw [z0,z0]
  rfl
 | 5=>
  show (decide ((p:Int)=0)&&decide ((n:Int)≤1))=_
  rw [z0]
  congr 1
  exact zme (b:=1)
 | k+6=>
  have k4:¬((k+6:Nat):Int)=4:=by omega
  have k5:¬((k+6:Nat):Int)=5:=by omega
  have k6:5<((k+6:Nat):Int):=by omega
  rw [if_neg k4,if_neg k5]
  split
  ·rfl
  ·rw [if_pos k6]
   rfl
theorem zvn {T:Table} {su:Nat} {x:Drive} {m:MB} {cs:MS} (ok:TOk T) (r:Rel T su x m cs) (n:Nat) (os:List Tilt.Order) :
  (fol n 0 ((or4 os).map (·.1))&&(or4 os).all fun o=>ordR (cs.map (·.2.2)) o.2.1 o.2.2.1 o.2.2.2)=Tilt.ordersRight T n os:=by
 have e1:(or4 os).map (·.1)=(os.map (·.at_)).map fun (t:Nat)=>(t:Int):=by simp [or4,Function.comp_def]
 rw [e1]
 have h:fol n 0 ((os.map (·.at_)).map fun (t:Nat)=>(t:Int))=_:=zuo n (os.map (·.at_)) 0
 rw [h,zjd]
 unfold Tilt.ordersRight
 have a1:(or4 os).all (fun o=>ordR (cs.map (·.2.2)) o.2.1 o.2.2.1 o.2.2.2)=os.all (ordS T):=by
  unfold or4
  rw [List.all_map]
  congr 1
  funext o
  exact zAu ok r o
 have a2:(os.map (·.at_)).all (fun t=>decide (t<n))=os.all fun o=>decide (o.at_<n):=by rw [List.all_map];rfl
 have a3:os.all (Tilt.orderRight T n)=((os.all fun o=>decide (o.at_<n))&&os.all (ordS T)):=by
  rw [← ztx]
  congr 1
  funext o
  exact zyp T n o
 rw [a1,a2,a3]
 cases (os.all fun o=>decide (o.at_<n))<;>cases os.all (ordS T)<;>cases Tilt.follows (os.map (·.at_))<;>rfl
theorem zC0 {T:Table} {n:Nat} {os:List Tilt.Order} (h:Tilt.ordersRight T n os=true):∀ o∈os,zw7 o∧(o.kind<4→∃ c∈T.coils,c.place=o.coil):=by
 intro o ho
 unfold Tilt.ordersRight at h
 rw [Bool.and_eq_true] at h
 have h:=List.all_eq_true.mp h.1 o ho
 obtain ⟨at_,kd,p,n⟩:=o
 unfold Tilt.orderRight at h
 rw [Bool.and_eq_true] at h
 have h:=h.2
 have some_:∀ {f:Tilt.Coil→Bool},((T.coilAt p).map f).getD false=true→∃ c∈T.coils,c.place=p∧f c=true:=by
  intro f hf
  cases e:T.coilAt p with
  | none=>rw [e] at hf;cases hf
  | some c=>
   obtain ⟨hc,hp⟩:=zcz e
   rw [e] at hf
   exact ⟨c,hc,hp,hf⟩
 have is_:(T.coilAt p).isSome=true→∃ c∈T.coils,c.place=p:=by
  intro hf
  cases e:T.coilAt p with
  | none=>rw [e] at hf;cases hf
  | some c=>
   obtain ⟨hc,hp⟩:=zcz e
   exact ⟨c,hc,hp⟩
 unfold zw7
 match kd,h with
 | 0,h=>
  obtain ⟨c,hc,hp,hf⟩:=some_ h
  unfold Tilt.inside at hf
  rw [Bool.and_eq_true] at hf
  exact ⟨⟨fun _=>of_decide_eq_true hf.1,by simp,fun z=>by simp at z⟩,fun _=>⟨c,hc,hp⟩⟩
 | 1,h=>
  obtain ⟨c,hc,hp,hf⟩:=some_ h
  unfold Tilt.inside at hf
  rw [Bool.and_eq_true,Bool.and_eq_true] at hf
  exact ⟨⟨fun _=>of_decide_eq_true hf.1.1,by simp,fun z=>by simp at z⟩,fun _=>⟨c,hc,hp⟩⟩
 | 2,h=>
  have h:((T.coilAt p).isSome&&n == 0)=true:=h
  rw [Bool.and_eq_true] at h
  exact ⟨⟨fun z=>by simp at z,by simp,fun z=>by simp at z⟩,fun _=>is_ h.1⟩
 | 3,h=>
  have h:((T.coilAt p).isSome&&n == 0)=true:=h
  rw [Bool.and_eq_true] at h
  exact ⟨⟨fun z=>by simp at z,by simp,fun z=>by simp at z⟩,fun _=>is_ h.1⟩
 | 4,h=>exact ⟨⟨fun z=>by simp at z,by simp,fun z=>by simp at z⟩,fun z=>by simp at z⟩
 | 5,h=>
  have h:(p == 0&&decide (n≤1))=true:=h
  rw [Bool.and_eq_true] at h
  exact ⟨⟨fun z=>by simp at z,by simp,fun _=>of_decide_eq_true h.2⟩,fun z=>by simp at z⟩
theorem zkz (T:Table) (su:Nat) (es:List (Nat×Nat)) (os:List Tilt.Order):∀ (n i:Nat) (x:Drive),(T.ticks su es os i n x).2.length=n
 | 0,_,_=>rfl
 | n+1,i,x=>by rw [zl2];simp [zkz T su es os n]
end
section
open Tilt (Drive Table Ans)
open TiltCoilCalls (State)
theorem DRes.on {cD cB cC cK:Addr} {H H1:Hp} {S:Addr→Prop} {k dk:Addr} {r:State×Ans} {Q:VK} (q:DRes cD cB cC cK H S k dk r Q) (s:Same H H1):DRes cD cB cC cK H1 S k dk r Q:=
 fun H' S' p h1 h2 h3 h4 h5=>q H' S' p h1 (fun a ha=>by
  rcases h2 a ha with z | z
  ·exact .inl z
  ·refine .inr ?_
   cases e:H a with
   | none=>rfl
   | some u=>rw [s _ _ e] at z;cases z) ((SameX.of s).trans h3) h4 (by
   cases e:H p with
   | none=>rfl
   | some u=>rw [s _ _ e] at h5;cases h5)
section
variable {cW cF cT cC cK cB cD cR:Addr}
def znj (cD cB cC cK:Addr):Sp:=fun vs H Q _=>E8 fun k dk S st n er el or=>∃ ol,A8 (vs=[.ref k, .int (n:Nat), .ref er, .ref or]) (DK cD cB cC cK S H k dk st) (H er=some (.lst (el.map V.int))) (H or=some (.lst (ol.map V.int))) ((∀ z∈el,(0:Int)≤z)) (el.length % 2=0) ((∀ z∈ol,(0:Int)≤z)) (ol.length % 4=0∧DRes cD cB cC cK H S k dk (TiltCoilCalls.step st (.ticks n (CoilNeutral.eventsOf el) (CoilNeutral.ordersOf ol))) Q)
abbrev zdp:Stmt:=zaw (top 97) 2
theorem zm9:zai ["self","n","events","orders"] ["self","n","events","orders"] (zae zdp):=by walk_at "sc"
theorem zl8:zak zdp "ticks" "Desk.ticks" ["self","n","events","orders"]:=fun _ _ _ _ _ _ us hl=>match us,hl with | [_,_,_,_],_=>rfl
theorem zmx (tG:TG K mg) (tDesk:zl4 K cD) (tBoard:zdz K cB) (d_are_orders_right:Dn P w K mg base CX0 "are_orders_right" ["orders","n","coils"] 2 (zwg cC)) (d_are_events_right:Dn P w K mg base CX0 "are_events_right" ["events","n"] 2 (zBf)) (m_Board_run:Md P w K mg base CX0 cB "run" ["self","n","events","orders"] 6 (zwb cB cC cK)) (F:MtK K cD "ticks" "Desk.ticks" zdp) :
  Md P w K mg base CX0 cD "ticks" ["self","n","events","orders"] 7 (znj cD cB cC cK):=by
 refine F.md zm9 zl8 (fun vs H Q E h=>?_) (fun f cdv A outer s H vs Q E hr h=>?_)
 ·obtain ⟨k,dk,S,st,n,er,el,or,ol,rfl,_⟩:=h
  rfl
 ·obtain ⟨k,dk,S,st,n,er,el,or,ol,rfl,h,her,hor,hel,hel2,hol,hol4,q⟩:=h
  have hu:=za2 hr
  have hu64:=hr.units
  refine ⟨_,(zab (za5 (zan zvk (zah (pv 0) rfl) zo8 (zam _)) (zac (zar (zb5 (zaa (zap tG.g_NOT_BEGUN) zad)))) zaq)
   (zab (za5 (PW.pt (zpd (zan zfm (pv 1) (zap tG.g_MOST_TICKS) (zam _)) (zpd (zan zfm (za7 zav (by rfl) tG.b_len zcs (zaa (pv 2) zad)) (zej zvl (zap tG.g_MOST_ROWS) (zap tG.g_EVENT_WIDTH)) (zam _)) (zkp (zan zfm (za7 zav (by rfl) tG.b_len zcs (zaa (pv 3) zad)) (zej zvl (zap tG.g_MOST_ROWS) (zap tG.g_ORDER_WIDTH)) (zam _)))))) (zac (zar (zb5 (zaa (zap tG.g_TOO_MANY) zad)))) zaq)
   (zab (za5 (PW.pt (zpd (ze5 (zct (pe_d d_are_events_right hr zaz (zaa (pv 2) (zaa (pv 1) zad))))) (zkp (ze5 (zct (pe_d d_are_orders_right hr zaz (zaa (pv 3) (zaa (pv 1) (zaa (zah (zah (pv 0) rfl) rfl) zad))))))))) (zac (zar (zb5 (zaa (zap tG.g_NOT_RIGHT) zad)))) zaq)
   (zac (zar (zej zzj (zb5 (zaa (zap tG.g_DONE) zad)) (pe_m m_Board_run tBoard.cl hr zaz (zah (pv 0) rfl) (zaa (pv 1) (zaa (pv 2) (zaa (pv 3) zad)))))))))),?_⟩
  have f_tDesk_cl:=tDesk.cl
  have f_tDesk_n_board:=tDesk.n_board
  have f_tBoard_cl:=tBoard.cl
  have f_tBoard_n_coils:=tBoard.n_coils
  obtain ⟨fe,le⟩:=zrn el hel hel2
  obtain ⟨fo,lo⟩:=zr6 ol hol hol4
  generalize CoilNeutral.eventsOf el=es at q fe le
  generalize CoilNeutral.ordersOf ol=os at q fo lo
  cases st with
  | none=>
   refine ⟨_,rfl,k,_,_,_,_,rfl,h.2.1,f_tDesk_cl,f_tDesk_n_board,rfl,rfl,_,rfl,?_⟩
   rw [zpz]
   exact iteT ⟨by decide,fun p hp=>DRes.new (a:=Tilt.says (-10)) q h (Same.refl H) hp⟩
  | some a=>
   obtain ⟨b,db,m,cs,ks,hk,B,ok,r⟩:=h.2
   refine ⟨_,rfl,k,_,_,_,_,rfl,hk,f_tDesk_cl,f_tDesk_n_board,rfl,rfl,_,rfl,?_⟩
   rw [zp0]
   have many:(4096<n∨4096<es.length∨4096<os.length)→DRes cD cB cC cK H S k dk (some a,Tilt.says (-2)) Q:=fun z=>by
    have:TiltCoilCalls.step (some a) (.ticks n es os)=if 4096<n∨4096<es.length∨4096<os.length then (some a,Tilt.says (-2)) else _:=rfl
    rw [this,if_pos z] at q
    exact q
   refine iteF ⟨_,rfl,_,_,rfl,rfl,_,rfl,?_⟩
   by_cases h1:4096<n
   ·rw [decide_eq_true (by omega)]
    exact iteT (iteT ⟨by decide,fun p hp=>DRes.new (many (.inl h1)) h (Same.refl H) hp⟩)
   rw [decide_eq_false (by omega)]
   refine iteF ⟨_,rfl,er,_,rfl, .inl (SqL.of her),_,_,rfl,rfl, .inl (by decide),_,_,rfl,rfl,_,rfl,?_⟩
   by_cases h2:4096<es.length
   ·rw [List.length_map,decide_eq_true (by omega)]
    exact iteT (iteT ⟨by decide,fun p hp=>DRes.new (many (.inr (.inl h2))) h (Same.refl H) hp⟩)
   rw [List.length_map,decide_eq_false (by omega)]
   refine iteF ⟨_,rfl,or,_,rfl, .inl (SqL.of hor),_,_,rfl,rfl, .inl (by decide),_,_,rfl,rfl,_,rfl,?_⟩
   by_cases h3:4096<os.length
   ·rw [List.length_map,decide_eq_true (by omega)]
    exact iteT ⟨by decide,fun p hp=>DRes.new (many (.inr (.inr h3))) h (Same.refl H) hp⟩
   rw [List.length_map,decide_eq_false (by omega)]
   have q2:DRes cD cB cC cK H S k dk (if (Tilt.eventsRight n es&&Tilt.ordersRight a.T n os)=false then (some a,Tilt.says (-1)) else (some { a with x:=(a.T.ticks a.supply es os 0 n a.x).1 },Tilt.tells (a.T.ticks a.supply es os 0 n a.x).2)) Q:=by
    have:TiltCoilCalls.step (some a) (.ticks n es os)=if 4096<n∨4096<es.length∨4096<os.length then (some a,Tilt.says (-2)) else (if (Tilt.eventsRight n es&&Tilt.ordersRight a.T n os)=false then (some a,Tilt.says (-1)) else (some { a with x:=(a.T.ticks a.supply es os 0 n a.x).1 },Tilt.tells (a.T.ticks a.supply es os 0 n a.x).2)):=rfl
    rw [this,if_neg (by omega)] at q
    exact q
   clear q many
   refine iteF ⟨_,rfl,_,rfl,er,n,ev2 es,rfl,by rw [zxi,fe];exact her,by simp [ev2];omega,fun H1 k1=>?_⟩
   rw [zul]
   have h':=h.same k1
   have B1:=(B.same k1).re
   have q2:=q2.on k1
   cases he:Tilt.eventsRight n es with
   | false=>
    rw [he,Bool.false_and,if_pos rfl] at q2
    exact ⟨_,rfl,iteT (iteT ⟨by decide,fun p hp=>DRes.new q2 h' (Same.refl H1) hp⟩)⟩
   | true=>
    rw [he,Bool.true_and] at q2
    refine ⟨_,rfl,iteF ⟨_,rfl,_,rfl,_,rfl,k,_,_,_,_,rfl,k1 _ _ hk,f_tDesk_cl,f_tDesk_n_board,rfl,b,_,_,_,_,rfl,B1.self,f_tBoard_cl,f_tBoard_n_coils,rfl,or,n,m.coils,or4 os,cs,rfl,by rw [zxj,fo];exact k1 _ _ hor,by simp [or4];omega,B1.dict,?_,?_,?_⟩⟩
    ·intro c hc
     exact B1.ce c (by simp [bdC,hc])
    ·intro o ho
     obtain ⟨z,_,rfl⟩:=List.mem_map.mp ho
     show (0:Int)≤(z.kind:Int)
     omega
    rw [zvn ok r]
    cases ho:Tilt.ordersRight a.T n os with
    | false=>
     rw [ho,if_pos rfl] at q2
     exact ⟨_,rfl,iteT ⟨by decide,fun p hp=>DRes.new q2 h' (Same.refl H1) hp⟩⟩
    | true=>
     rw [ho,if_neg (by decide)] at q2
     refine ⟨_,rfl,iteF ⟨by decide,fun z hz=>?_⟩⟩
     have kz:Same H1 (upd H1 z (.lst [.int 0])):=Same.new hz
     have hz2:upd H1 z (.lst [.int 0]) z=some (.lst [.int 0]):=zaf
     generalize upd H1 z (.lst [.int 0])=H2 at kz hz2 ⊢
     have B2:=(B1.same kz).re
     have hk2:=kz _ _ (k1 _ _ hk)
     refine ⟨_,rfl,k,_,_,_,_,rfl,hk2,f_tDesk_cl,f_tDesk_n_board,rfl,b,_,_,rfl,B2.self,rfl,_,rfl,_,rfl,_,rfl,S,b,db,m,cs,ks,a.T,a.supply,a.x,n,er,es,or,os,rfl,B2,ok,r,by omega,by rw [fe];exact kz _ _ (k1 _ _ her),by omega,by rw [fo];exact kz _ _ (k1 _ _ hor),by omega,zC0 ho,fun H3 p m3 cs3 B3 r3 hp3 hp2=>?_⟩
     have zS:¬S z:=fun hs=>by
      obtain ⟨u,hu⟩:=B1.al z hs
      rw [hu] at hz;cases hz
     have hz3:=B3.sx _ _ zS hz2
     have hpz:p≠z:=fun e=>by rw [e,hz2] at hp2;cases hp2
     refine ⟨z,p,_,_,rfl,rfl,hz3,hp3,?_,fun y hy=>?_⟩
     ·rw [List.length_map,zkz]
      show 1+n≤sizeLine
      have:sizeLine=16777216:=rfl
      omega
     ·have hkS:¬S k:=h.1
      have hk3:=B3.sx _ _ hkS hk2
      have ky:Same H3 (upd H3 y (.lst ([.int 0]++(a.T.ticks a.supply es os 0 n a.x).2.map fun (z:Nat)=>V.int z))):=Same.new hy
      refine q2 _ S y ⟨hkS,b,db,m3,cs3,ks,ky _ _ hk3,(B3.same ky).re,ok,r3⟩ (fun c hc=>.inl hc) (((SameX.of kz).trans (B3.sx.mono fun c hc=>.inl hc)).trans (SameX.of ky)) ?_ ?_
      ·rw [zaf]
       show _=some (HO.lst (V.int 0 :: _))
       simp [Tilt.tells,Function.comp_def]
      ·cases e:H1 y with
       | none=>rfl
       | some u=>
        have hyS:¬S y:=fun hs=>by
         obtain ⟨u,hu⟩:=B3.al y hs
         rw [hu] at hy;cases hy
        rw [B3.sx _ _ hyS (kz _ _ e)] at hy;cases hy
end
end
section
section
variable {X:Cx} {pins:List (Addr×Obj)} {σ:L2.St} {H:Hp} {s:Shared}
theorem zz9 {h':Heap} {t':Nat} {m':Str→Option Value} (I:L2.Inv X pins σ H s) (hs:Heap.SameBut X.env.locals s.heap h') (hn':h'.Ns X.env.locals m'):L2.Inv X pins (List.replicate X.N.length none) H { s with heap:=h',toks:=t' }:=by
 have lo:∀ b o,X.s_0.heap.get? b=some o→b≠X.env.locals:=fun b o e=>Nat.ne_of_lt (Nat.lt_of_lt_of_le (Heap.lt_size e) I.ok.above)
 refine ⟨I.ok,I.os,I.bare,⟨fun b o e n hb hx=>(hs.2 b (lo b o e)).trans (I.base.keep b o e n hb hx),fun b o e n hb hx=>?_,I.base.free,fun b o e hx=>?_,I.base.tups,I.base.frzs,I.base.tbls⟩,⟨m',hn',fun j y v' e1 e2 e3=>?_⟩,fun y c e=>?_,I.free,I.freeC,fun p hp=>?_,fun b ob e=>?_,by simp⟩
 ·obtain ⟨sl,e1⟩:=I.base.slot b o e n hb hx
  exact ⟨sl,(hs.2 b (lo b o e)).trans e1⟩
 ·obtain ⟨o',e1⟩:=I.base.there b o e hx
  exact ⟨o',(hs.2 b (lo b o e)).trans e1⟩
 ·rw [List.getElem?_replicate] at e2
  split at e2<;>cases e2
 ·obtain ⟨w',z⟩:=I.cell y c e
  exact ⟨w',z.sameBut hs (I.cne y c e)⟩
 ·obtain ⟨e,n,ne,nf,d⟩:=I.pin p hp
  exact ⟨(hs.2 p.1 ne).trans e,n,ne,nf,d⟩
 ·refine (I.hok b ob e).stay (fun c w' hc q=>(hs.2 c ?_).trans q) (fun _ q=>q) fun _ _ q=>q
  rintro rfl
  rcases hc with rfl | hc
  ·rw [I.free] at e;cases e
  ·rw [I.free] at hc;cases hc
abbrev Cx.inH (X:Cx) (x:Addr) (pn:List (Addr×Obj)):Cx:={ X with A:=X.A.mark (some (.ref x)),calm:=false,pn:=pn,xe:=fun _ _=>False }
theorem zCt {x:Addr} {pn:List (Addr×Obj)} (o:X.Ok):(Cx.inH X x pn).Ok:=⟨o.mod,o.kind,o.glob,o.blt,o.above,o.inj,o.has,o.cab,(fun z=>nomatch z),o.frames,o.stk,o.exf,o.bs,o.bsz,o.noex,o.exfs,o.funs,o.frf⟩
abbrev Cx.inT (X:Cx) (pn:List (Addr×Obj)) (xe:Value→Shared→Prop):Cx:={ X with pn:=pn,xe:=xe }
theorem zCu {pn:List (Addr×Obj)} {xe:Value→Shared→Prop} (o:X.Ok):(Cx.inT X pn xe).Ok:=⟨o.mod,o.kind,o.glob,o.blt,o.above,o.inj,o.has,o.cab,o.hd,o.frames,o.stk,o.exf,o.bs,o.bsz,o.noex,o.exfs,o.funs,o.frf⟩
theorem zCv {pn:List (Addr×Obj)} {xe:Value→Shared→Prop} (o:(Cx.inT X pn xe).Ok):X.Ok:=⟨o.mod,o.kind,o.glob,o.blt,o.above,o.inj,o.has,o.cab,o.hd,o.frames,o.stk,o.exf,o.bs,o.bsz,o.noex,o.exfs,o.funs,o.frf⟩
theorem zz8 {xe:Value→Shared→Prop} (I:L2.Inv X pins σ H s):L2.Inv (Cx.inT X (X.pn++pins) xe) [] σ H s:=⟨zCu I.ok,I.os,I.bare,I.base,I.loc,I.cell,I.free,I.freeC,fun p hp=>I.pin p (by simpa using hp),I.hok,I.len⟩
theorem zij {xe:Value→Shared→Prop} {pins2:List (Addr×Obj)} (I:L2.Inv (Cx.inT X (X.pn++pins) xe) pins2 σ H s):L2.Inv X pins σ H s:=⟨zCv I.ok,I.os,I.bare,I.base,I.loc,I.cell,I.free,I.freeC,fun p hp=>I.pin p (List.mem_append_left _ hp),I.hok,I.len⟩
theorem zuu {x:Addr} {q:List (Addr×Obj)} (I:L2.Inv X pins σ H s) (hq:∀ p∈q,s.heap.get? p.1=some p.2∧H p.1=none∧p.1≠X.env.locals∧p.1∉X.fs∧∀ v,p.2.data≠.cell v):L2.Inv (Cx.inH X x (q++(X.pn++pins))) [] σ H s:=
 ⟨zCt I.ok,I.os,I.bare,I.base,I.loc,I.cell,I.free,I.freeC,fun p hp=>by
  have hp:p∈q++(X.pn++pins):=by simpa using hp
  exact (List.mem_append.mp hp).elim (hq p) (I.pin p),I.hok,I.len⟩
theorem zAb {x:Addr} {q:List (Addr×Obj)} (o:X.Ok) (I:L2.Inv (Cx.inH X x (q++(X.pn++pins))) [] σ H s):L2.Inv X pins σ H s:=
 ⟨o,I.os,I.bare,I.base,I.loc,I.cell,I.free,I.freeC,fun p hp=>I.pin p (by simp only [List.append_nil];exact List.mem_append_right _ hp),I.hok,I.len⟩
end
def noRt (D:Ends):Ends:={ nx:=fun _ _=>False,rt:=D.rt,bk:=fun _ _=>False,ct:=fun _ _=>False }
def zy5 (C:Addr) (n i:Nat) (ts:Addr→Addr→TS) (D:Ends):XK:=fun c od H'=>c = .ref C∧∃ dx,od=some dx∧∀ x,ts x dx (noRt D) ((List.replicate n none).set i (some (.ref x))) H'
def tTry (C:Addr) (n i:Nat) (tb:XK→TS) (ts:Addr→Addr→TS):TS:=fun D σ H=>tb (zy5 C n i ts D) D σ H
theorem zA2 {X:Cx} {C:Addr} {i:Nat} {body suite:List Stmt} {b₀:Stmt} {tb:XK→TS} {ts:Addr→Addr→TS} {np hpos pos:Pos} {fn:Str} {L:Addr} (T:TF X.prog X.w X.K X.mg X.base C) (hst:X.stack=X.env :: X.outer) (hfr:X.env.frame=some L)
  (hN:X.N.Nodup) (hi:X.N[i]? = some fn) (hl:X.env.scope.names.lookup fn=some .local) (hg:Gl X "Fault")
  (hb:∀ (pn:List (Addr×Obj)) (xe:Value→Shared→Prop) (E:XK),zdm (CXF X.prog X.w C) (Cx.inT X pn xe) E→PSs (Cx.inT X pn xe) body (tb E))
  (hs:∀ (x dx:Addr) (oe:Obj) (pn:List (Addr×Obj)),(x,oe)∈pn→oe.cls = .ref C→oe.dict=some dx→(∃ vs,oe.data = .fields vs)→PSs (Cx.inH X x pn) (b₀ :: suite) (ts x dx)) :
  PS X (.Try body [.ExceptHandler (some (.Name "Fault" np)) (some fn) (b₀ :: suite) hpos] [] [] pos) (tTry C X.N.length i tb ts):=by
 intro pins s σ H D I h
 obtain ⟨NN,fI,fd,oI,F,_,_,_,_,kp,hm⟩:=T.ex
 refine wpAny_Try_except ?_
 generalize hxe:(fun (e:Value) (s₁:Shared)=>wpAny (model X.prog X.w) X.A (noteFrame e X.env) (fun _ s₂=>wpAny (model X.prog X.w) X.A (setFlight e none) (fun _ s₃=>wpAny (model X.prog X.w) X.A (handleBy e X.env [.ExceptHandler (some (.Name "Fault" np)) (some fn) (b₀ :: suite) hpos]) (SP X pins D) X.xe s₃) X.xe s₂) X.xe s₁)=xe1
 have hp:zdm (CXF X.prog X.w C) (Cx.inT X (X.pn++pins) xe1) (zy5 C X.N.length i ts D):=by
  intro pins2 σ2 H2 s2 e s' I2 q
  obtain ⟨x,dx,T,H',rfl,os,bare,un,hok,ex,hx,hT,nx,nT,hE⟩:=q
  have I3:=I2.call' (s':=s') (ch:=[]) os un hok bare (fun b z=>absurd z (by simp))
  have J2:=zij I2
  have J3:=zij I3
  clear I2 I3
  show xe1 (.ref x) s'
  rw [← hxe]
  have hfrs:X.A.frames=some (X.env :: X.outer):=by rw [← hst];exact J3.ok.frames
  have hstk:=J3.stack
  rw [hst] at hstk
  refine zvg hfrs hstk hfr ex fun h1 T1 ex1 nT1 k1=>?_
  rw [← hst] at k1
  have J4:=zel J3 k1 hx hT (.inr ⟨_,J2⟩) nx nT
  refine zmq (s:={ s' with heap:=h1 }) ex1 fun h2 ex2 k2=>?_
  have hT1:H' T1=none:=J3.hok.fresh nT1
  have J5:L2.Inv X pins σ2 H' { s' with heap:=h2 }:=zel (s:={ s' with heap:=h1 }) (x:=T1) (T:=T1) J4 ⟨fun b o e n m=>k2.1 b o e (by simpa using n) (by simp),fun b o e n=>k2.2 b o e (by simpa using n)⟩ hT1 hT1 (.inl J3) nT1 nT1
  obtain ⟨nm,qn,bs,sn,sub,ab,col,dd,c0,c1,c2,c3,c5,hC⟩:=F.cls
  have hC5:=hC _ J5.kIn
  obtain ⟨oe,vs,he,hcl,hdi,hda,hv1⟩:=ex2.obj
  have xloc:x≠X.env.locals:=fun z=>absurd (Nat.lt_of_lt_of_le J2.lt nx) (by rw [z];exact Nat.lt_irrefl _)
  have xcell:∀ y c,X.env.cells.lookup y=some c→c≠x:=fun y c e z=>by
   obtain ⟨v,o,ho,_⟩:=J2.cell y c e
   rw [z] at ho
   exact absurd (Nat.lt_of_lt_of_le (Heap.lt_size ho) nx) (Nat.lt_irrefl _)
  refine wpAny_handleBy_cons (codeAny_handlers_test (zik (X:=Cx.inH X x ([]++(X.pn++pins))) (zuu (q:=[]) J5 (fun p hp=>nomatch hp)) hg hm ?_)) (by intro q;cases q)
  refine wpAny_excMatches_sub_self (g:=s'.gens) (d:=s'.drawn) (t:=s'.toks) (os:=s'.os) hC5 he hcl (by decide) ?_
  refine codeAny_handlers_suite_as ?_
  refine zmq (s:={ s' with heap:=h2 }) ex2 fun h3 ex3 k3=>?_
  have J6:L2.Inv X pins σ2 H' { s' with heap:=h3 }:=zel (s:={ s' with heap:=h2 }) (x:=T1) (T:=T1) J5 ⟨fun b o e n m=>k3.1 b o e (by simpa using n) (by simp),fun b o e n=>k3.2 b o e (by simpa using n)⟩ hT1 hT1 (.inl J3) nT1 nT1
  obtain ⟨oe3,vs3,he3,hcl3,hdi3,hda3,_⟩:=ex3.obj
  refine zkw (v:=.ref x) J6 hN hi (.inl hl) rfl (fun s4 J7 ⟨a,sb,ha⟩=>?_) (.inr hl)
  have he4:s4.heap.get? x=some oe3:=by
   refine (sb.2 x ?_).trans he3
   rcases ha with z | z
   ·rw [z];exact xloc
   ·exact fun e=>xcell _ _ z e.symm
  have hxfs:x∉X.fs:=fun hm=>by
   have:=J6.ok.funs
   obtain ⟨_,o,ho,_⟩:=this.mem hm
   have hlt:x<X.s_0.heap.objs.size:=Heap.lt_size ho
   exact absurd (Nat.lt_of_lt_of_le hlt (Nat.le_trans J2.sz nx)) (Nat.lt_irrefl _)
  have J8:=zuu (x:=x) (q:=[(x,oe3)]) J7 (fun p hp=>by
   rw [List.mem_singleton.mp hp]
   exact ⟨he4,hx,xloc,hxfs,fun v z=>by rw [hda3] at z;cases z⟩)
  have hlen:(σ2.set i (some (V.ref x))).length=X.N.length:=by rw [List.length_set];exact J2.len
  have J9:=J8.weak (σ':=(List.replicate X.N.length none).set i (some (.ref x))) (by simp [hlen,J2.len]) (fun j v e=>by
   by_cases hj:j=i
   ·subst hj
    have hji:j<σ2.length:=by rw [J2.len];exact (List.getElem?_eq_some_iff.mp hi).1
    rw [List.getElem?_set_self hji]
    rw [List.getElem?_set_self (by rw [List.length_replicate,← J2.len];exact hji)] at e
    exact e
   ·rw [List.getElem?_set_ne (Ne.symm hj),List.getElem?_replicate] at e
    split at e<;>cases e)
  obtain ⟨_,dx',edx,hts⟩:=hE
  cases edx
  have hw:=hs x dx oe3 _ (List.mem_append_left _ (List.mem_singleton.mpr rfl)) hcl3 hdi3 ⟨_,hda3⟩ [] s4 _ H' (noRt D) J9 (hts x)
  refine wpAny_mono hw (fun f s5 hf=>?_) (fun _ _ z=>False.elim z)
  cases f with
  | next=>obtain ⟨_,_,_,z⟩:=hf;exact False.elim z
  | brk=>obtain ⟨_,_,_,z⟩:=hf;exact False.elim z
  | cont=>obtain ⟨_,_,_,z⟩:=hf;exact False.elim z
  | ret u=>
   obtain ⟨v,σ6,H6,J,r,q⟩:=hf
   have JX:=zAb J6.ok J
   obtain ⟨m6,hn6,_⟩:=id JX.loc
   refine wpAny_nameGoes (m:=m6) hl hn6 (by rw [JX.ok.kind];rfl) fun h' m' hn' sb'=>?_
   exact ⟨v,_,H6,zz9 JX sb' hn',r,q⟩
 have h1:=hb (X.pn++pins) xe1 _ hp [] s σ H D (zz8 I) h
 refine wpAny_mono h1 (fun f s1 hf=>?_) (fun e s1 he=>he)
 cases f with
 | next=>
  obtain ⟨σ',H',I',q⟩:=hf
  exact wpAny_execs_nil ⟨σ',H',zij I',q⟩
 | brk=>obtain ⟨σ',H',I',q⟩:=hf;exact ⟨σ',H',zij I',q⟩
 | cont=>obtain ⟨σ',H',I',q⟩:=hf;exact ⟨σ',H',zij I',q⟩
 | ret u=>obtain ⟨v,σ',H',I',r,q⟩:=hf;exact ⟨v,σ',H',zij I',r,q⟩
end
section
theorem za1 {α β:Type} {x:Except Tilt.Fault α} {f:α→Except Tilt.Fault β} {b:β} (h:(x >>= f) = .ok b):∃ a,x = .ok a∧f a = .ok b:=by
 cases x with
 | error e=>cases h
 | ok a=>exact ⟨a,rfl,h⟩
def KT (T:Tilt.Table):Prop:=∀ k∈T.kicks,1≤k.ticks
theorem zvh {e lo hi:Nat} {l:List Tilt.Word} {x:(Nat×Nat)×List Tilt.Word} (h:Tilt.number e lo hi l = .ok x):lo≤x.1.1:=by
 unfold Tilt.number at h
 obtain ⟨y,_,h⟩:=za1 h
 split at h
 ·cases h
 ·split at h
  ·cases h
  ·rename_i hn
   cases h
   exact Nat.le_of_not_lt fun z=>hn (.inl z)
theorem zAg {e:Nat} {T T':Tilt.Table} {l:List Tilt.Word} (hT:KT T) (h:Tilt.kickIn e T l = .ok T'):KT T':=by
 unfold Tilt.kickIn at h
 obtain ⟨s,_,h⟩:=za1 h
 obtain ⟨_,_,h⟩:=za1 h
 obtain ⟨_,_,h⟩:=za1 h
 obtain ⟨c,_,h⟩:=za1 h
 obtain ⟨_,_,h⟩:=za1 h
 obtain ⟨w,_,h⟩:=za1 h
 obtain ⟨t,ht,h⟩:=za1 h
 have h1:=zvh ht
 obtain ⟨_,_,h⟩:=za1 h
 have add:∀ till,KT { T with kicks:=T.kicks++[⟨((T.switches[s.1.1]?).map fun (s:Tilt.Switch)=>s.place).getD 0,c.1.1.place,t.1.1,till⟩] }:=by
  intro till k hk
  rcases List.mem_append.mp hk with hk | hk
  ·exact hT k hk
  ·rw [List.mem_singleton.mp hk];exact h1
 split at h
 ·cases h
  exact add none
 ·obtain ⟨_,_,h⟩:=za1 h
  obtain ⟨_,_,h⟩:=za1 h
  obtain ⟨_,_,h⟩:=za1 h
  obtain ⟨_,_,h⟩:=za1 h
  cases h
  exact add _
theorem zuz {e:Nat} {T T':Tilt.Table} {l:List Tilt.Word} (hT:KT T) (h:Tilt.switchIn e T l = .ok T'):KT T':=by
 unfold Tilt.switchIn at h
 obtain ⟨_,_,h⟩:=za1 h
 obtain ⟨_,_,h⟩:=za1 h
 obtain ⟨_,_,h⟩:=za1 h
 obtain ⟨_,_,h⟩:=za1 h
 obtain ⟨_,_,h⟩:=za1 h
 obtain ⟨_,_,h⟩:=za1 h
 obtain ⟨_,_,h⟩:=za1 h
 obtain ⟨_,_,h⟩:=za1 h
 split at h
 ·cases h;exact hT
 ·obtain ⟨_,_,h⟩:=za1 h
  obtain ⟨_,_,h⟩:=za1 h
  cases h;exact hT
theorem zAh {e:Nat} {T T':Tilt.Table} {l:List Tilt.Word} (hT:KT T) (h:Tilt.lampIn e T l = .ok T'):KT T':=by
 unfold Tilt.lampIn at h
 obtain ⟨_,_,h⟩:=za1 h
 obtain ⟨_,_,h⟩:=za1 h
 obtain ⟨_,_,h⟩:=za1 h
 obtain ⟨_,_,h⟩:=za1 h
 obtain ⟨_,_,h⟩:=za1 h
 cases h;exact hT
theorem zAf {e:Nat} {T T':Tilt.Table} {l:List Tilt.Word} (hT:KT T) (h:Tilt.coilIn e T l = .ok T'):KT T':=by
 unfold Tilt.coilIn at h
 obtain ⟨_,_,h⟩:=za1 h
 obtain ⟨_,_,h⟩:=za1 h
 obtain ⟨_,_,h⟩:=za1 h
 obtain ⟨_,_,h⟩:=za1 h
 obtain ⟨_,_,h⟩:=za1 h
 obtain ⟨_,_,h⟩:=za1 h
 obtain ⟨_,_,h⟩:=za1 h
 split at h
 ·cases h;exact hT
 ·obtain ⟨_,_,h⟩:=za1 h
  obtain ⟨_,_,h⟩:=za1 h
  obtain ⟨_,_,h⟩:=za1 h
  cases h;exact hT
theorem zuy {e:Nat} {T T':Tilt.Table} {l:List Tilt.Word} (hT:KT T) (h:Tilt.deviceIn e T l = .ok T'):KT T':=by
 unfold Tilt.deviceIn at h
 obtain ⟨_,_,h⟩:=za1 h
 obtain ⟨_,_,h⟩:=za1 h
 obtain ⟨_,_,h⟩:=za1 h
 obtain ⟨_,_,h⟩:=za1 h
 obtain ⟨_,_,h⟩:=za1 h
 obtain ⟨_,_,h⟩:=za1 h
 cases h;exact hT
def KH (h:Option Tilt.Had):Prop:=∀ y,h=some y→KT y.T
theorem zAi {h h':Option Tilt.Had} {x:Tilt.Line} (hh:KH h) (e:Tilt.lineIn h x = .ok h'):KH h':=by
 unfold Tilt.lineIn at e
 obtain ⟨w,_,e⟩:=za1 e
 cases h with
 | none=>
  dsimp only at e
  split at e
  ·obtain ⟨T,hT,e⟩:=za1 e
   cases e
   intro y hy
   cases hy
   unfold Tilt.firstIn at hT
   obtain ⟨_,_,hT⟩:=za1 hT
   obtain ⟨_,_,hT⟩:=za1 hT
   obtain ⟨_,_,hT⟩:=za1 hT
   obtain ⟨_,_,hT⟩:=za1 hT
   cases hT
   intro k hk
   cases hk
  ·cases e
 | some y=>
  have hy:=hh y rfl
  dsimp only at e
  split at e
  ·cases e
  ·have fin:∀ {r:Except Tilt.Fault Tilt.Table} {n:Nat},(∀ T,r = .ok T→KT T)→(r >>= fun T=>(pure (some ⟨n,T⟩):Except Tilt.Fault (Option Tilt.Had))) = .ok h'→KH h':=by
    intro r n hr e
    obtain ⟨T,hT,e⟩:=za1 e
    cases e
    intro z hz
    cases hz
    exact hr T hT
   split at e
   ·exact fin (fun T hT=>zuz hy hT) e
   split at e
   ·exact fin (fun T hT=>zAh hy hT) e
   split at e
   ·exact fin (fun T hT=>zAf hy hT) e
   split at e
   ·exact fin (fun T hT=>zuy hy hT) e
   ·exact fin (fun T hT=>zAg hy hT) e
theorem zxu:∀ (k p:Nat) (h:Option Tilt.Had) (b:Bytes) (h':Option Tilt.Had),KH h→Tilt.linesIn Tilt.lineIn k p h b = .ok h'→KH h':=by
 intro k
 induction k with
 | zero=>intro p h b h' hh e;cases e;exact hh
 | succ k ih=>
  intro p h b h' hh e
  unfold Tilt.linesIn at e
  split at e
  ·cases e;exact hh
  ·split at e
   ·cases e
   ·split at e
    ·cases e
    ·split at e
     ·cases e
     ·rename_i t ht
      exact ih _ _ _ _ (zAi hh ht) e
theorem zAj {b:Bytes} {T:Tilt.Table} (h:Tilt.readTable b = .ok T):KT T:=by
 unfold Tilt.readTable at h
 split at h
 ·cases h
 ·cases h
 ·rename_i y hy
  split at h
  ·cases h
   exact zxu _ _ _ _ _ (fun y hy=>by cases hy) hy y rfl
  ·cases h
end
section
open Tilt (Drive Table Ans)
open TiltCoilCalls (State)
def tXat (x dx:Addr) (f:Str) (ta:TE):TE:=fun σ H Q=>ta σ H fun v H1=>v = .ref x∧E3 fun k p z=>A3 (H1 dx=some (xdO dx (fF k p))) ((fF k p).lookup f=some (.int z)) (Q (.int z) H1)
theorem zsa {X:Cx} {C x dx:Addr} {oe:Obj} {e:Expr} {f:Str} {pos:Pos} {ta:TE} (T:TF X.prog X.w X.K X.mg X.base C) (hm:(x,oe)∈X.pn) (hc:oe.cls = .ref C) (hd:oe.dict=some dx) (hf:∃ vs,oe.data = .fields vs)
  (he:PE X e ta) (hb:attributeBase e f X.env (eval e X.env)=eval e X.env) (hn:f="kind"∨f="place"):PE X (.Attribute e f pos) (tXat x dx f ta):=by
 obtain ⟨N,fI,fd,oI,F,_⟩:=T.ex
 intro pins s σ H Q I h
 refine zt3 hb (thn (he pins s σ H _ I h) fun u s1 ⟨v,H1,I1,rx,ex,k,p,z,ed,lk,q⟩=>?_)
 subst ex
 obtain rfl:u=Value.ref x:=rx
 have hx:=(I1.pin (x,oe) (List.mem_append_left _ hm)).1
 obtain ⟨mA,hns,hr,_⟩:=(I1.hok dx _ ed).1
 obtain ⟨nm,qn,bs,sn,sub,ab,col,dd,k0,k1,k2,k3,k5,hC0⟩:=F.cls
 obtain ⟨mN,hN0,hi,hk,hp,hsa,hga,hgt⟩:=F.nsm
 have hC:=hC0 _ I1.kIn
 have hna:mN f=none:=by rcases hn with rfl | rfl;exact hk;exact hp
 have hB:typeLookup (.type "ValueError") f=pure none:=by
  rcases hn with rfl | rfl<;>(rw [typeLookup_type,builtinLookup_eq_fast];kernel_rfl)
 have hr:=hr f
 rw [lk] at hr
 obtain ⟨tz,hv⟩ : ∃ t,mA f=some (.int z t):=by
  cases e:mA f with
  | none=>rw [e] at hr;exact False.elim hr
  | some w=>rw [e] at hr;obtain ⟨t,ht⟩:=hr;exact ⟨t,by rw [ht]⟩
 obtain ⟨hp1,g,d,tk,os⟩:=s1
 obtain ⟨vs,hdat⟩:=hf
 refine zBu hC (hN0 _ I1.kIn) hga hgt hna hB hx hc (fun c z=>by rw [hdat] at z;cases z) hd hns hv ?_ ⟨z,tz,rfl⟩
 exact ⟨.int z,H1,I1.tok (tk+1),⟨tz,rfl⟩,q⟩
theorem zAo (c:Tilt.Coil):MCo c (mc0 c):=⟨rfl,rfl,rfl,rfl, .inl rfl,Int.le_refl _,Int.le_refl _,Int.le_refl _, .inl rfl,(fun z=>absurd z (show ¬(0:Int)=1 by decide)),fun _=>rfl⟩
theorem zny (p:Nat):Tilt.driveBegun.get p=Tilt.free:=by
 unfold Drive.get Tilt.driveBegun
 rw [List.getD_eq_getElem?_getD,List.getElem?_replicate]
 split<;>rfl
theorem zvx {T:Table} {su:Nat} {cs:CS} {d kk:Addr} (h:cs.map (·.2.2)=T.coils):Rel T su Tilt.driveBegun ⟨su,d,kk,false,0⟩ (csOf cs):=by
 refine ⟨?_,rfl,fun p _=>zny p,rfl,rfl,?_,rfl⟩
 ·rw [← h]
  clear h
  induction cs with
  | nil=>exact .nil
  | cons c r ih=>exact .cons ⟨zAo _,by rw [zny];rfl⟩ ih
 ·have:Tilt.driveBegun.pulses=0:=by decide
  rw [this];exact Nat.zero_le _
section
variable {cW cF cT cC cK cB cD cR:Addr}
def zni (cD cB cC cK:Addr):Sp:=fun vs H Q _=>E7 fun k dk S st tr t su=>A4 (vs=[.ref k, .ref tr, .int (su:Nat)]) (DK cD cB cC cK S H k dk st) (H tr=some (.lst (bV t))) (DRes cD cB cC cK H S k dk (TiltCoilCalls.step st (.begin_ t su)) Q)
abbrev zdo:Stmt:=zaw (top 97) 1
theorem sc_Desk_begin:zai ["self","text","supply","table","fault"] ["self","text","supply"] (zae zdo):=by walk_at "sc"
theorem zl7:zak zdo "begin" "Desk.begin" ["self","text","supply"]:=fun _ _ _ _ _ _ us hl=>match us,hl with | [_,_,_],_=>rfl
theorem zmw (tG:TG K mg) (tDesk:zl4 K cD) (tF:TF P w K mg base cF) (d_read_table:Dn P w K mg base (CXF P w cF) "read_table" ["text"] 9 (zwi K ⟨cC,cK,cW,cT,cF⟩)) (i_Board:Id P w K mg base CX0 cB "Board" ["self","table","supply"] 1 (zng cB cC cK cT)) (F:MtK K cD "begin" "Desk.begin" zdo) :
  Md P w K mg base CX0 cD "begin" ["self","text","supply"] 10 (zni cD cB cC cK):=by
 refine F.md sc_Desk_begin zl7 (fun vs H Q E h=>?_) (fun f cdv A outer s H vs Q E hr h=>?_)
 ·obtain ⟨k,dk,S,st,tr,t,su,rfl,_⟩:=h
  rfl
 ·obtain ⟨k,dk,S,st,tr,t,su,rfl,h,htr,q⟩:=h
  have hu:=za2 hr
  have hu64:=hr.units
  refine ⟨_,(zab (za5 (zan zfm (za7 zav (by rfl) tG.b_len zcs (zaa (pv 1) zad)) (zap tG.g_MOST_BYTES) (zam _)) (zac (zar (zb5 (zaa (zap tG.g_TOO_MANY) zad)))) zaq)
   (zab (zA2 (i:=4) tF rfl rfl sc_Desk_begin.nd rfl rfl rfl (fun _ _ _ hp_=>(zac (zax (i:=3) sc_Desk_begin.nd rfl (Or.inl rfl) (pe_d d_read_table hr hp_ (zaa (pv 1) zad))))) (fun _ _ _ _ hm_ h1_ h2_ h3_=>(zac (zar (zb5 (zaa (zap tG.g_FAULTY) (zaa (zsa tF hm_ h1_ h2_ h3_ (pv 4) rfl (by decide)) (zaa (zsa tF hm_ h1_ h2_ h3_ (pv 4) rfl (by decide)) zad))))))))
   (zab (za5 (PW.pt (zpd (zan ziz (pv 2) zao (zam _)) (zkp (zan zfm (pv 2) (zap tG.g_MOST_SUPPLY) (zam _))))) (zac (zar (zb5 (zaa (zap tG.g_NOT_RIGHT) zad)))) zaq)
   (zab (zau (pv 0) (pe_i i_Board hr zaz (zaa (pv 3) (zaa (pv 2) zad))) rfl)
   (zac (zar (zb5 (zaa (zap tG.g_DONE) zad)))))))),?_⟩
  have f_tDesk_cl:=tDesk.cl
  have f_tDesk_n_board:=tDesk.n_board
  have hst:TiltCoilCalls.step st (.begin_ t su)=if 16384<t.length then (st,Tilt.says (-2)) else (match Tilt.readTable t with
   | .error e=>(st,Tilt.faulty e)
   | .ok T=>if Tilt.inside 1 32 su=false then (st,Tilt.says (-1)) else (some ⟨T,su,Tilt.driveBegun⟩,Tilt.says 0)):=rfl
  rw [hst] at q
  clear hst
  refine ⟨_,rfl,tr,_,rfl, .inl (SqL.of htr),_,_,rfl,rfl,_,rfl,?_⟩
  rw [zfc]
  by_cases h1:16384<t.length
  ·rw [decide_eq_true (by omega)]
   rw [if_pos h1] at q
   exact iteT ⟨by decide,fun p hp=>DRes.new q h (Same.refl H) hp⟩
  rw [decide_eq_false (by omega)]
  rw [if_neg h1] at q
  refine iteF ⟨_,rfl,tr,t,rfl,htr,by omega,?_⟩
  cases hT:Tilt.readTable t with
  | error f=>
   rw [hT] at q
   intro dx H' hd kp
   refine ⟨rfl,dx,rfl,fun x=>?_⟩
   have kp:Same H H':=fun b o e=>kp b o id e
   refine ⟨_,rfl,rfl,_,_,_,hd,rfl,_,rfl,rfl,_,_,_,hd,rfl,(by show 3≤sizeLine;decide),fun p hp=>?_⟩
   exact DRes.new (a:=Tilt.faulty f) q h kp hp
  | ok T=>
   rw [hT] at q
   intro H1 t1 tbl
   obtain ⟨dt,mt,cs,ks,hk,sk,tw,ce,nd,s1,fr⟩:=tbl
   have q:DRes cD cB cC cK H S k dk (if Tilt.inside 1 32 su=false then (st,Tilt.says (-1)) else (some ⟨T,su,Tilt.driveBegun⟩,Tilt.says 0)) Q:=q
   have hDK1:=h.same s1
   have q1:=q.on s1
   have right:DRes cD cB cC cK H S k dk (some ⟨T,su,Tilt.driveBegun⟩,Tilt.says 0) Q→tSeq (sFld K (tVar 0) (zpi cB (zng cB cC cK cT) [] E0 (zdk (tVar 3) (zdk (tVar 2) tNil))) "board") (tRet (tLst (zdk (tC (.int 0)) tNil))) { nx:=fun _ H'=>Q .non H',rt:=Q } [some (.ref k),some (.ref tr),some (.int su),some (.ref t1),none] H1:=by
    intro q
    refine ⟨_,rfl,_,rfl,fun b db hb hdb nbd=>?_⟩
    generalize hHb:upd (upd H1 db (.own b)) b (.ins cB db [])=Hb
    have hbb:Hb b=some (.ins cB db []):=by rw [← hHb,zaf]
    have ks1:Same H1 Hb:=fun a o e=>by rw [← hHb,zag (zaj e hb),zag (zaj e hdb)];exact e
    have ceb:Cel Hb (cells cT cC cK t1 dt mt cs ks T hk sk):=ce.same ks1
    have ofb:∀ c∈cells cT cC cK t1 dt mt cs ks T hk sk,c.1≠b:=fun c hc=>zaj (ce c hc) hb
    have m1:(t1,HO.ins cT dt (zdx mt))∈cells cT cC cK t1 dt mt cs ks T hk sk:=by simp [cells]
    have m2:(mt.coils,HO.dT (coD cs))∈cells cT cC cK t1 dt mt cs ks T hk sk:=by simp [cells]
    have m3:(mt.kicks,HO.lst (ks.map fun k=>.ref k.1))∈cells cT cC cK t1 dt mt cs ks T hk sk:=by simp [cells]
    have m4:∀ c∈coC cC cs,c∈cells cT cC cK t1 dt mt cs ks T hk sk:=fun c hc=>by simp [cells,hc]
    have m5:∀ c∈kiC cK ks,c∈cells cT cC cK t1 dt mt cs ks T hk sk:=fun c hc=>by simp [cells,hc]
    have hcl:cs.length≤32:=by
     have e:cs.length=T.coils.length:=by rw [← tw.ct,List.length_map]
     have:=tw.cb
     omega
    refine ⟨b,db,t1,dt,mt,cs,su,rfl,hbb,ceb _ m1,ceb _ m2,fun c hc=>ceb _ (m4 _ (List.mem_map.mpr ⟨c,hc,rfl⟩)),?_,hcl,fun z=>ofb _ m1 z.symm,fun z=>?_,fun H2 d hd hb2 hd2 ndb kb=>⟨rfl,?_⟩⟩
    ·have:=tw.cp
     rw [← tw.ct,List.map_map] at this
     exact this
    ·obtain ⟨c,hc,e⟩:=List.mem_map.mp z
     exact ofb _ (m4 _ (List.mem_map.mpr ⟨c,hc,rfl⟩)) e
    have hk1:∃ v,H1 k=some (.ins cD dk (zf5 ⟨v⟩)):=by
     cases st with
     | none=>exact ⟨_,hDK1.2.1⟩
     | some a=>obtain ⟨_,_,_,_,_,hk,_⟩:=hDK1.2;exact ⟨_,hk⟩
    obtain ⟨v,hk1⟩:=hk1
    have kb':∀ a o,a≠b→Hb a=some o→H2 a=some o:=fun a o n e=>kb a o n e
    have hkb:k≠b:=zaj hk1 hb
    have hk2:H2 k=some (.ins cD dk (zf5 ⟨v⟩)):=kb' _ _ hkb (ks1 _ _ hk1)
    have hHbd:H1 d=none:=by
     cases e:H1 d with
     | none=>rfl
     | some o=>rw [ks1 _ _ e] at hd;cases hd
    have hkd:k≠d:=zaj hk1 hHbd
    refine ⟨_,rfl,k,_,_,_,rfl,hk2,f_tDesk_cl,f_tDesk_n_board,(by show 1<1000;decide),by decide,fun p hp=>?_⟩
    have e3:putF ("board" : Str) (.ref b) (zf5 ⟨v⟩)=zf5 ⟨.ref b⟩:=rfl
    rw [e3] at hp ⊢
    generalize hH3:upd H2 k (.ins cD dk (zf5 ⟨.ref b⟩))=H3 at hp ⊢
    have h3k:H3 k=some (.ins cD dk (zf5 ⟨.ref b⟩)):=by rw [← hH3,zaf]
    have h3:∀ a o,a≠k→H2 a=some o→H3 a=some o:=fun a o n e=>by rw [← hH3,zag n];exact e
    have ky:Same H3 (upd H3 p (.lst [.int 0])):=Same.new hp
    have cell3:∀ c∈cells cT cC cK t1 dt mt cs ks T hk sk,H3 c.1=some c.2∧c.1≠b∧c.1≠d∧c.1≠k:=fun c hc=>by
     have n1:=ofb c hc
     have n2:c.1≠d:=zaj (ce c hc) hHbd
     have n3:c.1≠k:=fun z=>by
      have e:=fr c hc
      have hk0:∃ o,H k=some o:=by
       cases st with
       | none=>exact ⟨_,h.2.1⟩
       | some a=>obtain ⟨_,_,_,_,_,hk,_⟩:=h.2;exact ⟨_,hk⟩
      obtain ⟨o,ho⟩:=hk0
      rw [z,ho] at e;cases e
     exact ⟨h3 _ _ n3 (kb' _ _ n1 (ceb c hc)),n1,n2,n3⟩
    have sub:∀ c∈kiC cK ks++mcC cC (csOf cs),c∈cells cT cC cK t1 dt mt cs ks T hk sk:=fun c hc=>by
     rcases List.mem_append.mp hc with hc | hc
     ·exact m5 c hc
     ·refine m4 c ?_
      have:mcC cC (csOf cs)=coC cC cs:=by simp [mcC,csOf,coC,Function.comp_def]
      rw [← this];exact hc
    have CE:Cel H3 (bdC cB cC cK b db ⟨su,d,mt.kicks,false,0⟩ (.dK (mcD (csOf cs))) (csOf cs) ks):=by
     intro c hc
     rcases List.mem_cons.mp hc with rfl | hc
     ·exact h3 _ _ hkd.symm hd2
     rcases List.mem_cons.mp hc with rfl | hc
     ·exact h3 _ _ hkb.symm hb2
     rcases List.mem_cons.mp hc with rfl | hc
     ·exact (cell3 _ m3).1
     ·exact (cell3 _ (sub c hc)).1
    have NDn:ND (bdC cB cC cK b db ⟨su,d,mt.kicks,false,0⟩ (.dK (mcD (csOf cs))) (csOf cs) ks):=by
     have nd':((mt.kicks,HO.lst (ks.map fun k=>.ref k.1)) :: (coC cC cs++kiC cK ks)).map (·.1) |>.Nodup:=by
      have sl:((mt.kicks,HO.lst (ks.map fun k=>.ref k.1)) :: (coC cC cs++kiC cK ks)).Sublist (cells cT cC cK t1 dt mt cs ks T hk sk):=by
       unfold cells
       exact .cons _ (.cons _ (.cons _ (.cons _ (.cons _ (.cons₂ _ (.cons _ (.cons _ (List.Sublist.refl _))))))))
      exact List.Nodup.sublist (sl.map _) nd
     have em:mcC cC (csOf cs)=coC cC cs:=by simp [mcC,csOf,coC,Function.comp_def]
     unfold ND bdC
     rw [em]
     have pm:((mt.kicks,HO.lst (ks.map fun k=>.ref k.1)) :: (kiC cK ks++coC cC cs)).Perm ((mt.kicks,HO.lst (ks.map fun k=>.ref k.1)) :: (coC cC cs++kiC cK ks)):=List.Perm.cons _ List.perm_append_comm
     have nd2:(((mt.kicks,HO.lst (ks.map fun k=>.ref k.1)) :: (kiC cK ks++coC cC cs)).map (·.1)).Nodup:=(pm.map _).nodup_iff.mpr nd'
     have inC:∀ a∈((mt.kicks,HO.lst (ks.map fun k=>.ref k.1)) :: (kiC cK ks++coC cC cs)).map (·.1),a≠b∧a≠d:=fun a ha=>by
      obtain ⟨c,hc,rfl⟩:=List.mem_map.mp ha
      have hc2:c∈cells cT cC cK t1 dt mt cs ks T hk sk:=by
       rcases List.mem_cons.mp hc with rfl | hc
       ·exact m3
       ·exact sub c (by rw [em];exact hc)
      exact ⟨(cell3 c hc2).2.1,(cell3 c hc2).2.2.1⟩
     rw [List.map_cons,List.map_cons,List.nodup_cons,List.nodup_cons]
     refine ⟨fun hm=>?_,fun hm=>(inC _ hm).1 rfl,nd2⟩
     rcases List.mem_cons.mp hm with z | hm
     ·exact ndb z
     ·exact (inC _ hm).2 rfl
    have freshAll:∀ c∈bdC cB cC cK b db ⟨su,d,mt.kicks,false,0⟩ (.dK (mcD (csOf cs))) (csOf cs) ks,H c.1=none:=by
     have back:∀ a,H1 a=none→H a=none:=fun a ha=>by
      cases e:H a with
      | none=>rfl
      | some o=>rw [s1 _ _ e] at ha;cases ha
     intro c hc
     rcases List.mem_cons.mp hc with rfl | hc
     ·exact back _ hHbd
     rcases List.mem_cons.mp hc with rfl | hc
     ·exact back _ hb
     rcases List.mem_cons.mp hc with rfl | hc
     ·exact fr _ m3
     ·exact fr _ (sub c hc)
    have BDn:BD cB cC cK (fun a=>a∈(bdC cB cC cK b db ⟨su,d,mt.kicks,false,0⟩ (.dK (mcD (csOf cs))) (csOf cs) ks).map (·.1)) H3 H3 b db ⟨su,d,mt.kicks,false,0⟩ (.dK (mcD (csOf cs))) (csOf cs) ks T.kicks:=by
     refine ⟨CE,NDn,fun c hc=>List.mem_map.mpr ⟨c,hc,rfl⟩,SameX.refl,?_,by simpa [csOf] using hcl,?_,?_,fun a ha=>?_⟩
     ·have hn:=tw.cp
      have:(csOf cs).map (·.2.2.place)=(T.coils.map (·.place)).map fun (n:Nat)=>(n:Int):=by rw [← tw.ct];simp [csOf,mc0,Function.comp_def]
      rw [this]
      exact List.Pairwise.map _ (fun a b hab z=>hab (by omega)) hn
     ·have e:ks.length=T.kicks.length:=Paired.length tw.kk
      have:=tw.kn
      omega
     ·refine zqn tw.kk fun a _ c _ h=>?_
      obtain ⟨r1,r2,r3,dc,c0,hm,hp⟩:=h
      refine ⟨r1,r2,r3,List.mem_map.mpr ⟨(a.2.2.coil,dc,mc0 c0),List.mem_map.mpr ⟨(a.2.2.coil,dc,c0),hm,rfl⟩,?_⟩⟩
      show (a.2.2.coil,((c0.place:Nat):Int))=_
      rw [hp]
     ·obtain ⟨c,hc,rfl⟩:=List.mem_map.mp ha
      exact ⟨_,CE c hc⟩
    have ok:TOk T:=⟨tw.cp,tw.c31,zAj hT⟩
    have hk0:∃ o,H k=some o:=by
     cases st with
     | none=>exact ⟨_,h.2.1⟩
     | some a=>obtain ⟨_,_,_,_,_,hk,_⟩:=h.2;exact ⟨_,hk⟩
    obtain ⟨ok0,hk0⟩:=hk0
    refine q _ _ p ⟨fun hm=>?_,b,db,⟨su,d,mt.kicks,false,0⟩,csOf cs,ks,ky _ _ h3k,(BDn.same ky).re,ok,zvx tw.ct⟩ (fun a ha=>?_) (fun a o na e=>?_) zaf ?_
    ·obtain ⟨c,hc,e⟩:=List.mem_map.mp hm
     have:=freshAll c hc
     rw [e,hk0] at this;cases this
    ·obtain ⟨c,hc,rfl⟩:=List.mem_map.mp ha
     exact .inr (freshAll c hc)
    ·have nk:a≠k:=fun z=>na (.inr z)
     have e1:=s1 _ _ e
     exact ky _ _ (h3 _ _ nk (kb' _ _ (zaj e1 hb) (ks1 _ _ e1)))
    ·cases e:H p with
     | none=>rfl
     | some o=>
      have e1:=s1 _ _ e
      by_cases nk:p=k
      ·rw [nk,h3k] at hp;cases hp
      ·rw [h3 _ _ nk (kb' _ _ (zaj e1 hb) (ks1 _ _ e1))] at hp;cases hp
   refine ⟨_,rfl,_,_,rfl,rfl,_,rfl,?_⟩
   by_cases h2:su<1
   ·rw [decide_eq_true (by omega)]
    have e:Tilt.inside 1 32 su=false:=by unfold Tilt.inside;rw [decide_eq_false (by omega),Bool.false_and]
    rw [if_pos e] at q1
    exact iteT (iteT ⟨by decide,fun p hp=>DRes.new q1 hDK1 (Same.refl H1) hp⟩)
   rw [decide_eq_false (by omega)]
   refine iteF ⟨_,rfl,_,_,rfl,rfl,_,rfl,?_⟩
   by_cases h3:32<su
   ·rw [decide_eq_true (by omega)]
    have e:Tilt.inside 1 32 su=false:=by unfold Tilt.inside;rw [decide_eq_false (show ¬su≤32 by omega),Bool.and_false]
    rw [if_pos e] at q1
    exact iteT ⟨by decide,fun p hp=>DRes.new q1 hDK1 (Same.refl H1) hp⟩
   rw [decide_eq_false (by omega)]
   have e:Tilt.inside 1 32 su=true:=by unfold Tilt.inside;rw [decide_eq_true (show 1≤su by omega),decide_eq_true (show su≤32 by omega)];rfl
   rw [if_neg (by rw [e];decide)] at q
   exact iteF (right q)
end
end
section
theorem zv1 {l x t:List Int} (h:PyFlat.row l=some (x,t)):∃ m,l=m :: (x++t)∧0≤m∧x.length=m.toNat:=by
 cases l with
 | nil=>cases h
 | cons n r=>
  have h:(if 0≤n∧n.toNat≤r.length then some (r.take n.toNat,r.drop n.toNat) else none)=some (x,t):=h
  split at h
  ·rename_i hn
   cases h
   exact ⟨n,by rw [List.take_append_drop],hn.1,by rw [List.length_take];omega⟩
  ·cases h
theorem zpe {l:List Int} {xs:List (List Int)} {t:List Int} (h:PyFlat.rows 1 l=some (xs,t)):∃ x m,xs=[x]∧l=m :: (x++t)∧0≤m∧x.length=m.toNat:=by
 unfold PyFlat.rows at h
 cases e:PyFlat.row l with
 | none=>rw [e] at h;cases h
 | some y=>
  obtain ⟨x,s⟩:=y
  rw [e] at h
  cases h
  obtain ⟨m,h1,h2,h3⟩:=zv1 e
  exact ⟨x,m,rfl,h1,h2,h3⟩
theorem zv2 {l:List Int} {xs:List (List Int)} {t:List Int} (h:PyFlat.rows 2 l=some (xs,t)):∃ x m y n,xs=[x,y]∧l=m :: (x++n :: (y++t))∧0≤m∧x.length=m.toNat∧0≤n∧y.length=n.toNat:=by
 unfold PyFlat.rows at h
 cases e:PyFlat.row l with
 | none=>rw [e] at h;cases h
 | some y=>
  obtain ⟨x,s⟩:=y
  rw [e] at h
  obtain ⟨m,h1,h2,h3⟩:=zv1 e
  cases e2:PyFlat.rows 1 s with
  | none=>dsimp only at h;rw [e2] at h;cases h
  | some z=>
   obtain ⟨ys,u⟩:=z
   dsimp only at h
   rw [e2] at h
   cases h
   obtain ⟨y,n,rfl,h4,h5,h6⟩:=zpe e2
   exact ⟨x,m,y,n,rfl,by rw [h1,h4],h2,h3,h5,h6⟩
theorem zrh {p:Int} {r t:List Int} {x:List (List Int)} (h:PyFlat.call PyWqaqca.shape (p :: r)=some (x,t)) :
  (p=1∧∃ s m row,r=s :: m :: (row++t)∧0≤m∧row.length=m.toNat∧x=[[1,s],row])∨(p=2∧∃ n m1 r1 m2 r2,r=n :: m1 :: (r1++m2 :: (r2++t))∧0≤m1∧r1.length=m1.toNat∧0≤m2∧r2.length=m2.toNat∧x=[[2,n],r1,r2])∨
  (p=3∧∃ a,r=a :: t∧x=[[3,a]])∨(p=4∧∃ a,r=a :: t∧x=[[4,a]])∨(p=5∧r=t∧x=[[5]]):=by
 have h:(match PyWqaqca.shape p with
  | none=>none
  | some (n,k)=>if r.length<n then none else match PyFlat.rows k (r.drop n) with
   | none=>none
   | some (xs,t)=>some ((p :: r.take n) :: xs,t))=some (x,t):=h
 unfold PyWqaqca.shape at h
 by_cases h1:p=1
 ·subst h1
  refine .inl ⟨rfl,?_⟩
  simp only [if_true] at h
  split at h
  ·cases h
  ·cases r with
   | nil=>rename_i z;simp at z
   | cons s r=>
    split at h
    ·cases h
    ·rename_i xs u e
     cases h
     obtain ⟨y,m,rfl,h4,h5,h6⟩:=zpe e
     have h4:r=m :: (y++t):=h4
     exact ⟨s,m,y,by rw [h4],h5,h6,rfl⟩
 rw [if_neg h1] at h
 by_cases h2:p=2
 ·subst h2
  refine .inr (.inl ⟨rfl,?_⟩)
  simp only [if_true] at h
  split at h
  ·cases h
  ·cases r with
   | nil=>rename_i z;simp at z
   | cons s r=>
    split at h
    ·cases h
    ·rename_i xs u e
     cases h
     obtain ⟨y,m,y2,m2,rfl,h4,h5,h6,h7,h8⟩:=zv2 e
     have h4:r=m :: (y++m2 :: (y2++t)):=h4
     exact ⟨s,m,y,m2,y2,by rw [h4],h5,h6,h7,h8,rfl⟩
 rw [if_neg h2] at h
 have zero:PyFlat.rows 0 (r.drop 1)=some ([],r.drop 1):=rfl
 by_cases h3:p=3
 ·subst h3
  refine .inr (.inr (.inl ⟨rfl,?_⟩))
  simp only [if_true] at h
  split at h
  ·cases h
  ·cases r with
   | nil=>rename_i z;simp at z
   | cons s r=>cases h;exact ⟨s,rfl,rfl⟩
 rw [if_neg h3] at h
 by_cases h4:p=4
 ·subst h4
  refine .inr (.inr (.inr (.inl ⟨rfl,?_⟩)))
  simp only [if_true] at h
  split at h
  ·cases h
  ·cases r with
   | nil=>rename_i z;simp at z
   | cons s r=>cases h;exact ⟨s,rfl,rfl⟩
 rw [if_neg h4] at h
 by_cases h5:p=5
 ·subst h5
  refine .inr (.inr (.inr (.inr ⟨rfl,?_⟩)))
  simp only [if_true] at h
  split at h
  ·cases h
  ·cases h;exact ⟨rfl,rfl⟩
 rw [if_neg h5] at h
 cases h
theorem SqL.keepI {K:W.Frag} {H H':Hp} {a w C dx:Addr} {fs:List (Str×V)} {xs:List V} (h:SqL K H a xs) (k:SameX (only w) H H') (hw:H w=some (.ins C dx fs)):SqL K H' a xs:=by
 rcases h with h | h
 ·rcases h with h | ⟨o,h⟩
  ·exact .inl (.inl (k _ _ (fun z=>by unfold only at z;rw [z,hw] at h;cases h) h))
  ·exact .inl (.inr ⟨o,k _ _ (fun z=>by unfold only at z;rw [z,hw] at h;cases h) h⟩)
 ·exact .inr h
section
variable {cW cF cT cC cK cB cD cR:Addr}
def zq1 (K:W.Frag) (cR:Addr):Sp:=fun vs H Q _=>E3 fun p dx c=>A3 (vs=[.ref p, .ref c]) (H p=some (.ins cR dx [])) (Q .non (upd H p (.ins cR dx (za8 ⟨c,0⟩))))
def zq2 (K:W.Frag) (cR:Addr):Sp:=fun vs H Q _=>E5 fun r dr c a (l:List Int)=>A4 (vs=[.ref r]) (H r=some (.ins cR dr (za8 ⟨c,a⟩))) (SqL K H c (l.map V.int)) (Q (.bl (decide (a<l.length))) H)
def zsj (K:W.Frag) (cR:Addr):Sp:=fun vs H Q _=>E6 fun r dr c a z (l:List Int)=>A5 (vs=[.ref r]) (H r=some (.ins cR dr (za8 ⟨c,(a:Nat)⟩))) (SqL K H c (l.map V.int)) (l[a]? = some z) (Q (.int z) (upd H r (.ins cR dr (za8 ⟨c,(a+1:Nat)⟩))))
def zwh (K:W.Frag) (cR:Addr):Sp:=fun vs H Q _=>E8 fun r dr c a m (l:List Int) (row:List Int) (t:List Int)=>A7 (vs=[.ref r]) (H r=some (.ins cR dr (za8 ⟨c,(a:Nat)⟩))) (SqL K H c (l.map V.int)) (l.drop a=m :: (row++t)) (0≤m) (row.length=m.toNat) (∀ H' p,H p=none→H' p=some (.lst (row.map V.int))→H' r=some (.ins cR dr (za8 ⟨c,(a+1+row.length:Nat)⟩))→SameX (only r) H H'→Q (.ref p) H')
abbrev zce:Stmt:=zaw (top 98) 0
theorem zh1:zai ["self","calls"] ["self","calls"] (zae zce):=by walk_at "sc"
theorem zha:zak zce "__init__" "Reader.__init__" ["self","calls"]:=fun _ _ _ _ _ _ us hl=>match us,hl with | [_,_],_=>rfl
abbrev zdc:Stmt:=zaw (top 98) 1
theorem zlm:zai ["self"] ["self"] (zae zdc):=by walk_at "sc"
theorem zk5:zak zdc "more" "Reader.more" ["self"]:=fun _ _ _ _ _ _ us hl=>match us,hl with | [_],_=>rfl
abbrev zbm:Stmt:=zaw (top 98) 2
theorem sc_Reader_read_number:zai ["self","number"] ["self"] (zae zbm):=by walk_at "sc"
theorem zfe:zak zbm "read_number" "Reader.read_number" ["self"]:=fun _ _ _ _ _ _ us hl=>match us,hl with | [_],_=>rfl
abbrev zcf:Stmt:=zaw (top 98) 3
theorem sc_Reader_read_row:zai ["self","many","row"] ["self"] (zae zcf):=by walk_at "sc"
theorem zhb:zak zcf "read_row" "Reader.read_row" ["self"]:=fun _ _ _ _ _ _ us hl=>match us,hl with | [_],_=>rfl
theorem zhp (tG:TG K mg) (tReader:zgf K cR) (F:InK K mg cR "Reader" "Reader.__init__" zce) :
  Id P w K mg base CX0 cR "Reader" ["self","calls"] 1 (zq1 K cR):=by
 refine F.id zh1 zha (fun vs H Q E h=>?_) (fun f cdv A outer s H vs Q E hr h=>?_)
 ·obtain ⟨p,dx,c,rfl,_⟩:=h
  rfl
 ·obtain ⟨p,dx,c,rfl,hp,q⟩:=h
  have hu:=za2 hr
  have hu64:=hr.units
  refine ⟨_,(zab (zau (pv 0) (pv 1) rfl)
   (zac (zau (pv 0) zao rfl))),?_⟩
  have f_tReader_cl:=tReader.cl
  have f_tReader_n_calls:=tReader.n_calls
  have f_tReader_n_at:=tReader.n_at
  refine ⟨_,rfl,_,rfl,p,_,_,_,rfl,hp,f_tReader_cl,f_tReader_n_calls,(by decide),?_⟩
  refine ⟨_,rfl,p,_,_,_,rfl,zaf,f_tReader_cl,f_tReader_n_at,(by show 1<1000;decide),?_⟩
  rw [zc9]
  exact q
theorem zlf (tG:TG K mg) (tReader:zgf K cR) (F:MtK K cR "more" "Reader.more" zdc) :
  Md P w K mg base CX0 cR "more" ["self"] 1 (zq2 K cR):=by
 refine F.md zlm zk5 (fun vs H Q E h=>?_) (fun f cdv A outer s H vs Q E hr h=>?_)
 ·obtain ⟨r,dr,c,a,l,rfl,_⟩:=h
  rfl
 ·obtain ⟨r,dr,c,a,l,rfl,hr0,hc,q⟩:=h
  have hu:=za2 hr
  have hu64:=hr.units
  refine ⟨_,(zac (zar (zba ziz (zah (pv 0) rfl) (za7 zav (by rfl) tG.b_len zcs (zaa (zah (pv 0) rfl) zad)) (zam _)))),?_⟩
  have f_tReader_cl:=tReader.cl
  have f_tReader_n_at:=tReader.n_at
  have f_tReader_n_calls:=tReader.n_calls
  refine ⟨_,rfl,r,_,_,_,_,rfl,hr0,f_tReader_cl,f_tReader_n_at,rfl,_,rfl,r,_,_,_,_,rfl,hr0,f_tReader_cl,f_tReader_n_calls,rfl,c,_,rfl, .inl hc,_,_,rfl,rfl,?_⟩
  rw [List.length_map]
  exact q
theorem zfk (tG:TG K mg) (tReader:zgf K cR) (F:MtK K cR "read_number" "Reader.read_number" zbm) :
  Md P w K mg base CX0 cR "read_number" ["self"] 1 (zsj K cR):=by
 refine F.md sc_Reader_read_number zfe (fun vs H Q E h=>?_) (fun f cdv A outer s H vs Q E hr h=>?_)
 ·obtain ⟨r,dr,c,a,z,l,rfl,_⟩:=h
  rfl
 ·obtain ⟨r,dr,c,a,z,l,rfl,hr0,hc,ha,q⟩:=h
  have hu:=za2 hr
  have hu64:=hr.units
  refine ⟨_,(zab (zax (i:=1) sc_Reader_read_number.nd rfl (Or.inl rfl) (zdy zbu (zah (pv 0) rfl) (zah (pv 0) rfl) (fun _ _=>rfl)))
   (zab (zep (pv 0) zao zrr)
   (zac (zar (pv 1))))),?_⟩
  have f_tReader_cl:=tReader.cl
  have f_tReader_n_calls:=tReader.n_calls
  have f_tReader_n_at:=tReader.n_at
  refine ⟨_,rfl,r,_,_,_,_,rfl,hr0,f_tReader_cl,f_tReader_n_calls,rfl,_,rfl,r,_,_,_,_,rfl,hr0,f_tReader_cl,f_tReader_n_at,rfl,c,_,_,_,rfl,rfl,hc,zjj (j:=a) rfl (iat ha),?_⟩
  exact ⟨_,rfl,r,_,_,_,_,rfl,hr0,f_tReader_cl,f_tReader_n_at,rfl,_,_,rfl,rfl,_,_,hr0,(by show 2<1000;decide),_,rfl,q⟩
theorem zhq (tG:TG K mg) (tReader:zgf K cR) (m_Reader_read_number:Md P w K mg base CX0 cR "read_number" ["self"] 1 (zsj K cR)) (F:MtK K cR "read_row" "Reader.read_row" zcf) :
  Md P w K mg base CX0 cR "read_row" ["self"] 2 (zwh K cR):=by
 refine F.md sc_Reader_read_row zhb (fun vs H Q E h=>?_) (fun f cdv A outer s H vs Q E hr h=>?_)
 ·obtain ⟨r,dr,c,a,m,l,row,t,rfl,_⟩:=h
  rfl
 ·obtain ⟨r,dr,c,a,m,l,row,t,rfl,hr0,hc,hd,hm,hl,q⟩:=h
  have hu:=za2 hr
  have hu64:=hr.units
  refine ⟨_,(zab (zax (i:=1) sc_Reader_read_row.nd rfl (Or.inl rfl) (zbk m_Reader_read_number tReader.cl hr zaz (pv 0)))
   (zab (zax (i:=2) sc_Reader_read_row.nd rfl (Or.inl rfl) (zhu znd (zah (pv 0) rfl) (zfo (zah (pv 0) rfl)) (zfo (zej ze4 (zah (pv 0) rfl) (pv 1)))))
   (zab (zep (pv 0) (pv 1) zrr)
   (zac (zar (pv 2)))))),?_⟩
  have f_tReader_cl:=tReader.cl
  have f_tReader_n_at:=tReader.n_at
  have f_tReader_n_calls:=tReader.n_calls
  have ha:l[a]? = some m:=by
   have:=congrArg (fun z=>z[0]?) hd
   simpa using this
  refine ⟨_,rfl,r,_,_,rfl,hr0,rfl,r,dr,c,a,m,l,rfl,hr0,hc,ha,?_⟩
  generalize hH1:upd H r (.ins cR dr (za8 ⟨c,(a+1:Nat)⟩))=H1
  have h1r:H1 r=some (.ins cR dr (za8 ⟨c,(a+1:Nat)⟩)):=by rw [← hH1,zaf]
  have k1:SameX (only r) H H1:=by rw [← hH1];exact SameX.put rfl
  have hc1:SqL K H1 c (l.map V.int):=SqL.keepI hc k1 hr0
  refine ⟨_,rfl,r,_,_,_,_,rfl,h1r,f_tReader_cl,f_tReader_n_calls,rfl,_,rfl,r,_,_,_,_,rfl,h1r,f_tReader_cl,f_tReader_n_at,rfl,_,rfl,_,rfl,r,_,_,_,_,rfl,h1r,f_tReader_cl,f_tReader_n_at,rfl,_,rfl,_,_,rfl,rfl,_,rfl,c,_,rfl,hc1,fun p hp=>?_⟩
  have ecut:cutV (l.map V.int) (some ((a+1:Nat):Int)) (some (((a+1:Nat):Int)+m))=row.map V.int:=by
   have em:((a+1:Nat):Int)+m=((a+1+m.toNat:Nat):Int):=by omega
   have hlen:l.length=a+(1+(row.length+t.length))∨l.length<a:=by
    by_cases hla:a≤l.length
    ·have:=congrArg List.length hd
     simp at this
     left;omega
    ·right;omega
   have hla:a<l.length:=(List.getElem?_eq_some_iff.mp ha).1
   have hlen:l.length=a+(1+(row.length+t.length)):=by omega
   rw [em]
   unfold cutV
   rw [HT.sIx_nat,HT.sIx_nat,List.length_map,Nat.min_eq_left (by omega),Nat.min_eq_left (by omega),← List.map_drop,← List.map_take]
   congr 1
   have e2:l.drop (a+1)=row++t:=by rw [← List.drop_drop,hd];rfl
   rw [e2,show a+1+m.toNat-(a+1)=row.length by omega,List.take_left']
   rfl
  rw [ecut]
  have hrp:r≠p:=zaj h1r hp
  have k2:Same H1 (upd H1 p (.lst (row.map V.int))):=Same.new hp
  refine ⟨_,rfl,r,_,_,_,_,rfl,k2 _ _ h1r,f_tReader_cl,f_tReader_n_at,rfl,_,rfl,_,_,rfl,rfl,_,_,k2 _ _ h1r,(by show 2<1000;decide),_,rfl,q _ p ?_ ?_ ?_ ?_⟩
  ·cases e:H p with
   | none=>rfl
   | some o=>
    have:p≠r:=fun z=>hrp z.symm
    rw [k1 _ _ this e] at hp;cases hp
  ·rw [zag hrp.symm,zaf]
  ·rw [zaf]
   have:(a+1+row.length:Nat)=((a+1:Nat):Int)+m:=by omega
   rw [this];rfl
  ·exact (k1.trans (SameX.of k2)).trans (SameX.put rfl)
end
end
section
open Tilt (Drive Table Ans)
open TiltCoilCalls (State)
theorem DK.keep {cD cB cC cK:Addr} {S R:Addr→Prop} {H H':Hp} {k dk:Addr} {st:State} (h:DK cD cB cC cK S H k dk st) (s:SameX R H H') (nk:¬R k) (nS:∀ a,S a→¬R a):DK cD cB cC cK S H' k dk st:=by
 obtain ⟨h0,h⟩:=h
 refine ⟨h0,?_⟩
 cases st with
 | none=>exact ⟨s _ _ nk h.1,fun a ha=>let ⟨u,hu⟩:=h.2 a ha; ⟨u,s _ _ (nS a ha) hu⟩⟩
 | some a=>
  obtain ⟨b,db,m,cs,ks,h1,h2,h3,h4⟩:=h
  exact ⟨b,db,m,cs,ks,s _ _ nk h1,⟨h2.ce.keep s fun c hc=>nS _ (h2.fs c hc),h2.nd,h2.fs,SameX.refl,h2.pn,h2.cl,h2.kl,h2.kk,fun a ha=>let ⟨u,hu⟩:=h2.al a ha; ⟨u,s _ _ (nS a ha) hu⟩⟩,h3,h4⟩
theorem DK.obj {cD cB cC cK:Addr} {S:Addr→Prop} {H:Hp} {k dk:Addr} {st:State} (h:DK cD cB cC cK S H k dk st):∃ v,H k=some (.ins cD dk (zf5 ⟨v⟩)):=by
 cases st with
 | none=>exact ⟨_,h.2.1⟩
 | some a=>obtain ⟨b,db,m,cs,ks,h1,_⟩:=h.2;exact ⟨_,h1⟩
theorem zzy {l:List Int} (h:l.all (fun (z:Int)=>CoilNeutral.natural z 8)=true):bV (CoilNeutral.text l)=l.map V.int:=by
 unfold bV bI CoilNeutral.text CoilNeutral.nats
 simp only [List.map_map]
 refine List.map_congr_left fun z hz=>?_
 have:=List.all_eq_true.mp h z hz
 unfold CoilNeutral.natural at this
 simp only [Bool.and_eq_true,decide_eq_true_eq] at this
 simp only [Function.comp]
 congr 1
 have h2:z.toNat<256:=by
  have:(2:Int) ^ 8=256:=by decide
  omega
 have:(UInt8.ofNat z.toNat).toNat=z.toNat:=by simp;omega
 rw [this]
 omega
theorem zf0 {l:List Int} (h:l.all CoilNeutral.whole32=true):∀ z∈l,(0:Int)≤z:=fun z hz=>by
 have:=List.all_eq_true.mp h z hz
 unfold CoilNeutral.whole32 at this
 simp only [Bool.and_eq_true,decide_eq_true_eq] at this
 exact this.1
section
variable {cW cF cT cC cK cB cD cR:Addr}
def zwd (K:W.Frag) (cD cR cB cC cK:Addr):Sp:=fun vs H Q _=>E8 fun k dk S st r dr c a=>E3 fun (l:List Int) (x:List (List Int)) (t:List Int)=>A8 (vs=[.ref k, .ref r]) (DK cD cB cC cK S H k dk st) (H r=some (.ins cR dr (za8 ⟨c,(a:Nat)⟩))) (SqL K H c (l.map V.int)) (r≠k) (¬S r) (PyFlat.call PyWqaqca.shape (l.drop a)=some (x,t)) (CoilNeutral.asked1 (PyWqaqca.whole x)=true∧∀ H' S' p,DK cD cB cC cK S' H' k dk (CoilNeutral.step st (PyWqaqca.whole x)).1→(∀ b,S' b→S b∨H b=none)→SameX (fun b=>S b∨b=k∨b=r) H H'→H' r=some (.ins cR dr (za8 ⟨c,(l.length-t.length:Nat)⟩))→H' p=some (.lst ((CoilNeutral.step st (PyWqaqca.whole x)).2.map V.int))→H p=none→Q (.ref p) H')
abbrev zde:Stmt:=top 99
theorem sc_answer_call:zai ["desk","reader","call","supply","n","events"] ["desk","reader"] (zae zde):=by walk_at "sc"
theorem zk7:zak zde "answer_call" "answer_call" ["desk","reader"]:=fun _ _ _ _ _ _ us hl=>match us,hl with | [_,_],_=>rfl
theorem zlh (tG:TG K mg) (tReader:zgf K cR) (tDesk:zl4 K cD) (m_Reader_read_number:Md P w K mg base CX0 cR "read_number" ["self"] 1 (zsj K cR)) (m_Desk_begin:Md P w K mg base CX0 cD "begin" ["self","text","supply"] 10 (zni cD cB cC cK)) (m_Reader_read_row:Md P w K mg base CX0 cR "read_row" ["self"] 2 (zwh K cR)) (m_Desk_ticks:Md P w K mg base CX0 cD "ticks" ["self","n","events","orders"] 7 (znj cD cB cC cK)) (m_Desk_soon:Md P w K mg base CX0 cD "soon" ["self","place"] 2 (zwj cD cB cC cK)) (m_Desk_stands:Md P w K mg base CX0 cD "stands" ["self","place"] 2 (znn cD cB cC cK)) (m_Desk_now:Md P w K mg base CX0 cD "now" ["self"] 1 (zBh cD cB cC cK)) (F:FnK K mg "answer_call" zde) :
  Dn P w K mg base CX0 "answer_call" ["desk","reader"] 11 (zwd K cD cR cB cC cK):=by
 refine F.dn sc_answer_call zk7 (fun vs H Q E h=>?_) (fun f cdv A outer s H vs Q E hr h=>?_)
 ·obtain ⟨k,dk,S,st,r,dr,c,a,l,x,t,rfl,_⟩:=h
  rfl
 ·obtain ⟨k,dk,S,st,r,dr,c,a,l,x,t,rfl,h,hr0,hc,nrk,nSr,hx,hask,q⟩:=h
  have hu:=za2 hr
  have hu64:=hr.units
  refine ⟨_,(zab (zax (i:=2) sc_answer_call.nd rfl (Or.inl rfl) (zbk m_Reader_read_number tReader.cl hr zaz (pv 1)))
   (zab (za5 (zan zbg (pv 2) (zap tG.g_BEGIN) (zam _)) (zab (zax (i:=3) sc_answer_call.nd rfl (Or.inl rfl) (zbk m_Reader_read_number tReader.cl hr zaz (pv 1)))
   (zac (zar (pe_m m_Desk_begin tDesk.cl hr zaz (pv 0) (zaa (zbk m_Reader_read_row tReader.cl hr zaz (pv 1)) (zaa (pv 3) zad)))))) zaq)
   (zab (za5 (zan zbg (pv 2) (zap tG.g_TICKS) (zam _)) (zab (zax (i:=4) sc_answer_call.nd rfl (Or.inl rfl) (zbk m_Reader_read_number tReader.cl hr zaz (pv 1)))
   (zab (zax (i:=5) sc_answer_call.nd rfl (Or.inl rfl) (zbk m_Reader_read_row tReader.cl hr zaz (pv 1)))
   (zac (zar (pe_m m_Desk_ticks tDesk.cl hr zaz (pv 0) (zaa (pv 4) (zaa (pv 5) (zaa (zbk m_Reader_read_row tReader.cl hr zaz (pv 1)) zad)))))))) zaq)
   (zab (za5 (zan zbg (pv 2) (zap tG.g_SOON) (zam _)) (zac (zar (pe_m m_Desk_soon tDesk.cl hr zaz (pv 0) (zaa (zbk m_Reader_read_number tReader.cl hr zaz (pv 1)) zad)))) zaq)
   (zab (za5 (zan zbg (pv 2) (zap tG.g_STANDS) (zam _)) (zac (zar (pe_m m_Desk_stands tDesk.cl hr zaz (pv 0) (zaa (zbk m_Reader_read_number tReader.cl hr zaz (pv 1)) zad)))) zaq)
   (zac (zar (zbk m_Desk_now tDesk.cl hr zaz (pv 0))))))))),?_⟩
  have fin:∀ (H1:Hp) (cc:TiltCoilCalls.Call),SameX (only r) H H1→H1 r=some (.ins cR dr (za8 ⟨c,(l.length-t.length:Nat)⟩))→CoilNeutral.callOf (PyWqaqca.whole x)=some cc→DRes cD cB cC cK H1 S k dk (TiltCoilCalls.step st cc) Q:=by
   intro H1 cc k1 hr1 ecc H' S' p d1 d2 d3 d4 d5
   have est:CoilNeutral.step st (PyWqaqca.whole x)=((TiltCoilCalls.step st cc).1,(TiltCoilCalls.step st cc).2.code :: (TiltCoilCalls.step st cc).2.nums):=by unfold CoilNeutral.step;rw [ecc]
   have back:∀ b,H1 b=none→H b=none:=fun b hb=>by
    cases e:H b with
    | none=>rfl
    | some o=>
     by_cases z:b=r
     ·rw [z,hr1] at hb;cases hb
     ·rw [k1 _ _ z e] at hb;cases hb
   refine q H' S' p (by rw [est];exact d1) (fun b hb=>(d2 b hb).imp id (back b)) (fun b o nb e=>?_) ?_ (by rw [est];exact d4) (back p d5)
   ·exact d3 b o (fun z=>nb (z.imp id .inl)) (k1 b o (fun z=>nb (.inr (.inr z))) e)
   ·exact d3 r _ (fun z=>z.elim nSr nrk) hr1
  have hDK:∀ {H1:Hp},SameX (only r) H H1→DK cD cB cC cK S H1 k dk st:=fun {H1} k1=>h.keep k1 (fun z=>nrk z.symm) fun b hb z=>nSr (z▸hb)
  have hC:∀ {H1:Hp},SameX (only r) H H1→SqL K H1 c (l.map V.int):=fun {H1} k1=>SqL.keepI hc k1 hr0
  cases hl:l.drop a with
  | nil=>rw [hl] at hx;cases hx
  | cons p0 rest=>
   rw [hl] at hx
   have at_:∀ (j:Nat) (z:Int),(l.drop a)[j]? = some z→l[a+j]? = some z:=fun j z e=>by rw [List.getElem?_drop] at e;exact e
   have h0:l[a]? = some p0:=at_ 0 p0 (by rw [hl];rfl)
   have hal:a<l.length:=(List.getElem?_eq_some_iff.mp h0).1
   have hlen:l.length=a+(p0 :: rest).length:=by
    have:=congrArg List.length hl
    simp at this ⊢
    omega
   refine ⟨_,rfl,r,_,_,rfl,hr0,rfl,r,dr,c,a,p0,l,rfl,hr0,hc,h0,_,rfl,rfl,_,rfl,?_⟩
   have k1:SameX (only r) H (upd H r (.ins cR dr (za8 ⟨c,(a+1:Nat)⟩))):=SameX.put rfl
   have h1r:upd H r (.ins cR dr (za8 ⟨c,(a+1:Nat)⟩)) r=some (.ins cR dr (za8 ⟨c,(a+1:Nat)⟩)):=zaf
   generalize upd H r (.ins cR dr (za8 ⟨c,(a+1:Nat)⟩))=H1 at k1 h1r ⊢
   rw [zas]
   have hDK1:=hDK k1
   have hC1:=hC k1
   rcases zrh hx with ⟨rfl,s,m,row,rfl,hm,hrow,rfl⟩ | ⟨rfl,n,m1,r1,m2,r2,rfl,hm1,hr1,hm2,hr2,rfl⟩ | ⟨rfl,z,rfl,rfl⟩ | ⟨rfl,z,rfl,rfl⟩ | ⟨rfl,rfl,rfl⟩
   ·
    rw [decide_eq_true rfl]
    have hask:(CoilNeutral.whole32 s&&row.all (fun (z:Int)=>CoilNeutral.natural z 8))=true:=hask
    rw [Bool.and_eq_true] at hask
    have hs0:(0:Int)≤s:=zf0 (l:=[s]) (by simp [hask.1]) s (by simp)
    refine iteT ⟨_,rfl,r,_,_,rfl,h1r,rfl,r,dr,c,a+1,s,l,rfl,h1r,hC1,at_ 1 s (by rw [hl];rfl),?_⟩
    have k2:SameX (only r) H (upd H1 r (.ins cR dr (za8 ⟨c,(a+1+1:Nat)⟩))):=k1.trans (SameX.put rfl)
    have h2r:upd H1 r (.ins cR dr (za8 ⟨c,(a+1+1:Nat)⟩)) r=some (.ins cR dr (za8 ⟨c,(a+1+1:Nat)⟩)):=zaf
    generalize upd H1 r (.ins cR dr (za8 ⟨c,(a+1+1:Nat)⟩))=H2 at k2 h2r ⊢
    obtain ⟨v,hkv⟩:=(hDK k2).obj
    refine ⟨_,rfl,k,_,_,rfl,hkv,rfl,_,rfl,r,_,_,rfl,h2r,rfl,r,dr,c,a+1+1,m,l,row,t,rfl,h2r,hC k2,?_,hm,hrow,fun H3 p hp hp3 h3r k3=>?_⟩
    ·have:l.drop (a+1+1)=(l.drop a).drop 2:=by rw [List.drop_drop]
     rw [this,hl];rfl
    ·have k3':=k2.trans k3
     refine ⟨_,rfl,k,dk,S,st,p,CoilNeutral.text row,s.toNat,?_,hDK k3',by rw [zzy hask.2];exact hp3,fin H3 _ k3' ?_ rfl⟩
     ·have:((s.toNat:Nat):Int)=s:=by omega
      rw [this];rfl
     ·rw [h3r]
      have:a+1+1+1+row.length=l.length-t.length:=by rw [hlen];simp;omega
      rw [this]
   ·
    rw [decide_eq_false (show ¬(2:Int)=1 by decide)]
    refine iteF ⟨_,rfl,rfl,_,rfl,?_⟩
    rw [zas]
    rw [decide_eq_true rfl]
    have hask:(CoilNeutral.whole32 n&&((r1.all CoilNeutral.whole32&&r1.length % 2 == 0)&&((r2.all CoilNeutral.whole32&&r2.length % 4 == 0))))=true:=hask
    simp only [Bool.and_eq_true,beq_iff_eq] at hask
    obtain ⟨hn32,⟨e1,e2⟩,o1,o2⟩:=hask
    have hn0:(0:Int)≤n:=zf0 (l:=[n]) (by simp [hn32]) n (by simp)
    refine iteT ⟨_,rfl,r,_,_,rfl,h1r,rfl,r,dr,c,a+1,n,l,rfl,h1r,hC1,at_ 1 n (by rw [hl];rfl),?_⟩
    have k2:SameX (only r) H (upd H1 r (.ins cR dr (za8 ⟨c,(a+1+1:Nat)⟩))):=k1.trans (SameX.put rfl)
    have h2r:upd H1 r (.ins cR dr (za8 ⟨c,(a+1+1:Nat)⟩)) r=some (.ins cR dr (za8 ⟨c,(a+1+1:Nat)⟩)):=zaf
    generalize upd H1 r (.ins cR dr (za8 ⟨c,(a+1+1:Nat)⟩))=H2 at k2 h2r ⊢
    have hd2:l.drop (a+1+1)=m1 :: (r1++m2 :: (r2++t)):=by
     have:l.drop (a+1+1)=(l.drop a).drop 2:=by rw [List.drop_drop]
     rw [this,hl];rfl
    refine ⟨_,rfl,r,_,_,rfl,h2r,rfl,r,dr,c,a+1+1,m1,l,r1,m2 :: (r2++t),rfl,h2r,hC k2,hd2,hm1,hr1,fun H3 p1 hp1 hp3 h3r k3=>?_⟩
    have k3':=k2.trans k3
    obtain ⟨v,hkv⟩:=(hDK k3').obj
    refine ⟨_,rfl,k,_,_,rfl,hkv,rfl,_,rfl,_,rfl,_,rfl,r,_,_,rfl,h3r,rfl,r,dr,c,a+1+1+1+r1.length,m2,l,r2,t,rfl,h3r,hC k3',?_,hm2,hr2,fun H4 p2 hp2 hp4 h4r k4=>?_⟩
    ·have:l.drop (a+1+1+1+r1.length)=(l.drop (a+1+1)).drop (1+r1.length):=by rw [List.drop_drop];congr 1;omega
     rw [this,hd2,Nat.add_comm 1,List.drop_succ_cons,List.drop_left']
     rfl
    ·have k4':=k3'.trans k4
     have np1:p1≠r:=fun z=>by rw [z,h2r] at hp1;cases hp1
     refine ⟨k,dk,S,st,n.toNat,p1,r1,p2,r2,?_,hDK k4',k4 _ _ np1 hp3,hp4,zf0 e1,e2,zf0 o1,o2,fin H4 _ k4' ?_ rfl⟩
     ·have:((n.toNat:Nat):Int)=n:=by omega
      rw [this];rfl
     ·rw [h4r]
      have:a+1+1+1+r1.length+1+r2.length=l.length-t.length:=by rw [hlen];simp;omega
      rw [this]
   ·
    rw [decide_eq_false (show ¬(3:Int)=1 by decide)]
    refine iteF ⟨_,rfl,rfl,_,rfl,?_⟩
    rw [zas]
    rw [decide_eq_false (show ¬(3:Int)=2 by decide)]
    refine iteF ⟨_,rfl,rfl,_,rfl,?_⟩
    rw [zas]
    rw [decide_eq_true rfl]
    have hz0:(0:Int)≤z:=zf0 (l:=[z]) (by simp;exact hask) z (by simp)
    obtain ⟨v,hkv⟩:=hDK1.obj
    refine iteT ⟨_,rfl,k,_,_,rfl,hkv,rfl,_,rfl,r,_,_,rfl,h1r,rfl,r,dr,c,a+1,z,l,rfl,h1r,hC1,at_ 1 z (by rw [hl];rfl),?_⟩
    have k2:SameX (only r) H (upd H1 r (.ins cR dr (za8 ⟨c,(a+1+1:Nat)⟩))):=k1.trans (SameX.put rfl)
    refine ⟨k,dk,S,st,z.toNat,?_,hDK k2,fin _ _ k2 ?_ rfl⟩
    ·have:((z.toNat:Nat):Int)=z:=by omega
     rw [this];rfl
    ·rw [zaf]
     have:a+1+1=l.length-t.length:=by rw [hlen];simp;omega
     rw [this]
   ·
    rw [decide_eq_false (show ¬(4:Int)=1 by decide)]
    refine iteF ⟨_,rfl,rfl,_,rfl,?_⟩
    rw [zas]
    rw [decide_eq_false (show ¬(4:Int)=2 by decide)]
    refine iteF ⟨_,rfl,rfl,_,rfl,?_⟩
    rw [zas]
    rw [decide_eq_false (show ¬(4:Int)=3 by decide)]
    refine iteF ⟨_,rfl,rfl,_,rfl,?_⟩
    rw [zas]
    rw [decide_eq_true rfl]
    have hz0:(0:Int)≤z:=zf0 (l:=[z]) (by simp;exact hask) z (by simp)
    obtain ⟨v,hkv⟩:=hDK1.obj
    refine iteT ⟨_,rfl,k,_,_,rfl,hkv,rfl,_,rfl,r,_,_,rfl,h1r,rfl,r,dr,c,a+1,z,l,rfl,h1r,hC1,at_ 1 z (by rw [hl];rfl),?_⟩
    have k2:SameX (only r) H (upd H1 r (.ins cR dr (za8 ⟨c,(a+1+1:Nat)⟩))):=k1.trans (SameX.put rfl)
    refine ⟨k,dk,S,st,z.toNat,?_,hDK k2,fin _ _ k2 ?_ rfl⟩
    ·have:((z.toNat:Nat):Int)=z:=by omega
     rw [this];rfl
    ·rw [zaf]
     have:a+1+1=l.length-t.length:=by rw [hlen];simp;omega
     rw [this]
   ·
    rw [decide_eq_false (show ¬(5:Int)=1 by decide)]
    refine iteF ⟨_,rfl,rfl,_,rfl,?_⟩
    rw [zas]
    rw [decide_eq_false (show ¬(5:Int)=2 by decide)]
    refine iteF ⟨_,rfl,rfl,_,rfl,?_⟩
    rw [zas]
    rw [decide_eq_false (show ¬(5:Int)=3 by decide)]
    refine iteF ⟨_,rfl,rfl,_,rfl,?_⟩
    rw [zas]
    rw [decide_eq_false (show ¬(5:Int)=4 by decide)]
    obtain ⟨v,hkv⟩:=hDK1.obj
    refine iteF ⟨_,rfl,k,_,_,rfl,hkv,rfl,k,dk,S,st,rfl,hDK1,fin _ _ k1 ?_ rfl⟩
    rw [h1r]
    have:a+1=l.length-rest.length:=by rw [hlen];simp;omega
    rw [this]
end
end
section
open Tilt (Drive Table Ans)
open TiltCoilCalls (State)
theorem zzv (st:State) (x:CoilNeutral.Call):(CoilNeutral.step st x).2.length≤4100:=by
 unfold CoilNeutral.step
 cases CoilNeutral.callOf x with
 | none=>exact Nat.zero_le _
 | some cc=>
  show (TiltCoilCalls.step st cc).2.nums.length+1≤4100
  have key:(TiltCoilCalls.step st cc).2.nums.length≤4099:=by
   cases cc with
   | begin_ t su=>
    show (if Tilt.TEXT<t.length then (st,Tilt.says (-2)) else (match Tilt.readTable t with
     | .error e=>(st,Tilt.faulty e)
     | .ok T=>if Tilt.inside 1 32 su=false then (st,Tilt.says (-1)) else (some ⟨T,su,Tilt.driveBegun⟩,Tilt.says 0))).2.nums.length≤4099
    split
    ·exact Nat.zero_le _
    ·split
     ·exact (by decide:2≤4099)
     ·split<;>exact Nat.zero_le _
   | ticks n es os=>
    cases st with
    | none=>exact Nat.zero_le _
    | some a=>
     show (if 4096<n∨4096<es.length∨4096<os.length then (some a,Tilt.says (-2)) else (if (Tilt.eventsRight n es&&Tilt.ordersRight a.T n os)=false then (some a,Tilt.says (-1)) else (some { a with x:=(a.T.ticks a.supply es os 0 n a.x).1 },Tilt.tells (a.T.ticks a.supply es os 0 n a.x).2))).2.nums.length≤4099
     split
     ·exact Nat.zero_le _
     ·split
      ·exact Nat.zero_le _
      ·show ((a.T.ticks a.supply es os 0 n a.x).2.map _).length≤4099
       rw [List.length_map,zkz]
       omega
   | soon p=>
    cases st with
    | none=>exact Nat.zero_le _
    | some a=>
     show (if Tilt.COILS≤p then Tilt.says (-1) else match a.T.driveSoon a.x p with
      | none=>Tilt.says (-4)
      | some none=>Tilt.says (-3)
      | some (some n)=>Tilt.tells [n]).nums.length≤4099
     split
     ·exact Nat.zero_le _
     ·split
      ·exact Nat.zero_le _
      ·exact Nat.zero_le _
      ·exact (by decide:1≤4099)
   | stands p=>
    cases st with
    | none=>exact Nat.zero_le _
    | some a=>
     show (if Tilt.COILS≤p then Tilt.says (-1) else match a.T.coilAt p with
      | none=>Tilt.says (-4)
      | some _=>Tilt.tells (TiltCoilCalls.standNums (a.x.get p))).nums.length≤4099
     split
     ·exact Nat.zero_le _
     ·split
      ·exact Nat.zero_le _
      ·show ((TiltCoilCalls.standNums (a.x.get p)).map _).length≤4099
       rw [List.length_map]
       cases a.x.get p<;>simp [TiltCoilCalls.standNums]
   | now=>
    cases st with
    | none=>exact Nat.zero_le _
    | some a=>exact (by decide:2≤4099)
  omega
theorem zsv {f:Nat} {l:List Int} {xs:List (List (List Int))} (h:PyFlat.calls PyWqaqca.shape f l=some xs):(l=[]∧xs=[])∨∃ x t ys,PyFlat.call PyWqaqca.shape l=some (x,t)∧xs=x :: ys∧PyFlat.calls PyWqaqca.shape (f-1) t=some ys∧l≠[]:=by
 cases l with
 | nil=>
  have h:some []=some xs:=by cases f<;>exact h
  cases h
  exact .inl ⟨rfl,rfl⟩
 | cons p r=>
  cases f with
  | zero=>cases h
  | succ f=>
   have h:(match PyFlat.call PyWqaqca.shape (p :: r) with
    | none=>none
    | some (c,t)=>match PyFlat.calls PyWqaqca.shape f t with
     | none=>none
     | some cs=>some (c :: cs))=some xs:=h
   cases e:PyFlat.call PyWqaqca.shape (p :: r) with
   | none=>rw [e] at h;cases h
   | some y=>
    obtain ⟨c,t⟩:=y
    rw [e] at h
    dsimp only at h
    cases e2:PyFlat.calls PyWqaqca.shape f t with
    | none=>rw [e2] at h;cases h
    | some ys=>
     rw [e2] at h
     cases h
     exact .inr ⟨c,t,ys,rfl,rfl,e2,by simp⟩
theorem zua {l t:List Int} {x:List (List Int)} (h:PyFlat.call PyWqaqca.shape l=some (x,t)):∃ pre,l=pre++t:=by
 cases l with
 | nil=>cases h
 | cons p r=>
  rcases zrh h with ⟨_,s,m,row,e,_⟩ | ⟨_,n,m1,r1,m2,r2,e,_⟩ | ⟨_,z,e,_⟩ | ⟨_,z,e,_⟩ | ⟨_,e,_⟩
  ·exact ⟨p :: s :: m :: row,by rw [e];simp⟩
  ·exact ⟨p :: n :: m1 :: (r1++m2 :: r2),by rw [e];simp⟩
  ·exact ⟨[p,z],by rw [e];simp⟩
  ·exact ⟨[p,z],by rw [e];simp⟩
  ·exact ⟨[p],by rw [e];simp⟩
section
variable {cW cF cT cC cK cB cD cR:Addr}
def spAnswers (K:W.Frag):Sp:=fun vs H Q _=>E3 fun c (l:List Int) (xs:List (List (List Int)))=>A6 (vs=[.ref c]) (SqL K H c (l.map V.int)) (PyFlat.calls PyWqaqca.shape l.length l=some xs) (xs.length≤200) ((∀ x∈xs,CoilNeutral.asked1 (PyWqaqca.whole x)=true)) (∀ H' p,H' p=some (.lst ((PyFlat.told (PyFlat.played CoilNeutral.step CoilNeutral.start (xs.map PyWqaqca.whole))).map V.int))→Q (.ref p) H')
abbrev zc1:Stmt:=top 100
theorem sc_answers:zai ["calls","desk","reader","answered","answer"] ["calls"] (zae zc1):=by walk_at "sc"
theorem zqi (tG:TG K mg) (tReader:zgf K cR) (i_Desk:Id P w K mg base CX0 cD "Desk" ["self"] 1 (zqz cD)) (i_Reader:Id P w K mg base CX0 cR "Reader" ["self","calls"] 1 (zq1 K cR)) (m_Reader_more:Md P w K mg base CX0 cR "more" ["self"] 1 (zq2 K cR)) (d_answer_call:Dn P w K mg base CX0 "answer_call" ["desk","reader"] 11 (zwd K cD cR cB cC cK)) {f:Addr} {fd:FuncData} (F:Fun K "answers" "answers" zc1 f fd) :
  FnOk P w K mg base CX0 12 f fd ["calls"] (spAnswers K):=by
 refine F.ok sc_answers (fun vs H Q E h=>?_) (fun cdv A outer s H vs Q E hr h=>?_)
 ·obtain ⟨c,l,xs,rfl,_⟩:=h
  rfl
 ·obtain ⟨c,l,xs,rfl,hc,hcs,h200,hask,q⟩:=h
  have hu:=za2 hr
  have hu64:=hr.units
  refine ⟨_,(zab (zax (i:=1) sc_answers.nd rfl (Or.inl rfl) (zC4 i_Desk hr zaz))
   (zab (zax (i:=2) sc_answers.nd rfl (Or.inl rfl) (pe_i i_Reader hr zaz (zaa (pv 0) zad)))
   (zab (zax (i:=3) sc_answers.nd rfl (Or.inl rfl) (zb5 zad))
   (zab (zhx PassesOwn.never (zct (zbk m_Reader_more tReader.cl hr zaz (pv 2)))
    (zab (zax (i:=4) sc_answers.nd rfl (Or.inl rfl) (pe_d d_answer_call hr zaz (zaa (pv 1) (zaa (pv 2) zad))))
   (zab (zal (zte PySem.F.plainAttrs_list PySem.F.slot_list_append PySem.F.type_list_append zhk (pv 3) (zaa (za7 zav (by rfl) tG.b_len zcs (zaa (pv 4) zad)) zad)))
   (zac (zal (zte PySem.F.plainAttrs_list PySem.F.slot_list_extend PySem.F.type_list_extend zvb (pv 3) (zaa (pv 4) zad)))))))
   (zac (zar (pv 3))))))),?_⟩
  intro k dk hk hdk nkd
  refine ⟨k,dk,rfl,zaf,rfl,?_⟩
  have ks1:Same H (upd (upd (upd H dk (.own k)) k (.ins cD dk [])) k (.ins cD dk (zf5 ⟨.non⟩))):=fun b o e=>by rw [zag (zaj e hk),zag (zaj e hk),zag (zaj e hdk)];exact e
  have h1k:upd (upd (upd H dk (.own k)) k (.ins cD dk [])) k (.ins cD dk (zf5 ⟨.non⟩)) k=some (.ins cD dk (zf5 ⟨.non⟩)):=zaf
  generalize upd (upd (upd H dk (.own k)) k (.ins cD dk [])) k (.ins cD dk (zf5 ⟨.non⟩))=H1 at ks1 h1k ⊢
  refine ⟨_,rfl,fun r dr hr1 hdr nrd=>?_⟩
  refine ⟨r,dr,c,rfl,zaf,rfl,?_⟩
  have ks2:Same H1 (upd (upd (upd H1 dr (.own r)) r (.ins cR dr [])) r (.ins cR dr (za8 ⟨c,0⟩))):=fun b o e=>by rw [zag (zaj e hr1),zag (zaj e hr1),zag (zaj e hdr)];exact e
  have h2r:upd (upd (upd H1 dr (.own r)) r (.ins cR dr [])) r (.ins cR dr (za8 ⟨c,0⟩)) r=some (.ins cR dr (za8 ⟨c,0⟩)):=zaf
  generalize upd (upd (upd H1 dr (.own r)) r (.ins cR dr [])) r (.ins cR dr (za8 ⟨c,0⟩))=H2 at ks2 h2r ⊢
  refine ⟨Nat.zero_le _,fun p hp=>?_⟩
  have ks3:Same H2 (upd H2 p (.lst [])):=Same.new hp
  have h3p:upd H2 p (.lst []) p=some (.lst []):=zaf
  generalize upd H2 p (.lst [])=H3 at ks3 h3p ⊢
  have hHr:H r=none:=by
   cases e:H r with
   | none=>rfl
   | some o=>rw [ks1 _ _ e] at hr1;cases hr1
  have hHp:H p=none:=by
   cases e:H p with
   | none=>rfl
   | some o=>rw [ks2 _ _ (ks1 _ _ e)] at hp;cases hp
  have nrk:r≠k:=fun z=>by rw [z,h1k] at hr1;cases hr1
  have npk:p≠k:=fun z=>by rw [z,ks2 _ _ h1k] at hp;cases hp
  have npr:p≠r:=fun z=>by rw [z,h2r] at hp;cases hp
  obtain ⟨W,hW⟩ : ∃ W:Nat→St→Hp→Prop,∀ mm σ H',W mm σ H'↔∃ (st:State) (S:Addr→Prop) (a f:Nat) (ys:List (List (List Int))) (acc:List Int) (y:Option V),mm=ys.length∧σ=[some (.ref c),some (.ref k),some (.ref r),some (.ref p),y]∧
    DK cD cB cC cK S H' k dk st∧H' r=some (.ins cR dr (za8 ⟨c,(a:Nat)⟩))∧H' p=some (.lst (acc.map V.int))∧Same H H'∧¬S r∧¬S p∧(∀ b,S b→H b=none)∧a≤l.length∧PyFlat.calls PyWqaqca.shape f (l.drop a)=some ys∧(∀ x∈ys,CoilNeutral.asked1 (PyWqaqca.whole x)=true)∧acc.length+ys.length*4200≤200*4200∧
    PyFlat.told (PyFlat.played CoilNeutral.step CoilNeutral.start (xs.map PyWqaqca.whole))=acc++PyFlat.told (PyFlat.played CoilNeutral.step st (ys.map PyWqaqca.whole)):=⟨_,fun _ _ _=>Iff.rfl⟩
  refine ⟨W,⟨xs.length,(hW _ _ _).mpr ⟨none,fun _=>False,0,l.length,xs,[],none,rfl,rfl,⟨id,ks3 _ _ (ks2 _ _ h1k),fun a z=>z.elim⟩,ks3 _ _ h2r,h3p,Same.trans ks1 (Same.trans ks2 ks3),id,id,(fun b z=>z.elim),Nat.zero_le _,hcs,hask,by simp;omega,rfl⟩⟩,fun mm σ H' hw=>?_⟩
  obtain ⟨st,S,a,f,ys,acc,y,rfl,rfl,hD,hr4,hp4,ks4,nSr,nSp,fS,hal,hys,hask',hbd,heq⟩:=(hW _ _ _).mp hw
  have hc4:SqL K H' c (l.map V.int):=SameX.sqL (S:=fun _=>False) (SameX.of ks4) id hc
  refine ⟨_,rfl,r,_,_,rfl,hr4,rfl,r,dr,c,(a:Nat),l,rfl,hr4,hc4,_,rfl,?_⟩
  rcases zsv hys with ⟨e1,rfl⟩ | ⟨x,t,zs,e1,rfl,e2,e3⟩
  ·have:¬a<l.length:=fun z=>by
    have:=congrArg List.length e1
    simp at this;omega
   rw [decide_eq_false (by omega)]
   refine iteF ⟨_,rfl,q H' p ?_⟩
   rw [heq,hp4]
   show some (HO.lst (acc.map V.int))=some (HO.lst ((acc++[]).map V.int))
   rw [List.append_nil]
  ·have hlt:a<l.length:=by
    by_cases z:a<l.length
    ·exact z
    ·exact absurd (List.drop_eq_nil_iff.mpr (by omega)) e3
   rw [decide_eq_true (by omega)]
   obtain ⟨pre,hpre⟩:=zua e1
   refine iteT ⟨_,fun _ _ h=>h,_,rfl,_,rfl,k,dk,S,st,r,dr,c,a,l,x,t,rfl,hD,hr4,hc4,nrk,nSr,e1,hask' x (by simp),fun H5 S5 p5 d1 d2 d3 d4 d5 d6=>?_⟩
   generalize hst:CoilNeutral.step st (PyWqaqca.whole x)=res at d1 d5
   have hrl:res.2.length≤4100:=by rw [← hst];exact zzv _ _
   have nR:∀ b,(S b∨b=k∨b=r)→H b=none:=fun b z=>by
    rcases z with z | rfl | rfl
    ·exact fS b z
    ·exact hk
    ·exact hHr
   have ks5:Same H H5:=SameX.new ks4 d3 nR
   have hp5:H5 p=some (.lst (acc.map V.int)):=d3 _ _ (fun z=>by
    rcases z with z | z | z
    ·exact nSp z
    ·exact npk z
    ·exact npr z) hp4
   have hlen:acc.length+4200+zs.length*4200≤200*4200:=by
    simp only [List.length_cons] at hbd
    omega
   have n5:p5≠p:=fun z=>by rw [z,hp4] at d6;cases d6
   refine ⟨_,rfl, .inl ⟨rfl,_,SqL.of hp5⟩,_,rfl,p5,_,rfl, .inl (SqL.of d5),p,_,_,rfl,rfl,hp5,by rw [List.length_map];simp [sizeLine];omega,?_⟩
   have kp6:SameX (only p) H5 (upd H5 p (.lst (acc.map V.int++[.int (res.2.map V.int).length]))):=SameX.put rfl
   have h6p:upd H5 p (.lst (acc.map V.int++[.int (res.2.map V.int).length])) p=some (.lst (acc.map V.int++[.int (res.2.map V.int).length])):=zaf
   generalize upd H5 p (.lst (acc.map V.int++[.int (res.2.map V.int).length]))=H6 at kp6 h6p ⊢
   have h65:H6 p5=some (.lst (res.2.map V.int)):=kp6 _ _ n5 d5
   refine ⟨_,rfl, .inl ⟨rfl,_,SqL.of h6p⟩,_,rfl,p,p5,_,_,rfl,rfl,h6p,h65,by simp [sizeLine];omega,zs.length,by simp,(hW _ _ _).mpr ⟨res.1,S5,l.length-t.length,f-1,zs,acc++((res.2.length:Int) :: res.2),_,rfl,rfl,?_,?_,?_,?_,?_,?_,?_,by omega,?_,fun z hz=>hask' z (List.mem_cons_of_mem _ hz),?_,?_⟩⟩
   ·have nS5p:¬S5 p:=fun z=>by
     rcases d2 p z with z | z
     ·exact nSp z
     ·rw [hp4] at z;cases z
    exact d1.keep (kp6.trans (SameX.put (S:=only p) rfl)) (fun z=>npk z.symm) fun b hb z=>nS5p (z▸hb)
   ·rw [zag npr.symm]
    exact kp6 _ _ npr.symm d4
   ·rw [zaf]
    simp
   ·exact SameX.new ks5 (kp6.trans (SameX.put (S:=only p) rfl)) fun b z=>by unfold only at z;rw [z];exact hHp
   ·intro z
    rcases d2 r z with z | z
    ·exact nSr z
    ·rw [hr4] at z;cases z
   ·intro z
    rcases d2 p z with z | z
    ·exact nSp z
    ·rw [hp4] at z;cases z
   ·intro b hb
    rcases d2 b hb with z | z
    ·exact fS b z
    ·cases e:H b with
     | none=>rfl
     | some o=>rw [ks4 _ _ e] at z;cases z
   ·have:l.drop (l.length-t.length)=t:=by
     have hlen2:l.length-t.length=a+pre.length:=by
      have:=congrArg List.length hpre
      simp only [List.length_append,List.length_drop] at this
      omega
     rw [hlen2,← List.drop_drop,hpre,List.drop_left']
     rfl
    rw [this]
    exact e2
   ·simp only [List.length_append,List.length_cons]
    omega
   ·rw [heq]
    have e:PyFlat.told (PyFlat.played CoilNeutral.step st ((x :: zs).map PyWqaqca.whole))=((res.2.length:Int) :: res.2)++PyFlat.told (PyFlat.played CoilNeutral.step res.1 (zs.map PyWqaqca.whole)):=by
     rw [← hst];rfl
    rw [e,List.append_assoc]
end
end
section
theorem zt0 {l:List Int} (h:PyWqaqca.answers_asked l=true):∃ xs,PyFlat.calls PyWqaqca.shape l.length l=some xs∧xs.length≤200∧(∀ x∈xs,CoilNeutral.asked1 (PyWqaqca.whole x)=true)∧PyWqaqca.answers l=PyFlat.told (PyFlat.played CoilNeutral.step CoilNeutral.start (xs.map PyWqaqca.whole)):=by
 cases e:PyFlat.calls PyWqaqca.shape l.length l with
 | none=>
  have:PyWqaqca.answers_asked l=false:=by unfold PyWqaqca.answers_asked PyWqaqca.calls;rw [e]
  rw [this] at h
  cases h
 | some xs=>
  have e2:PyWqaqca.calls l=some (xs.map PyWqaqca.whole):=by unfold PyWqaqca.calls;rw [e]
  have e3:PyWqaqca.answers_asked l=(PyFlat.atMost 200 (xs.map PyWqaqca.whole)&&CoilNeutral.asked (xs.map PyWqaqca.whole)):=by unfold PyWqaqca.answers_asked;rw [e2]
  rw [e3,Bool.and_eq_true] at h
  obtain ⟨h1,h2⟩:=h
  have h1:(xs.map PyWqaqca.whole).length≤200:=of_decide_eq_true h1
  unfold CoilNeutral.asked at h2
  rw [Bool.and_eq_true] at h2
  refine ⟨xs,rfl,by simpa using h1,fun x hx=>?_,by unfold PyWqaqca.answers;rw [e2]⟩
  exact List.all_eq_true.mp h2.2 _ (List.mem_map.mpr ⟨x,hx,rfl⟩)
end
section
theorem strKeys_of {es:Array DictEntry} (h:(es.toList.all fun e=>match e.key with | .str _ _=>true | _=>false)=true):StrKeys es:=fun e he=>by
 have:=List.all_eq_true.mp h e (by simpa using he)
 cases hk:e.key<;>rw [hk] at this<;>first | exact ⟨_,_,rfl⟩ | cases this
open PySem.W in
theorem row_S (K:W.Frag) (H:Hp) (xs:List V) (a:Codec.denoteAll PySem.Challenge.rw_coilticks_s01_answers.args) (hO:zso H) (hwi:Codec.withinAll PySem.Challenge.rw_coilticks_s01_answers.args a=true) (hask:Codec.app PySem.Challenge.rw_coilticks_s01_answers.args PySem.Challenge.rw_coilticks_s01_answers.asked a=true)
  (hx:zh3 K H xs (Codec.encAll PySem.Challenge.rw_coilticks_s01_answers.args a)):spAnswers K xs H (fun v H'=>Dw K H' v (PySem.Challenge.rw_coilticks_s01_answers.ret.enc (Codec.app PySem.Challenge.rw_coilticks_s01_answers.args PySem.Challenge.rw_coilticks_s01_answers.f a))) fun _ _ _=>False:=by
 cases hx with
 | cons h1 h2=>
  cases h2
  cases h1 with
  | lst hs ha=>
   have e:=L2.ints_dw a.1 _ ha
   subst e
   obtain ⟨ys,q1,q2,q3,q4⟩:=zt0 (l:=a.1) hask
   refine ⟨_,a.1,ys,rfl,hs,q1,q2,q3,fun H' p hp=>?_⟩
   have hp':H' p=some (.lst ((PyWqaqca.answers a.1).map V.int)):=by rw [q4];exact hp
   exact .lst (L2.SqL.of hp') (L2.dw_ints _)
section
variable {K:W.Frag} {h:Heap} {mg:Str→Option Value} {x:Str} (X:K.In h) (G:h.Ns mainGlobals mg)
include X G
theorem gi_of {i:Int} {t:Tok} (e:W.nsIn K mainGlobals x=some (some (.int i t))):GI mg x i:=⟨_,W.mg_of X G e⟩
theorem gs_of {y:Str} {t:Tok} (e:W.nsIn K mainGlobals x=some (some (.str y t))):GS mg x y:=⟨_,W.mg_of X G e⟩
theorem gd_of {a:Addr} {n:Nat} {sl:Array (Option Value)} {ys:List Str} {vs:Array Value} (e:W.nsIn K mainGlobals x=some (some (.ref a))) (l:K.lookup a=some ⟨.type "tuple",none, .seq vs n,sl⟩) (z:vs.size≤sizeLine) (v:Vals (ys.map V.str) vs.toList):GTd K mg x ys:=⟨_,W.mg_of X G e, .inr ⟨_,_,_,l,rfl,rfl,z,v⟩,_,l,rfl,rfl⟩
theorem gt_of {a:Addr} {n:Nat} {sl:Array (Option Value)} {ys:List Str} {vs:Array Value} (e:W.nsIn K mainGlobals x=some (some (.ref a))) (l:K.lookup a=some ⟨.type "tuple",none, .seq vs n,sl⟩) (z:vs.size≤sizeLine) (v:Vals (ys.map V.str) vs.toList):GT K mg x ys:=⟨_,W.mg_of X G e, .inr ⟨_,_,_,l,rfl,rfl,z,v⟩⟩
end
end
section
theorem head_mk {P:Program} {w:World} {K:W.Frag} {h:Heap} {mg:Str→Option Value} {fa:Addr} {cC cB cK cW cT cD cR cF nF fI fz:Addr} {nm qn:Str} {bs sub:List Value} {sn:List Str} {ab:Bool} {col:Option Bool} {dd nd od an dz az:Option Addr} {k0 k1 k2 k3 k5:Option Value} {nc kV dc pm cd ct oz kz cz pz ez tz:Value} {es:Array DictEntry} {nx:Nat} {ns sl sz:Array (Option Value)} (X:K.In h) (G:h.Ns mainGlobals mg) (hfa:mg "answers"=some (.ref fa))
  (aCoil:W.nsIn K mainGlobals "Coil"=some (some (.ref cC)))
  (tCoil:zdt K cC)
  (aBoard:W.nsIn K mainGlobals "Board"=some (some (.ref cB)))
  (tBoard:zdz K cB)
  (aKick:W.nsIn K mainGlobals "Kick"=some (some (.ref cK)))
  (tKick:ztw K cK)
  (aWords:W.nsIn K mainGlobals "Words"=some (some (.ref cW)))
  (tWords:zb9 K cW)
  (aTable:W.nsIn K mainGlobals "Table"=some (some (.ref cT)))
  (tTable:zd0 K cT)
  (aDesk:W.nsIn K mainGlobals "Desk"=some (some (.ref cD)))
  (tDesk:zl4 K cD)
  (aReader:W.nsIn K mainGlobals "Reader"=some (some (.ref cR)))
  (tReader:zgf K cR)
  (aF:W.nsIn K mainGlobals "Fault"=some (some (.ref cF)))
  (kF:W.keepIn K (.ref cF)=true)
  (lF:K.lookup cF=some (excClassObj nm qn cF nF bs bmV true sn sub ab col dd k0 k1 k2 k3 k5 "ValueError.__new__"))
  (nn:K.lookup nF=some ⟨nc,nd, .dict es nx,ns⟩)
  (sk:StrKeys es)
  (f0:nsFind es "__init__"=some (.ref fI))
  (f1:nsFind es "kind"=none)
  (f2:nsFind es "place"=none)
  (f3:nsFind es "__setattr__"=none)
  (f4:nsFind es "__getattribute__"=none)
  (f5:nsFind es "__getattr__"=none)
  (lI:K.lookup fI=some ⟨.type "function",od, .func (W.fnOf "__init__" "Fault.__init__" (zfh zbc) (zc0 zbc) (zae zbc) .none kV dc pm an cd ct),sl⟩)
  (cI:W.codeIn K cd "Fault.__init__"=true)
  (kI:W.keepIn K (.ref fI)=true)
  (F_Desk___init__:InK K mg cD "Desk" "Desk.__init__" zcw)
  (F_Reader___init__:InK K mg cR "Reader" "Reader.__init__" zce)
  (F_Reader_more:MtK K cR "more" "Reader.more" zdc)
  (F_Reader_read_number:MtK K cR "read_number" "Reader.read_number" zbm)
  (F_Table___init__:InK K mg cT "Table" "Table.__init__" zcm)
  (F_find_line_end:FnK K mg "find_line_end" zcy)
  (F_is_stray_blank:FnK K mg "is_stray_blank" zcp)
  (F_check_bytes:FnK K mg "check_bytes" zdf)
  (F_Words_more:MtK K cW "more" "Words.more" zdq)
  (F_Words_take:MtK K cW "take" "Words.take" zdr)
  (F_spelled:FnK K mg "spelled" zfx)
  (F_Words_check:MtK K cW "check" "Words.check" zdd)
  (F_take_sort:FnK K mg "take_sort" zef)
  (F_is_letter:FnK K mg "is_letter" zd7)
  (F_is_digit:FnK K mg "is_digit" ze1)
  (F_is_name:FnK K mg "is_name" zfw)
  (F_Words_take_name:MtK K cW "take_name" "Words.take_name" zcg)
  (F_Words_take_fixed:MtK K cW "take_fixed" "Words.take_fixed" zbz)
  (F_is_number:FnK K mg "is_number" zd8)
  (F_number_of:FnK K mg "number_of" zd9)
  (F_Words_take_number:MtK K cW "take_number" "Words.take_number" zbt)
  (F_read_head:FnK K mg "read_head" zeb)
  (F_Words_take_new_name:MtK K cW "take_new_name" "Words.take_new_name" zbj)
  (F_Words_take_place:MtK K cW "take_place" "Words.take_place" zb0)
  (F_read_switch:FnK K mg "read_switch" zdh)
  (F_read_lamp:FnK K mg "read_lamp" zed)
  (F_Coil___init__:InK K mg cC "Coil" "Coil.__init__" zcu)
  (F_read_coil:FnK K mg "read_coil" zea)
  (F_Words_check_known:MtK K cW "check_known" "Words.check_known" zbs)
  (F_Words_take_known_name:MtK K cW "take_known_name" "Words.take_known_name" zbf)
  (F_take_free_coil:FnK K mg "take_free_coil" zcq)
  (F_house_switch:FnK K mg "house_switch" zc6)
  (F_read_switches_held:FnK K mg "read_switches_held" zbn)
  (F_read_device:FnK K mg "read_device" zdg)
  (F_Kick___init__:InK K mg cK "Kick" "Kick.__init__" zcx)
  (F_read_kick:FnK K mg "read_kick" zec)
  (F_Words_check_ended:MtK K cW "check_ended" "Words.check_ended" zbr)
  (F_read_line:FnK K mg "read_line" zee)
  (F_Words___init__:InK K mg cW "Words" "Words.__init__" zcn)
  (F_read_table:FnK K mg "read_table" zds)
  (F_Board___init__:InK K mg cB "Board" "Board.__init__" zci)
  (F_Desk_begin:MtK K cD "begin" "Desk.begin" zdo)
  (F_Reader_read_row:MtK K cR "read_row" "Reader.read_row" zcf)
  (F_are_ticks_right:FnK K mg "are_ticks_right" zch)
  (F_is_order_right:FnK K mg "is_order_right" zco)
  (F_are_orders_right:FnK K mg "are_orders_right" zb2)
  (F_are_events_right:FnK K mg "are_events_right" zb1)
  (F_by_tick:FnK K mg "by_tick" zfv)
  (F_Coil_is_idle:MtK K cC "is_idle" "Coil.is_idle" zc5)
  (F_Coil_ask:MtK K cC "ask" "Coil.ask" zez)
  (F_Coil_begin_rest:MtK K cC "begin_rest" "Coil.begin_rest" zcc)
  (F_Coil_end_pulse:MtK K cC "end_pulse" "Coil.end_pulse" zck)
  (F_Coil_let_go:MtK K cC "let_go" "Coil.let_go" zda)
  (F_Kick_take_event:MtK K cK "take_event" "Kick.take_event" zcd)
  (F_Board_take_event:MtK K cB "take_event" "Board.take_event" zbw)
  (F_Coil_cut_off:MtK K cC "cut_off" "Coil.cut_off" zc4)
  (F_Board_stop_all:MtK K cB "stop_all" "Board.stop_all" zcj)
  (F_Board_set_kicks:MtK K cB "set_kicks" "Board.set_kicks" zcb)
  (F_Board_take_order:MtK K cB "take_order" "Board.take_order" zbx)
  (F_turn_of:FnK K mg "turn_of" zfy)
  (F_Coil_begin_pulse:MtK K cC "begin_pulse" "Coil.begin_pulse" zby)
  (F_Board_begin_waiting:MtK K cB "begin_waiting" "Board.begin_waiting" zbi)
  (F_Coil_pass_tick:MtK K cC "pass_tick" "Coil.pass_tick" zcl)
  (F_Board_pass_tick:MtK K cB "pass_tick" "Board.pass_tick" zca)
  (F_Board_run:MtK K cB "run" "Board.run" zd5)
  (F_Desk_ticks:MtK K cD "ticks" "Desk.ticks" zdp)
  (F_Desk_refuse_place:MtK K cD "refuse_place" "Desk.refuse_place" zbq)
  (F_Desk_soon:MtK K cD "soon" "Desk.soon" zd6)
  (F_Coil_standing:MtK K cC "standing" "Coil.standing" zcv)
  (F_Desk_stands:MtK K cD "stands" "Desk.stands" zdb)
  (F_Desk_now:MtK K cD "now" "Desk.now" ze0)
  (F_answer_call:FnK K mg "answer_call" zde)
  (tG:TG K mg)
  (tL:GTd K mg "LATER_SORTS" ["switch","lamp","coil","device","kick"])
  (aa:W.nsIn K mainGlobals "answers"=some (some (.ref fz)))
  (la:K.lookup fz=some ⟨oz,dz, .func (W.fnOf "answers" "answers" (zfh zc1) (zc0 zc1) (zae zc1) .none kz cz pz az ez tz),sz⟩)
  (ca:W.codeIn K ez "answers"=true)
  (ka:W.keepIn K (.ref fz)=true) :
  ∃ fd:FuncData,(∀ (s:Shared) (us:List Value),us.length=(["calls"]:List Str).length→BindsTo s fd ⟨us,[]⟩ ((["calls"]:List Str).zip us))∧∀ base:Heap,K.In base→base.Ns mainGlobals mg→FnOk P w K mg base CX0 12 fa fd ["calls"] (spAnswers K):=by
 have e:=hfa.symm.trans (W.mg_of X G aa)
 cases e
 have Fn:=fun_mk (st:=zbc) lI cI kI
 have FCF:FC K cF nF fI:=⟨⟨_,_,_,_,_,_,_,_,_,_,_,_,_,lF⟩,_,_,_,_,_,nn,sk,f0,f1,f2,f3,f4,f5⟩
 refine ⟨W.fnOf "answers" "answers" (zfh zc1) (zc0 zc1) (zae zc1) .none kz cz pz az ez tz,fun s us hu=>match us,hu with | [_],_=>.of_eq rfl,fun base hKb hGb=>?_⟩
 have tF:TF P w K mg base cF:=⟨nF,fI,_,_,FCF,zmy tG FCF Fn,Fn.binds zh9,lI,rfl,kF,W.mg_of X G aF⟩
 have i_Desk:Id P w K mg base CX0 cD "Desk" ["self"] 1 (zqz cD):=zjr tG tDesk F_Desk___init__
 have i_Reader:Id P w K mg base CX0 cR "Reader" ["self","calls"] 1 (zq1 K cR):=zhp tG tReader F_Reader___init__
 have m_Reader_more:Md P w K mg base CX0 cR "more" ["self"] 1 (zq2 K cR):=zlf tG tReader F_Reader_more
 have m_Reader_read_number:Md P w K mg base CX0 cR "read_number" ["self"] 1 (zsj K cR):=zfk tG tReader F_Reader_read_number
 have i_Table:Id P w K mg base CX0 cT "Table" ["self"] 1 (zq5 K cT cC cK):=ziu tG tTable F_Table___init__
 have d_find_line_end:Dn P w K mg base (CXF P w cF) "find_line_end" ["text","start"] 3 (zBe cF):=zjt tG tF F_find_line_end
 have d_is_stray_blank:Dn P w K mg base CX0 "is_stray_blank" ["text","start","end","place"] 1 (zq4):=zix tG F_is_stray_blank
 have d_check_bytes:Dn P w K mg base (CXF P w cF) "check_bytes" ["text","start","end"] 3 (zBd cF):=zli tG tF d_is_stray_blank F_check_bytes
 have m_Words_more:Md P w K mg base CX0 cW "more" ["self"] 1 (zjh K cW):=zmz tG tWords F_Words_more
 have m_Words_take:Md P w K mg base (CXF P w cF) cW "take" ["self"] 3 (zji K cW cF):=zm0 tG tWords m_Words_more tF F_Words_take
 have d_spelled:Dn P w K mg base CX0 "spelled" ["word"] 1 (zdw):=zta tG F_spelled
 have m_Words_check:Md P w K mg base (CXF P w cF) cW "check" ["self","right","kind"] 3 (zc8 K cW cF):=zlg tG tWords tF F_Words_check
 have d_take_sort:Dn P w K mg base (CXF P w cF) "take_sort" ["table","words"] 4 (zwk K ⟨cC,cK,cW,cT,cF⟩):=zo4 tG tWords tTable m_Words_take d_spelled m_Words_check tL F_take_sort
 have d_is_letter:Dn P w K mg base CX0 "is_letter" ["byte"] 1 (spB zeg):=zow tG F_is_letter
 have d_is_digit:Dn P w K mg base CX0 "is_digit" ["byte"] 1 (spB zd2):=zql tG F_is_digit
 have d_is_name:Dn P w K mg base CX0 "is_name" ["word"] 2 (zj0 K):=zs9 tG d_is_letter d_is_digit F_is_name
 have m_Words_take_name:Md P w K mg base (CXF P w cF) cW "take_name" ["self"] 4 (zsi K cW cF):=zhr tG tWords m_Words_take m_Words_check d_is_name F_Words_take_name
 have m_Words_take_fixed:Md P w K mg base (CXF P w cF) cW "take_fixed" ["self","word"] 4 (zfq K cW cF):=zgw tG tWords m_Words_check m_Words_take d_spelled F_Words_take_fixed
 have d_is_number:Dn P w K mg base CX0 "is_number" ["word"] 2 (zi9 K):=zox tG d_is_digit F_is_number
 have d_number_of:Dn P w K mg base CX0 "number_of" ["word"] 1 (zja K):=zoy tG F_number_of
 have m_Words_take_number:Md P w K mg base (CXF P w cF) cW "take_number" ["self","least","most"] 4 (zey K cW cF):=zf9 tG tWords m_Words_take m_Words_check d_is_number d_number_of F_Words_take_number
 have d_read_head:Dn P w K mg base (CXF P w cF) "read_head" ["table","words"] 6 (spLn K ⟨cC,cK,cW,cT,cF⟩ (fun _=>True) zmk):=zo0 tG tWords tTable m_Words_take_name m_Words_take_fixed m_Words_take_number F_read_head
 have m_Words_take_new_name:Md P w K mg base (CXF P w cF) cW "take_new_name" ["self","names","barred"] 5 (ztn K cW cF):=zfb tG tWords m_Words_take_name m_Words_check d_spelled F_Words_take_new_name
 have m_Words_take_place:Md P w K mg base (CXF P w cF) cW "take_place" ["self","most","before"] 5 (zkv K cW cF):=zgx tG tWords m_Words_take_number m_Words_check F_Words_take_place
 have d_read_switch:Dn P w K mg base (CXF P w cF) "read_switch" ["table","words"] 6 (spLn K ⟨cC,cK,cW,cT,cF⟩ (fun _=>True) ze2):=zlk tG tWords tTable m_Words_take_new_name m_Words_take_fixed m_Words_take_place m_Words_take_number m_Words_more F_read_switch
 have d_read_lamp:Dn P w K mg base (CXF P w cF) "read_lamp" ["table","words"] 6 (spLn K ⟨cC,cK,cW,cT,cF⟩ (fun _=>True) zmp):=zo2 tG tWords tTable m_Words_take_new_name m_Words_take_fixed m_Words_take_place F_read_lamp
 have i_Coil:Id P w K mg base CX0 cC "Coil" ["self","place","most","rest","hold"] 1 (zfu cC):=zou tG tCoil F_Coil___init__
 have d_read_coil:Dn P w K mg base (CXF P w cF) "read_coil" ["table","words"] 6 (spLn K ⟨cC,cK,cW,cT,cF⟩ (fun _=>True) zmd):=zoz tG tWords tTable m_Words_take_new_name m_Words_take_fixed m_Words_take_place m_Words_take_number m_Words_more i_Coil F_read_coil
 have m_Words_check_known:Md P w K mg base (CXF P w cF) cW "check_known" ["self","word","names"] 4 (zd4 K cW cF):=zf8 tG tWords m_Words_check d_is_name F_Words_check_known
 have m_Words_take_known_name:Md P w K mg base (CXF P w cF) cW "take_known_name" ["self","names"] 5 (znm K cW cF):=zen tG tWords m_Words_take m_Words_check_known F_Words_take_known_name
 have d_take_free_coil:Dn P w K mg base (CXF P w cF) "take_free_coil" ["table","words"] 6 (zsh K ⟨cC,cK,cW,cT,cF⟩):=ziy tG tWords tTable m_Words_take_known_name m_Words_check F_take_free_coil
 have d_house_switch:Dn P w K mg base (CXF P w cF) "house_switch" ["table","words","word"] 5 (zq0 K ⟨cC,cK,cW,cT,cF⟩):=zkk tG tWords tTable m_Words_check_known m_Words_check F_house_switch
 have d_read_switches_held:Dn P w K mg base (CXF P w cF) "read_switches_held" ["table","words"] 6 (zwe K ⟨cC,cK,cW,cT,cF⟩):=zfl tG tWords tTable d_house_switch m_Words_take m_Words_more d_spelled m_Words_check F_read_switches_held
 have d_read_device:Dn P w K mg base (CXF P w cF) "read_device" ["table","words"] 7 (spLn K ⟨cC,cK,cW,cT,cF⟩ (fun T=>T.kicks=[]∧T.devices.length<8) zes):=zlj tG tWords tTable m_Words_take_new_name m_Words_take_fixed d_take_free_coil d_read_switches_held F_read_device
 have i_Kick:Id P w K mg base CX0 cK "Kick" ["self","first","coil","length","second"] 1 (znl cK):=zjs tG tKick F_Kick___init__
 have d_read_kick:Dn P w K mg base (CXF P w cF) "read_kick" ["table","words"] 7 (spLn K ⟨cC,cK,cW,cT,cF⟩ (fun T=>T.kicks.length<8) zp8):=zo1 tG tWords tTable tCoil m_Words_take_known_name m_Words_check d_take_free_coil m_Words_take_fixed m_Words_take_number m_Words_more i_Kick F_read_kick
 have m_Words_check_ended:Md P w K mg base (CXF P w cF) cW "check_ended" ["self"] 3 (znk K cW cF):=zf7 tG tWords m_Words_more tF F_Words_check_ended
 have d_read_line:Dn P w K mg base (CXF P w cF) "read_line" ["table","words"] 8 (zwf K ⟨cC,cK,cW,cT,cF⟩):=zo3 tG tWords d_take_sort d_read_head d_read_switch d_read_lamp d_read_coil d_read_device d_read_kick m_Words_check_ended F_read_line
 have i_Words:Id P w K mg base CX0 cW "Words" ["self","text","start","end"] 1 (zq6 cW):=ziv tG tWords F_Words___init__
 have d_read_table:Dn P w K mg base (CXF P w cF) "read_table" ["text"] 9 (zwi K ⟨cC,cK,cW,cT,cF⟩):=zm1 tG tTable tF i_Table d_find_line_end d_check_bytes d_read_line i_Words F_read_table
 have i_Board:Id P w K mg base CX0 cB "Board" ["self","table","supply"] 1 (zng cB cC cK cT):=ziq tG tBoard tTable tCoil F_Board___init__
 have m_Desk_begin:Md P w K mg base CX0 cD "begin" ["self","text","supply"] 10 (zni cD cB cC cK):=zmw tG tDesk tF d_read_table i_Board F_Desk_begin
 have m_Reader_read_row:Md P w K mg base CX0 cR "read_row" ["self"] 2 (zwh K cR):=zhq tG tReader m_Reader_read_number F_Reader_read_row
 have d_are_ticks_right:Dn P w K mg base CX0 "are_ticks_right" ["row","width","n"] 1 (zno):=zhs tG F_are_ticks_right
 have d_is_order_right:Dn P w K mg base CX0 "is_order_right" ["coils","kind","place","length"] 1 (zBi cC):=ziw tG tCoil F_is_order_right
 have d_are_orders_right:Dn P w K mg base CX0 "are_orders_right" ["orders","n","coils"] 2 (zwg cC):=zgz tG d_are_ticks_right d_is_order_right F_are_orders_right
 have d_are_events_right:Dn P w K mg base CX0 "are_events_right" ["events","n"] 2 (zBf):=zgy tG d_are_ticks_right F_are_events_right
 have d_by_tick:Dn P w K mg base CX0 "by_tick" ["row","width"] 1 (znh):=zs8 tG F_by_tick
 have m_Coil_is_idle:Md P w K mg base CX0 cC "is_idle" ["self"] 1 (spRd cC fun c=>.bl (zge c)):=zkj tG tCoil F_Coil_is_idle
 have m_Coil_ask:Md P w K mg base CX0 cC "ask" ["self","length","tick","kicked","keeper"] 2 (zv9 cC):=zqj tG tCoil m_Coil_is_idle F_Coil_ask
 have m_Coil_begin_rest:Md P w K mg base CX0 cC "begin_rest" ["self"] 1 (spCh cC zem fun _=>.non):=zhn tG tCoil F_Coil_begin_rest
 have m_Coil_end_pulse:Md P w K mg base CX0 cC "end_pulse" ["self"] 2 (spCh cC zc2 fun _=>.non):=zis tG tCoil m_Coil_begin_rest F_Coil_end_pulse
 have m_Coil_let_go:Md P w K mg base CX0 cC "let_go" ["self"] 2 (spCh cC za3 fun _=>.non):=zld tG tCoil m_Coil_begin_rest F_Coil_let_go
 have m_Kick_take_event:Md P w K mg base CX0 cK "take_event" ["self","event","tick"] 3 (zBg cC cK):=zho tG tKick tCoil m_Coil_ask m_Coil_end_pulse m_Coil_let_go F_Kick_take_event
 have m_Board_take_event:Md P w K mg base CX0 cB "take_event" ["self","event"] 4 (zBc cB cC cK):=zgt tG tBoard tKick m_Kick_take_event F_Board_take_event
 have m_Coil_cut_off:Md P w K mg base CX0 cC "cut_off" ["self"] 3 (spCh cC zeh fun _=>.non):=zki tG tCoil m_Coil_begin_rest m_Coil_let_go F_Coil_cut_off
 have m_Board_stop_all:Md P w K mg base CX0 cB "stop_all" ["self"] 4 (zqy cB cC cK):=zir tG tBoard tCoil m_Coil_cut_off F_Board_stop_all
 have m_Board_set_kicks:Md P w K mg base CX0 cB "set_kicks" ["self","kicking"] 3 (zwc cB cC cK):=zhm tG tBoard tCoil tKick m_Coil_let_go F_Board_set_kicks
 have m_Board_take_order:Md P w K mg base CX0 cB "take_order" ["self","kind","place","length"] 5 (zwa cB cC cK):=zgu tG tCoil tBoard m_Coil_ask m_Coil_let_go m_Coil_cut_off m_Board_stop_all m_Board_set_kicks F_Board_take_order
 have d_turn_of:Dn P w K mg base CX0 "turn_of" ["coil"] 1 (zwl cC):=ztb tG tCoil F_turn_of
 have m_Coil_begin_pulse:Md P w K mg base CX0 cC "begin_pulse" ["self"] 1 (spCh cC zdv fun _=>.non):=zgv tG tCoil F_Coil_begin_pulse
 have m_Board_begin_waiting:Md P w K mg base CX0 cB "begin_waiting" ["self"] 4 (znf cB cC cK):=zfa tG tCoil tBoard d_turn_of m_Coil_begin_pulse F_Board_begin_waiting
 have m_Coil_pass_tick:Md P w K mg base CX0 cC "pass_tick" ["self"] 3 (spCh cC zc3 fun c=>.bl (mcOn c)):=zit tG tCoil m_Coil_end_pulse F_Coil_pass_tick
 have m_Board_pass_tick:Md P w K mg base CX0 cB "pass_tick" ["self"] 4 (zqx cB cC cK):=zhl tG tBoard tCoil m_Coil_pass_tick F_Board_pass_tick
 have m_Board_run:Md P w K mg base CX0 cB "run" ["self","n","events","orders"] 6 (zwb cB cC cK):=zot tG tBoard d_by_tick m_Board_take_event m_Board_take_order m_Board_begin_waiting m_Board_pass_tick F_Board_run
 have m_Desk_ticks:Md P w K mg base CX0 cD "ticks" ["self","n","events","orders"] 7 (znj cD cB cC cK):=zmx tG tDesk tBoard d_are_orders_right d_are_events_right m_Board_run F_Desk_ticks
 have m_Desk_refuse_place:Md P w K mg base CX0 cD "refuse_place" ["self","place"] 1 (spRP cD cB cC cK):=zf6 tG tDesk tBoard F_Desk_refuse_place
 have m_Desk_soon:Md P w K mg base CX0 cD "soon" ["self","place"] 2 (zwj cD cB cC cK):=zov tG tDesk tBoard tCoil m_Desk_refuse_place m_Coil_is_idle F_Desk_soon
 have m_Coil_standing:Md P w K mg base CX0 cC "standing" ["self"] 1 (zq3 cC):=zjq tG tCoil F_Coil_standing
 have m_Desk_stands:Md P w K mg base CX0 cD "stands" ["self","place"] 2 (znn cD cB cC cK):=zle tG tDesk tCoil tBoard m_Desk_refuse_place m_Coil_standing F_Desk_stands
 have m_Desk_now:Md P w K mg base CX0 cD "now" ["self"] 1 (zBh cD cB cC cK):=zqk tG tDesk tBoard F_Desk_now
 have d_answer_call:Dn P w K mg base CX0 "answer_call" ["desk","reader"] 11 (zwd K cD cR cB cC cK):=zlh tG tReader tDesk m_Reader_read_number m_Desk_begin m_Reader_read_row m_Desk_ticks m_Desk_soon m_Desk_stands m_Desk_now F_answer_call
 exact zqi tG tReader i_Desk i_Reader m_Reader_more d_answer_call (fun_mk la ca ka)
end
end My
open PySem PySem.W PyProof.Rows
theorem PySem.W.Fast.te13052408679150730464:True:=trivial
theorem PySem.W.Fast.te4110290226886642065:True:=trivial
theorem PySem.W.Fast.te5369427470323729400:True:=trivial
theorem PySem.W.Fast.te5452508617037859911:True:=trivial
local macro_rules | `(tactic| walk_at "kn")=>`(tactic| (show W.findIn _ _ _=_;k_is))
local macro_rules | `(tactic| walk_at "kc")=>`(tactic| (constructor; (· constructor<;>k_is);all_goals walk_at "kn"))
local macro_rules | `(tactic| walk_at "kv")=>`(tactic| repeat (first | exact .nil | refine .cons ⟨_,rfl⟩ ?_))
local macro_rules | `(tactic| walk_at "km")=>`(tactic| (refine' ⟨_,_,L2.fun_mk ?l ?c ?k,⟨?a,?i,?k⟩⟩; (case a=>k_is); (case l=>k_is); (case c=>k_is); (case k=>k_is); (case i=>k_is)))
local macro_rules | `(tactic| walk_at "kf")=>`(tactic| (refine' ⟨_,_,L2.fun_mk ?l ?c ?k,W.mg_of (by assumption) (by assumption) ?a⟩; (case a=>k_is); (case l=>k_is); (case c=>k_is); (case k=>k_is)))
local macro_rules | `(tactic| walk_at "ki")=>`(tactic| (refine' ⟨_,_,L2.fun_mk ?l ?c ?k,⟨?m,?a,?i,?j⟩,W.mg_of (by assumption) (by assumption) ?q⟩; (case a=>k_is); (case l=>k_is); (case c=>k_is); (case k=>k_is); (case i=>k_is); (case m=>k_is); (case j=>k_is); (case q=>k_is)))
set_option maxRecDepth 100000 in
set_option maxHeartbeats 0 in
theorem PySem.Challenge.cw_coilticks_s01_answers_holds : PySem.Challenge.rw_coilticks_s01_answers.Holds := by
 w_on;k_headS; (case hw=>exact ⟨[.list [.int 5]],by decide +kernel,by decide +kernel⟩)
 k_fillS
 refine L2.walk_specK (r:=PySem.Challenge.rw_coilticks_s01_answers) (k:=12) (CX:=L2.CX0) (ps:=["calls"]) (sp:=My.spAnswers) (by decide +kernel) rfl rfl ⟨rfl,by decide,by decide⟩ (fun w h Y=>W.kIn_of Y) ?F My.row_S (fun _ _ _ _ z=>z)
 case F=>
  intro w mg fa h Y KX G hmg
  refine' My.head_mk KX G hmg ?aCoil ?tCoil ?aBoard ?tBoard ?aKick ?tKick ?aWords ?tWords ?aTable ?tTable ?aDesk ?tDesk ?aReader ?tReader ?aF ?kF ?lF ?nn ?sk ?f0 ?f1 ?f2 ?f3 ?f4 ?f5 ?lI ?cI ?kI ?F_Desk___init__ ?F_Reader___init__ ?F_Reader_more ?F_Reader_read_number ?F_Table___init__ ?F_find_line_end ?F_is_stray_blank ?F_check_bytes ?F_Words_more ?F_Words_take ?F_spelled ?F_Words_check ?F_take_sort ?F_is_letter ?F_is_digit ?F_is_name ?F_Words_take_name ?F_Words_take_fixed ?F_is_number ?F_number_of ?F_Words_take_number ?F_read_head ?F_Words_take_new_name ?F_Words_take_place ?F_read_switch ?F_read_lamp ?F_Coil___init__ ?F_read_coil ?F_Words_check_known ?F_Words_take_known_name ?F_take_free_coil ?F_house_switch ?F_read_switches_held ?F_read_device ?F_Kick___init__ ?F_read_kick ?F_Words_check_ended ?F_read_line ?F_Words___init__ ?F_read_table ?F_Board___init__ ?F_Desk_begin ?F_Reader_read_row ?F_are_ticks_right ?F_is_order_right ?F_are_orders_right ?F_are_events_right ?F_by_tick ?F_Coil_is_idle ?F_Coil_ask ?F_Coil_begin_rest ?F_Coil_end_pulse ?F_Coil_let_go ?F_Kick_take_event ?F_Board_take_event ?F_Coil_cut_off ?F_Board_stop_all ?F_Board_set_kicks ?F_Board_take_order ?F_turn_of ?F_Coil_begin_pulse ?F_Board_begin_waiting ?F_Coil_pass_tick ?F_Board_pass_tick ?F_Board_run ?F_Desk_ticks ?F_Desk_refuse_place ?F_Desk_soon ?F_Coil_standing ?F_Desk_stands ?F_Desk_now ?F_answer_call ?tG ?tL ?aa ?la ?ca ?ka
  (case aCoil=>k_is)
  (case tCoil=>walk_at "kc")
  (case aBoard=>k_is)
  (case tBoard=>walk_at "kc")
  (case aKick=>k_is)
  (case tKick=>walk_at "kc")
  (case aWords=>k_is)
  (case tWords=>walk_at "kc")
  (case aTable=>k_is)
  (case tTable=>walk_at "kc")
  (case aDesk=>k_is)
  (case tDesk=>walk_at "kc")
  (case aReader=>k_is)
  (case tReader=>walk_at "kc")
  (case aF=>k_is)
  (case kF=>k_is)
  (case lF=>k_is)
  (case nn=>k_is)
  (case sk=>exact My.strKeys_of rfl)
  (case f0=>rfl)
  (case f1=>rfl)
  (case f2=>rfl)
  (case f3=>rfl)
  (case f4=>rfl)
  (case f5=>rfl)
  (case lI=>k_is)
  (case cI=>k_is)
  (case kI=>k_is)
  (case F_Desk___init__=>walk_at "ki")
  (case F_Reader___init__=>walk_at "ki")
  (case F_Reader_more=>walk_at "km")
  (case F_Reader_read_number=>walk_at "km")
  (case F_Table___init__=>walk_at "ki")
  (case F_find_line_end=>walk_at "kf")
  (case F_is_stray_blank=>walk_at "kf")
  (case F_check_bytes=>walk_at "kf")
  (case F_Words_more=>walk_at "km")
  (case F_Words_take=>walk_at "km")
  (case F_spelled=>walk_at "kf")
  (case F_Words_check=>walk_at "km")
  (case F_take_sort=>walk_at "kf")
  (case F_is_letter=>walk_at "kf")
  (case F_is_digit=>walk_at "kf")
  (case F_is_name=>walk_at "kf")
  (case F_Words_take_name=>walk_at "km")
  (case F_Words_take_fixed=>walk_at "km")
  (case F_is_number=>walk_at "kf")
  (case F_number_of=>walk_at "kf")
  (case F_Words_take_number=>walk_at "km")
  (case F_read_head=>walk_at "kf")
  (case F_Words_take_new_name=>walk_at "km")
  (case F_Words_take_place=>walk_at "km")
  (case F_read_switch=>walk_at "kf")
  (case F_read_lamp=>walk_at "kf")
  (case F_Coil___init__=>walk_at "ki")
  (case F_read_coil=>walk_at "kf")
  (case F_Words_check_known=>walk_at "km")
  (case F_Words_take_known_name=>walk_at "km")
  (case F_take_free_coil=>walk_at "kf")
  (case F_house_switch=>walk_at "kf")
  (case F_read_switches_held=>walk_at "kf")
  (case F_read_device=>walk_at "kf")
  (case F_Kick___init__=>walk_at "ki")
  (case F_read_kick=>walk_at "kf")
  (case F_Words_check_ended=>walk_at "km")
  (case F_read_line=>walk_at "kf")
  (case F_Words___init__=>walk_at "ki")
  (case F_read_table=>walk_at "kf")
  (case F_Board___init__=>walk_at "ki")
  (case F_Desk_begin=>walk_at "km")
  (case F_Reader_read_row=>walk_at "km")
  (case F_are_ticks_right=>walk_at "kf")
  (case F_is_order_right=>walk_at "kf")
  (case F_are_orders_right=>walk_at "kf")
  (case F_are_events_right=>walk_at "kf")
  (case F_by_tick=>walk_at "kf")
  (case F_Coil_is_idle=>walk_at "km")
  (case F_Coil_ask=>walk_at "km")
  (case F_Coil_begin_rest=>walk_at "km")
  (case F_Coil_end_pulse=>walk_at "km")
  (case F_Coil_let_go=>walk_at "km")
  (case F_Kick_take_event=>walk_at "km")
  (case F_Board_take_event=>walk_at "km")
  (case F_Coil_cut_off=>walk_at "km")
  (case F_Board_stop_all=>walk_at "km")
  (case F_Board_set_kicks=>walk_at "km")
  (case F_Board_take_order=>walk_at "km")
  (case F_turn_of=>walk_at "kf")
  (case F_Coil_begin_pulse=>walk_at "km")
  (case F_Board_begin_waiting=>walk_at "km")
  (case F_Coil_pass_tick=>walk_at "km")
  (case F_Board_pass_tick=>walk_at "km")
  (case F_Board_run=>walk_at "km")
  (case F_Desk_ticks=>walk_at "km")
  (case F_Desk_refuse_place=>walk_at "km")
  (case F_Desk_soon=>walk_at "km")
  (case F_Coil_standing=>walk_at "km")
  (case F_Desk_stands=>walk_at "km")
  (case F_Desk_now=>walk_at "km")
  (case F_answer_call=>walk_at "kf")
  (case tG=>constructor;all_goals first | (refine' My.gi_of KX G ?qi; (case qi=>k_is)) | (refine' W.mg_none_of KX G ?qi; (case qi=>k_is)) | (refine' My.gs_of KX G ?qi; (case qi=>k_is)) | (refine' My.gt_of KX G ?qe ?ql ?qz ?qv; (case qe=>k_is); (case ql=>k_is); (case qz=>decide); (case qv=>walk_at "kv")))
  (case tL=>(refine' My.gd_of KX G ?qe ?ql ?qz ?qv; (case qe=>k_is); (case ql=>k_is); (case qz=>decide); (case qv=>walk_at "kv")))
  (case aa=>k_is)
  (case la=>k_is)
  (case ca=>k_is)
  (case ka=>k_is)

