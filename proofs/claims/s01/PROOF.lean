import PyProof.Rows.All
import Wide.All
import OpenK.AllK
import Wide.FinOn
import PyProof.EqAt
import PyProof.EqKinds
import PyProof.TupleCall
import KE.BitLaws
import KE.KSortKeySt
import KE.KLam
import PyProof.ListRange
import PyProof.RulesAs
import PyProof.RaisesMany
import PyProof.ExcInit
import PyProof.ExcArgsOwn
import PyProof.InstStore
import PyProof.ExcBaseAll.Exception
import PyProof.ExcAttrAll.Exception
import PyProof.InstStoreFacts
import PyProof.AutoIntG2
import PyProof.FactsAll.int
import KE.OsGo
import Open.SpecLaws
import PySem.Challenge.RW_goingon_s01_answers
set_option Elab.async false
set_option linter.all false
set_option maxRecDepth 100000
set_option maxHeartbeats 8000000
namespace Go
inductive Form:List Int->List (List Int)->Prop
 | begin_ (s:List Int):Form (11 :: (s.length:Int) :: s) [[11,(s.length:Int)],s]
 | feed (s:List Int):Form (12 :: (s.length:Int) :: s) [[12,(s.length:Int)],s]
 | forget (k:Int):Form [13,k] [[13,k]]
 | tell:Form [14] [[14]]
 | next (m s:Int):Form [15,m,s] [[15,m,s]]
 | goes (m s k:Int):Form [16,m,s,k] [[16,m,s,k]]
theorem row_form {r x t:List Int} (h:PyFlat.row r=some (x,t)):r=(x.length:Int) :: (x ++ t):=by
 cases r with
 | nil=>cases h
 | cons n r=>
  have h:(if 0<=n/\n.toNat<=r.length then some (r.take n.toNat,r.drop n.toNat) else none)=some (x,t):=h
  by_cases hc:0<=n/\n.toNat<=r.length
  ·rw [if_pos hc] at h
   have h:=Option.some.inj h
   injection h with h1 h2
   subst h1 h2
   rw [List.length_take,List.take_append_drop,Nat.min_eq_left hc.2]
   congr 1
   omega
  ·rw [if_neg hc] at h
   cases h
theorem call_form {r t:List Int} {c:List (List Int)} (h:PyFlat.call PyQl89.shape r=some (c,t)):∃pre,r=pre ++ t/\Form pre (PyQl89.whole c):=by
 cases r with
 | nil=>cases h
 | cons p r=>
  unfold PyFlat.call at h
  have rowcase:∀q:Int,PyQl89.shape q=some (0,1)->(match PyQl89.shape q with
    | none=>(none:Option (List (List Int)×List Int))
    | some (n,k)=>if r.length < n then none else match PyFlat.rows k (r.drop n) with
     | none=>none
     | some (xs,t)=>some ((q :: r.take n) :: xs,t))=some (c,t)->∃x,c=[[q],x]/\r=(x.length:Int) :: (x ++ t):=by
   intro q hq h
   rw [hq] at h
   simp only [Nat.not_lt_zero,if_false,List.drop_zero,List.take_zero] at h
   unfold PyFlat.rows at h
   cases hr:PyFlat.row r with
   | none=>rw [hr] at h;cases h
   | some y=>
    obtain ⟨x,s⟩:=y
    rw [hr] at h
    simp only [PyFlat.rows] at h
    have h:=Option.some.inj h
    injection h with h1 h2
    subst h1 h2
    exact ⟨x,rfl,row_form hr⟩
  have numcase:∀(q:Int) (n:Nat),PyQl89.shape q=some (n,0)->(match PyQl89.shape q with
    | none=>(none:Option (List (List Int)×List Int))
    | some (n,k)=>if r.length < n then none else match PyFlat.rows k (r.drop n) with
     | none=>none
     | some (xs,t)=>some ((q :: r.take n) :: xs,t))=some (c,t)->n<=r.length/\c=[q :: r.take n]/\t=r.drop n:=by
   intro q n hq h
   rw [hq] at h
   simp only at h
   split at h
   ·cases h
   ·rename_i hl
    simp only [PyFlat.rows] at h
    have h:=Option.some.inj h
    injection h with h1 h2
    exact ⟨by omega,h1.symm,h2.symm⟩
  by_cases h11:p=11
  ·subst h11
   obtain ⟨x,rfl,e⟩:=rowcase 11 rfl h
   exact ⟨11 :: (x.length:Int) :: x,by rw [e];rfl,.begin_ x⟩
  by_cases h12:p=12
  ·subst h12
   obtain ⟨x,rfl,e⟩:=rowcase 12 rfl h
   exact ⟨12 :: (x.length:Int) :: x,by rw [e];rfl,.feed x⟩
  by_cases h13:p=13
  ·subst h13
   obtain ⟨hl,rfl,rfl⟩:=numcase 13 1 rfl h
   match r,hl with
   | a :: r,_=>exact ⟨[13,a],rfl,.forget a⟩
  by_cases h14:p=14
  ·subst h14
   obtain ⟨hl,rfl,rfl⟩:=numcase 14 0 rfl h
   exact ⟨[14],rfl,.tell⟩
  by_cases h15:p=15
  ·subst h15
   obtain ⟨hl,rfl,rfl⟩:=numcase 15 2 rfl h
   match r,hl with
   | a :: b :: r,_=>exact ⟨[15,a,b],rfl,.next a b⟩
  by_cases h16:p=16
  ·subst h16
   obtain ⟨hl,rfl,rfl⟩:=numcase 16 3 rfl h
   match r,hl with
   | a :: b :: e :: r,_=>exact ⟨[16,a,b,e],rfl,.goes a b e⟩
  have hn:PyQl89.shape p=none:=by unfold PyQl89.shape;rw [if_neg h11,if_neg h12,if_neg h13,if_neg h14,if_neg h15,if_neg h16]
  dsimp only at h
  rw [hn] at h
  cases h
theorem form_len {pre:List Int} {c:List (List Int)} (h:Form pre c):0 < pre.length:=by cases h <;> simp
structure Rest (l:List Int) (i:Nat) (st:Ql89.Abs) (done:List Int) (j:Nat) (cs:List (List (List Int))):Prop where
 le:i<=l.length
 parse:∃f,PyFlat.calls PyQl89.shape f (l.drop i)=some cs
 asked:∀c∈cs,Ql89Neutral.asked1 (PyQl89.whole c)=true
 runs:Ql89Neutral.runs st (cs.map PyQl89.whole)=true
 many:j + cs.length<=200
 ans:PyQl89.answers l=done ++ PyFlat.told (PyFlat.played Ql89Neutral.step st (cs.map PyQl89.whole))
theorem rest_start {l:List Int} (h:PyQl89.answers_asked l=true):∃cs,Rest l 0 none [] 0 cs:=by
 unfold PyQl89.answers_asked PyQl89.calls at h
 cases hc:PyFlat.calls PyQl89.shape l.length l with
 | none=>rw [hc] at h;cases h
 | some cs=>
  rw [hc] at h
  simp only at h
  rw [Bool.and_eq_true] at h
  obtain ⟨_,h⟩:=h
  unfold Ql89Neutral.asked at h
  rw [Bool.and_eq_true,Bool.and_eq_true,Bool.and_eq_true,Bool.and_eq_true] at h
  obtain ⟨h1,_,h2,_,h3⟩:=h
  refine ⟨cs,Nat.zero_le _,⟨l.length,by rw [List.drop_zero];exact hc⟩,fun c hcm=>?_,h3,?_,?_⟩
  ·exact List.all_eq_true.mp h1 _ (List.mem_map_of_mem hcm)
  ·have:=of_decide_eq_true h2
   rw [List.length_map] at this
   omega
  ·unfold PyQl89.answers PyQl89.calls
   rw [hc]
   rfl
theorem rest_end {l:List Int} {st:Ql89.Abs} {done:List Int} {j:Nat} {cs:List (List (List Int))} {i:Nat} (h:Rest l i st done j cs) (hi:l.length<=i):PyQl89.answers l=done:=by
 obtain ⟨f,hf⟩:=h.parse
 rw [List.drop_of_length_le hi] at hf
 have:cs=[]:=by
  cases f <;> (unfold PyFlat.calls at hf;exact (Option.some.inj hf).symm)
 subst this
 rw [h.ans]
 show done ++ []=done
 rw [List.append_nil]
theorem rest_step {l:List Int} {st:Ql89.Abs} {done:List Int} {j:Nat} {cs:List (List (List Int))} {i:Nat} (h:Rest l i st done j cs) (hi:i < l.length):∃pre c cs' t,l.drop i=pre ++ t/\Form pre c/\Ql89Neutral.asked1 c=true/\(∃r,(Ql89Neutral.callOf c).bind (Ql89.act st)=some r)/\j + 1<=200/\
  Rest l (i + pre.length) (Ql89Neutral.step st c).1 (done ++ (((Ql89Neutral.step st c).2.length:Int) :: (Ql89Neutral.step st c).2)) (j + 1) cs':=by
 obtain ⟨f,hf⟩:=h.parse
 obtain ⟨p,r,hd⟩:∃p r,l.drop i=p :: r:=by
  cases e:l.drop i with
  | nil=>
   have:=congrArg List.length e
   rw [List.length_drop] at this
   simp at this
   omega
  | cons p r=>exact ⟨p,r,rfl⟩
 cases f with
 | zero=>rw [hd] at hf;unfold PyFlat.calls at hf;cases hf
 | succ f=>
  rw [hd] at hf
  unfold PyFlat.calls at hf
  cases hc:PyFlat.call PyQl89.shape (p :: r) with
  | none=>rw [hc] at hf;cases hf
  | some y=>
   obtain ⟨c0,t⟩:=y
   rw [hc] at hf
   simp only at hf
   cases hcs:PyFlat.calls PyQl89.shape f t with
   | none=>rw [hcs] at hf;cases hf
   | some cs'=>
    rw [hcs] at hf
    have hf:=Option.some.inj hf
    subst hf
    obtain ⟨pre,hpre,hform⟩:=call_form hc
    have hdr:l.drop (i + pre.length)=t:=by
     rw [<-List.drop_drop,hd,hpre,List.drop_left]
    have hlen:pre.length<=l.length - i:=by
     have:=congrArg List.length (hd.trans hpre)
     rw [List.length_drop,List.length_append] at this
     omega
    have hruns:=h.runs
    have hask:=h.asked c0 List.mem_cons_self
    have hr:∃r,(Ql89Neutral.callOf (PyQl89.whole c0)).bind (Ql89.act st)=some r/\Ql89Neutral.runs r.2 (cs'.map PyQl89.whole)=true:=by
     rw [List.map_cons] at hruns
     unfold Ql89Neutral.runs at hruns
     cases e:(Ql89Neutral.callOf (PyQl89.whole c0)).bind (Ql89.act st) with
     | none=>rw [e] at hruns;cases hruns
     | some r=>rw [e] at hruns;exact ⟨r,rfl,hruns⟩
    obtain ⟨r',hr1,hr2⟩:=hr
    have hst:(Ql89Neutral.step st (PyQl89.whole c0)).1=r'.2:=by unfold Ql89Neutral.step;rw [hr1]
    refine ⟨pre,PyQl89.whole c0,cs',t,hd.trans hpre,hform,hask,⟨r',hr1⟩,by have:=h.many;rw [List.length_cons] at this;omega,by have:=h.le;omega,⟨f,by rw [hdr];exact hcs⟩,fun c hcm=>h.asked c (List.mem_cons_of_mem _ hcm),by rw [hst];exact hr2,by have:=h.many;rw [List.length_cons] at this;omega,?_⟩
    rw [h.ans,List.append_assoc]
    rfl
end Go
namespace L2
open PySem PySem.Spec PyProof.Rows
abbrev Key:=Sum Int Str
def keyIs:Key->Value->Bool
 | .inl k,v=>Value.isInt k v
 | .inr x,v=>Value.isStrOf x v
def keyH (w:World):Key->Int
 | .inl k=>hashInt k
 | .inr x=>hashStr w x
theorem keyIs_shape:∀{k:Key} {v:Value},keyIs k v=true->(∃i t,k=Sum.inl i/\v=Value.int i t)\/(∃x t,k=Sum.inr x/\v=Value.str x t)
 | .inl i,v,h=>by
  obtain ⟨t,e⟩:=Value.isInt_shape (k:=i) (v:=v) h
  exact .inl ⟨i,t,rfl,e⟩
 | .inr x,v,h=>by
  obtain ⟨t,e⟩:=Value.isStrOf_shape (x:=x) (v:=v) h
  exact .inr ⟨x,t,rfl,e⟩
theorem key_ll (a b:Int):decide ((Sum.inl a:Key)=Sum.inl b)=(a == b):=by
 by_cases e:a=b
 ·subst e;simp
 ·have h:¬(Sum.inl a:Key)=Sum.inl b:=fun q=>e (Sum.inl.inj q)
  rw [decide_eq_false h]
  exact (beq_eq_false_iff_ne.mpr e).symm
theorem key_rr (a b:Str):decide ((Sum.inr a:Key)=Sum.inr b)=decide (a=b):=by
 by_cases e:a=b
 ·subst e;simp
 ·have h:¬(Sum.inr a:Key)=Sum.inr b:=fun q=>e (Sum.inr.inj q)
  rw [decide_eq_false h,decide_eq_false e]
theorem key_lr (a:Int) (b:Str):decide ((Sum.inl a:Key)=Sum.inr b)=false:=decide_eq_false (fun q=>nomatch q)
theorem key_rl (a:Str) (b:Int):decide ((Sum.inr a:Key)=Sum.inl b)=false:=decide_eq_false (fun q=>nomatch q)
def mixKind (prog:Program) (w:World):PySem.KeyKind prog w Key where
 is:=keyIs
 hash:=keyH w
 inj:=fun v a b ha hb=>by
  rcases keyIs_shape ha with ⟨i,t,rfl,rfl⟩ | ⟨x,t,rfl,rfl⟩
  ·rcases keyIs_shape hb with ⟨j,u,rfl,e⟩ | ⟨y,u,rfl,e⟩
   ·injection e with e1 _;rw [e1]
   ·exact nomatch e
  ·rcases keyIs_shape hb with ⟨j,u,rfl,e⟩ | ⟨y,u,rfl,e⟩
   ·exact nomatch e
   ·injection e with e1 _;rw [e1]
 byValue:=fun k v h=>by
  rcases keyIs_shape h with ⟨i,t,rfl,rfl⟩ | ⟨x,t,rfl,rfl⟩ <;> rfl
 pyHash:=fun hv h=>by
  rcases keyIs_shape hv with ⟨i,t,rfl,rfl⟩ | ⟨x,t,rfl,rfl⟩
  ·exact wpAny_pyHash_int h
  ·exact wpAny_pyHash_str h
 eqBool:=fun hu hv h=>by
  rcases keyIs_shape hu with ⟨i,t,rfl,rfl⟩ | ⟨x,t,rfl,rfl⟩
  ·rcases keyIs_shape hv with ⟨j,u,rfl,rfl⟩ | ⟨y,u,rfl,rfl⟩
   ·rw [key_ll] at h;exact wpAny_eqBool_int h
   ·rw [key_lr] at h;exact SeqAt.EqAt.int_str i t y u _ _ _ _ h
  ·rcases keyIs_shape hv with ⟨j,u,rfl,rfl⟩ | ⟨y,u,rfl,rfl⟩
   ·rw [key_rl] at h;exact SeqAt.EqAt.str_int x t j u _ _ _ _ h
   ·rw [key_rr] at h;exact wpAny_eqBool_str h
 «strs»:=fun k x t v h=>by
  rcases keyIs_shape h with ⟨i,u,rfl,e⟩ | ⟨y,u,rfl,e⟩
  ·exact nomatch e
  ·injection e with e1 _
   subst e1
   cases v <;> rfl
end L2
namespace L2
open PySem PySem.Spec PyProof.Rows
inductive V where
 | non | bl (b:Bool) | int (i:Int) | str (x:Str) | byt (b:Array UInt8) | flt (b:UInt64) | ref (a:Addr) | ty (n:String)
 deriving DecidableEq
def RelV:V->Value->Prop
 | .non,u=>u=Value.none
 | .bl b,u=>u=Value.bool b
 | .int i,u=>∃t,u=Value.int i t
 | .str x,u=>∃t,u=Value.str x t
 | .byt b,u=>∃t,u=Value.bytes b t
 | .flt b,u=>∃t,u=Value.float b t
 | .ref a,u=>u=Value.ref a
 | .ty n,u=>u=Value.type n
abbrev Vals:List V->List Value->Prop:=Paired RelV
theorem Vals.length {xs:List V} {us:List Value} (r:Vals xs us):xs.length=us.length:=Paired.length r
theorem Vals.get:∀{xs:List V} {us:List Value} {i:Nat} {x:V},Vals xs us->xs[i]? = some x->∃u,us[i]? = some u/\RelV x u
 | _,_,_,_,.nil,e=>by simp at e
 | _,_,0,_,.cons r _,e=>by simp at e;subst e;exact ⟨_,rfl,r⟩
 | _,_,i + 1,x,.cons _ t,e=>by
  obtain ⟨u,h1,h2⟩:=Vals.get (i:=i) (x:=x) t (by simpa using e)
  exact ⟨u,by simpa using h1,h2⟩
theorem Vals.set {x:V} {u:Value} (r:RelV x u):∀{xs:List V} {us:List Value} (i:Nat),Vals xs us->Vals (xs.set i x) (us.set i u)
 | _,_,_,.nil=>.nil
 | _,_,0,.cons _ t=>.cons r t
 | _,_,i + 1,.cons q t=>.cons q (Vals.set r i t)
theorem Vals.append:∀{xs ys:List V} {us ws:List Value},Vals xs us->Vals ys ws->Vals (xs ++ ys) (us ++ ws)
 | _,_,_,_,.nil,s=>s
 | _,_,_,_,.cons r t,s=>.cons r (Vals.append t s)
theorem Vals.take:∀{xs:List V} {us:List Value} (n:Nat),Vals xs us->Vals (xs.take n) (us.take n)
 | _,_,0,_=>.nil
 | _,_,_ + 1,.nil=>.nil
 | _,_,n + 1,.cons r t=>.cons r (Vals.take n t)
theorem Vals.drop:∀{xs:List V} {us:List Value} (n:Nat),Vals xs us->Vals (xs.drop n) (us.drop n)
 | _,_,0,r=>r
 | _,_,_ + 1,.nil=>.nil
 | _,_,n + 1,.cons _ t=>Vals.drop n t
def RelO:Option V->Option Value->Prop
 | some v,some u=>RelV v u
 | none,none=>True
 | _,_=>False
def KV {κ:Type}:List (κ×V)->List (κ×Value)->Prop:=Paired fun (p:κ×V) (q:κ×Value)=>p.1=q.1/\RelV p.2 q.2
def kV:Key->V
 | .inl i=>.int i
 | .inr x=>.str x
inductive HO where
 /-- a list -/
 | lst (xs:List V)
 /-- a tuple (never changes) -/
 | tup (xs:List V)
 /-- a dict whose keys are ints and texts;one whose keys are tuples of ints and texts (the empty one is both) -/
 | dK (kvs:List (Key×V)) | dT (kvs:List (List Key×V))
 /-- a set of ints: its members,its size -/
 | set (S:Int->Bool) (n:Nat)
 /-- an instance of the class at C,its dict at dx,its attributes -/
 | ins (C dx:Addr) (fs:List (Str×V))
 /-- the dict of the instance at x -/
 | own (x:Addr)
 /-- the dict of an exception -/
 | xd (fs:List (Str×V))
 /-- a bound method,f of x -/
 | met (f x:Addr)
 /-- a range object lo,lo + 1,.. below hi -/
 | rng (lo hi:Int)
 /-- a thing that is known to the object (the script;a dict while a loop walks it): read,never written while it is so -/
 | frz (o:Obj) (u:HO)
 /-- a code object's table -/
 | tbl (ps:Array Value)
 /-- any other thing,by what is true of its one object (a def of one's own: SetO a S n:=HO.ext fun h=>..) -/
 | ext (φ:Heap->Prop)
abbrev Hp:=Addr->Option HO
def upd (H:Hp) (a:Addr) (o:HO):Hp:=fun b=>if b=a then some o else H b
theorem upd_same {H:Hp} {a:Addr} {o:HO}:upd H a o a=some o:=by unfold upd;rw [if_pos rfl]
theorem upd_ne {H:Hp} {a b:Addr} {o:HO} (h:b≠a):upd H a o b=H b:=by unfold upd;rw [if_neg h]
theorem upd_upd {H:Hp} {a:Addr} {o u:HO}:upd (upd H a o) a u=upd H a u:=by
 funext b;unfold upd;split <;> rfl
theorem ne_of {H:Hp} {a b:Addr} {o u:HO} (h:H a=some o) (h':H b=some u) (d:o≠u):a≠b:=by
 intro e;subst e;rw [h] at h';exact d (Option.some.inj h')
theorem ne_of_none {H:Hp} {a b:Addr} {o:HO} (h:H a=some o) (h':H b=none):a≠b:=by
 intro e;subst e;rw [h] at h';cases h'
section
variable (P:Program) (w:World)
def ObjOk (H:Hp) (h:Heap) (a:Addr):HO->Prop
 | .lst xs=>xs.length<=sizeLine/\∃(its:List Value) (n:Nat),Vals xs its/\h.get? a=some {cls:=.type "list",data:=.seq its.toArray n}
 | .tup xs=>xs.length<=sizeLine/\∃its:List Value,Vals xs its/\IsTup h a its.toArray
 | .dK kvs=>kvs.length<=sizeLine/\(a == sysModules)=false/\∃vs,KV kvs vs/\h.DictOf (mixKind P w) a vs
 | .dT kvs=>kvs.length<=sizeLine/\(a == sysModules)=false/\∃xs:List (List Key×Addr×Value),
   Paired (fun (p:List Key×V) (q:List Key×Addr×Value)=>p.1=q.1/\H q.2.1=some (.tup (p.1.map kV))/\RelV p.2 q.2.2) kvs xs/\
   ∃o es ep,h.get? a=some o/\o.ExactDict/\o.data=.dict es ep/\es.toList=xs.map (entryOfKey (tupleKind (mixKind P w)))/\(xs.map (·.1)).Nodup
 | .set S n=>h.SetOf (intKind P w) a S n
 | .ins C dx fs=>H dx=some (.own a)/\fs.length<=1000/\dx≠a/\h.get? a=some (PySem.W.instObj C dx)/\
   ∃mA,h.Ns1 dx mA/\(∀f,RelO (fs.lookup f) (mA f))/\PySem.Within mA (fs.map (·.1))
 | .own _=>∃o,h.get? a=some o
 | .xd fs=>∃mA,h.Ns1 a mA/\(∀f,RelO (fs.lookup f) (mA f))/\PySem.Within mA (fs.map (·.1))
 | .rng lo hi=>∃t u v,h.get? a=some {cls:=.type "range",data:=.fields #[.int lo t,.int hi u,.int 1 v]}
 | .frz o u=>h.get? a=some o/\ObjOk H h a u
 | .tbl ps=>h.get? a=some {cls:=.none,data:=.fields ps}
 | .met f x=>h.get? a=some (PySem.W.methodObj (.ref f) (.ref x))
 | .ext φ=>φ h/\(∃o,h.get? a=some o)/\∀h1 h2:Heap,φ h1->(∀o,h1.get? a=some o->h2.get? a=some o)->φ h2
def HOk (H:Hp) (h:Heap):Prop:=∀a o,H a=some o->ObjOk P w H h a o
end
section
variable {P:Program} {w:World} {H H':Hp} {h h':Heap} {a:Addr} {o:HO}
theorem ObjOk.lt (x:ObjOk P w H h a o):a < h.objs.size:=by
 cases o with
 | lst xs=>obtain ⟨_,_,_,_,e⟩:=x;exact Heap.lt_size e
 | tup xs=>obtain ⟨_,_,_,p⟩:=x;exact p.lt
 | dK kvs=>obtain ⟨_,_,_,_,o,_,_,e,_⟩:=x;exact Heap.lt_size e
 | dT kvs=>obtain ⟨_,_,_,_,o,_,_,e,_⟩:=x;exact Heap.lt_size e
 | set S n=>obtain ⟨o,_,_,_,e,_⟩:=x;exact Heap.lt_size e
 | ins C dx fs=>obtain ⟨_,_,_,e,_⟩:=x;exact Heap.lt_size e
 | own y=>obtain ⟨_,e⟩:=x;exact Heap.lt_size e
 | xd fs=>obtain ⟨_,⟨_,_,_,e,_⟩,_⟩:=x;exact Heap.lt_size e
 | rng lo hi=>obtain ⟨_,_,_,e⟩:=x;exact Heap.lt_size e
 | frz ob u=>obtain ⟨e,_⟩:=x;exact Heap.lt_size e
 | tbl ps=>exact Heap.lt_size (show h.get? a=some _ from x)
 | met f y=>exact Heap.lt_size (show h.get? a=some _ from x)
 | ext φ=>obtain ⟨_,⟨_,e⟩,_⟩:=x;exact Heap.lt_size e
theorem Paired.mapP {α β:Type} {F G:α->β->Prop}:∀{l₁:List α} {l₂:List β},Paired F l₁ l₂->(∀a b,F a b->G a b)->Paired G l₁ l₂
 | _,_,.nil,_=>.nil
 | _,_,.cons r t,f=>.cons (f _ _ r) (Paired.mapP t f)
theorem ObjOk.stay (x:ObjOk P w H h a o) (k:∀b u,(b=a\/H b=some (.own a))->h.get? b=some u->h'.get? b=some u)
  (ho:∀b,H b=some (.own a)->H' b=some (.own a)) (ht:∀b xs,H b=some (.tup xs)->H' b=some (.tup xs)):ObjOk P w H' h' a o:=by
 induction o with
 | lst xs=>obtain ⟨z,its,n,r,e⟩:=x;exact ⟨z,its,n,r,k _ _ (.inl rfl) e⟩
 | tup xs=>obtain ⟨z,its,r,ob,e,c⟩:=x;exact ⟨z,its,r,ob,k _ _ (.inl rfl) e,c⟩
 | dK kvs=>obtain ⟨z,y,vs,r,ob,es,ep,e,c⟩:=x;exact ⟨z,y,vs,r,ob,es,ep,k _ _ (.inl rfl) e,c⟩
 | dT kvs=>
  obtain ⟨z,y,xs,r,ob,es,ep,e,c⟩:=x
  exact ⟨z,y,xs,Paired.mapP r fun p q z=>⟨z.1,ht _ _ z.2.1,z.2.2⟩,ob,es,ep,k _ _ (.inl rfl) e,c⟩
 | set S n=>obtain ⟨ob,es,ep,t,e,c⟩:=x;exact ⟨ob,es,ep,t,k _ _ (.inl rfl) e,c⟩
 | ins C dx fs=>
  obtain ⟨d,z,ne,e,mA,⟨od,es,ep,e2,c⟩,r⟩:=x
  exact ⟨ho _ d,z,ne,k _ _ (.inl rfl) e,mA,⟨od,es,ep,k _ _ (.inr d) e2,c⟩,r⟩
 | own y=>obtain ⟨ob,e⟩:=x;exact ⟨ob,k _ _ (.inl rfl) e⟩
 | xd fs=>obtain ⟨mA,⟨od,es,ep,e,c⟩,r⟩:=x;exact ⟨mA,⟨od,es,ep,k _ _ (.inl rfl) e,c⟩,r⟩
 | rng lo hi=>obtain ⟨t,u,v,e⟩:=x;exact ⟨t,u,v,k _ _ (.inl rfl) e⟩
 | frz ob u ih=>obtain ⟨e,q⟩:=x;exact ⟨k _ _ (.inl rfl) e,ih q⟩
 | tbl ps=>
  have e:h.get? a=some {cls:=.none,data:=.fields ps}:=x
  show h'.get? a=some {cls:=.none,data:=.fields ps}
  exact k a _ (.inl rfl) e
 | met f y=>
  have e:h.get? a=some (PySem.W.methodObj (.ref f) (.ref y)):=x
  show h'.get? a=some (PySem.W.methodObj (.ref f) (.ref y))
  exact k a _ (.inl rfl) e
 | ext φ=>obtain ⟨p,⟨o,e⟩,st⟩:=x;exact ⟨st _ _ p fun o q=>k _ _ (.inl rfl) q,⟨o,k _ _ (.inl rfl) e⟩,st⟩
theorem HOk.lt (x:HOk P w H h) (e:H a=some o):a < h.objs.size:=(x a o e).lt
theorem HOk.fresh (x:HOk P w H h) (e:h.objs.size<=a):H a=none:=by
 cases q:H a with
 | none=>rfl
 | some u=>exact absurd (Nat.lt_of_lt_of_le (x.lt q) e) (Nat.lt_irrefl _)
theorem HOk.kept (x:HOk P w H h) (k:∀b u,h.get? b=some u->h'.get? b=some u):HOk P w H h':=fun a o e=>
 (x a o e).stay (fun b u _ q=>k b u q) (fun _ q=>q) fun _ _ q=>q
theorem HOk.laid (x:HOk P w H h) (k:∀b u,h.get? b=some u->h'.get? b=some u) (hp:h.objs.size<=a) (new:ObjOk P w (upd H a o) h' a o):HOk P w (upd H a o) h':=fun b u e=>by
 have hn:=x.fresh hp
 by_cases hb:b=a
 ·subst hb;rw [upd_same] at e;cases e;exact new
 ·rw [upd_ne hb] at e
  exact (x b u e).stay (fun c v _ q=>k c v q) (fun c q=>by rw [upd_ne (ne_of_none q hn)];exact q) fun c xs q=>by rw [upd_ne (ne_of_none q hn)];exact q
end
def Rd (H:Hp) (a:Addr) (u:HO):Prop:=H a=some u\/∃o,H a=some (.frz o u)
theorem Rd.ok {P:Program} {w:World} {H:Hp} {h:Heap} {a:Addr} {u:HO} (r:Rd H a u) (x:HOk P w H h):ObjOk P w H h a u:=by
 rcases r with r | ⟨o,r⟩
 ·exact x a u r
 ·obtain ⟨_,q⟩:=x a _ r
  exact q
def Mut:Option HO->Prop
 | some (.lst _)=>True
 | some (.dK _)=>True
 | some (.dT _)=>True
 | some (.set _ _)=>True
 | some (.ins _ _ _)=>True
 | some (.xd _)=>True
 | some (.ext _)=>True
 | _=>False
section
variable {P:Program} {w:World} {H:Hp} {h h':Heap} {x e:Addr} {o':HO}
theorem HOk.write (ok:HOk P w H h) (mu:Mut (H x)) (he:e=x\/H e=some (.own x)) (k:∀b u,b≠e->h.get? b=some u->h'.get? b=some u) (heo:∃u,h'.get? e=some u)
  (new:ObjOk P w (upd H x o') h' x o'):HOk P w (upd H x o') h':=fun b u q=>by
 have nown:∀c y,H c=some (.own y)->c≠x:=fun c y r z=>by subst z;rw [r] at mu;exact mu
 have ntup:∀c xs,H c=some (.tup xs)->c≠x:=fun c xs r z=>by subst z;rw [r] at mu;exact mu
 by_cases hb:b=x
 ·subst hb;rw [upd_same] at q;cases q;exact new
 ·rw [upd_ne hb] at q
  by_cases hbe:b=e
  ·have q':H b=some (.own x):=by
    rcases he with z | z
    ·exact absurd (hbe.trans z) hb
    ·rw [hbe];exact z
   rw [q] at q';cases q'
   obtain ⟨v,hv⟩:=heo
   exact ⟨v,by rw [hbe];exact hv⟩
  ·refine (ok b u q).stay (fun c v hc r=>k c v ?_ r) (fun c r=>by rw [upd_ne (nown c b r)];exact r) fun c xs r=>by rw [upd_ne (ntup c xs r)];exact r
   rcases hc with rfl | hc
   ·exact hbe
   ·rintro rfl
    rcases he with z | z
    ·exact nown c b hc z
    ·rw [hc] at z;cases z;exact hb rfl
end
structure Un (fs ex:List Addr) (H H':Hp) (h h':Heap):Prop where
 keep:∀b o,h.get? b=some o->H b=none->b∉fs->b∉ex->h'.get? b=some o
 slot:∀b o,h.get? b=some o->H b=none->b∈fs->b∉ex->∃sl,h'.get? b=some {o with slots:=sl}
 free:∀b o,h.get? b=some o->H b=none->b∉ex->H' b=none
 there:∀b o,h.get? b=some o->b∉ex->∃o',h'.get? b=some o'
 tups:∀b xs,H b=some (.tup xs)->H' b=some (.tup xs)
 frzs:∀b o u,H b=some (.frz o u)->H' b=some (.frz o u)
 tbls:∀b ps,H b=some (.tbl ps)->∃more,H' b=some (.tbl (ps ++ more))
section
variable {fs fs' ex ex':List Addr} {H H1 H2:Hp} {h h1 h2 h':Heap} {a x e:Addr} {o:HO}
theorem Un.any (u:Un fs ex H H1 h h1) {b:Addr} {ob:Obj} (q:h.get? b=some ob) (n:H b=none) (hx:b∉ex):∃sl,h1.get? b=some {ob with slots:=sl}:=by
 by_cases hb:b∈fs
 ·exact u.slot b ob q n hb hx
 ·exact ⟨ob.slots,u.keep b ob q n hb hx⟩
theorem Un.kept (k:∀b u,h.get? b=some u->h'.get? b=some u):Un fs ex H H h h':=
 ⟨fun b ob q _ _ _=>k b ob q,fun b ob q _ _ _=>⟨ob.slots,k b ob q⟩,fun _ _ _ n _=>n,fun b ob q _=>⟨ob,k b ob q⟩,fun _ _ q=>q,fun _ _ _ q=>q,fun _ ps q=>⟨#[],by rw [q];simp⟩⟩
theorem Un.refl:Un fs ex H H h h:=Un.kept fun _ _ q=>q
theorem Un.laid (k:∀b u,h.get? b=some u->h'.get? b=some u) (hp:h.objs.size<=a) (hn:H a=none):Un fs ex H (upd H a o) h h' where
 keep:=fun b u q _ _ _=>k b u q
 slot:=fun b u q _ _ _=>⟨u.slots,k b u q⟩
 free:=fun b u q n _=>by rw [upd_ne (Nat.ne_of_lt (Nat.lt_of_lt_of_le (Heap.lt_size q) hp))];exact n
 there:=fun b u q _=>⟨u,k b u q⟩
 tups:=fun b xs q=>by rw [upd_ne (ne_of_none q hn)];exact q
 frzs:=fun b u xs q=>by rw [upd_ne (ne_of_none q hn)];exact q
 tbls:=fun b ps q=>⟨#[],by rw [upd_ne (ne_of_none q hn),q];simp⟩
theorem Un.write (mu:Mut (H x)) (he:e=x\/H e=some (.own x)) (k:∀b u,b≠e->h.get? b=some u->h'.get? b=some u) (heo:∃u,h'.get? e=some u):Un fs ex H (upd H x o) h h':=by
 have hx:∀b,H b=none->b≠x:=fun b n z=>by subst z;rw [n] at mu;exact mu
 have hb:∀b,H b=none->b≠e:=fun b n z=>by
  subst z
  rcases he with r | r
  ·exact hx b n r
  ·rw [n] at r;cases r
 have hm:∀b u,H b=some u->¬Mut (some u)->b≠x:=fun b u q nm z=>by subst z;rw [q] at mu;exact nm mu
 refine ⟨fun b u q n _ _=>k b u (hb b n) q,fun b u q n _ _=>⟨u.slots,k b u (hb b n) q⟩,fun b u q n _=>by rw [upd_ne (hx b n)];exact n,fun b u q _=>?_,
  fun b xs q=>by rw [upd_ne (hm b _ q fun z=>z)];exact q,fun b u xs q=>by rw [upd_ne (hm b _ q fun z=>z)];exact q,fun b ps q=>⟨#[],by rw [upd_ne (hm b _ q fun z=>z),q];simp⟩⟩
 by_cases hbe:b=e
 ·subst hbe;exact heo
 ·exact ⟨u,k b u hbe q⟩
end
def trk (h:Heap) (H:Hp):List Addr:=(List.range h.objs.size).filter fun a=>(H a).isSome
def hidT (h:Heap) (H:Hp):Heap:=PySem.W.hideAll h (trk h H)
theorem hidT_size (h:Heap) (H:Hp):(hidT h H).objs.size=h.objs.size:=PySem.W.hideAll_size _ _
theorem hidT_get {h:Heap} {H:Hp} {b:Addr} {o:Obj} (e:h.get? b=some o) (n:H b=none):(hidT h H).get? b=some o:=
 PySem.W.hideAll_get _ e fun hm=>by
  have q:(H b).isSome=true:=(List.mem_filter.mp hm).2
  rw [n] at q;simp at q
theorem of_hidT {h:Heap} {H:Hp} {b:Addr} {o:Obj} (e:(hidT h H).get? b=some o):h.get? b=some o/\H b=none:=by
 have e':h.get? b=some o:=PySem.W.of_hideAll (trk h H) e
 refine ⟨e',?_⟩
 cases q:H b with
 | none=>rfl
 | some x=>
  have hm:b∈trk h H:=List.mem_filter.mpr ⟨List.mem_range.mpr (Heap.lt_size e'),by simp [q]⟩
  have z:(hidT h H).get? b=none:=PySem.W.hideAll_none (trk h H) hm
  rw [z] at e;cases e
end L2
namespace L2
open PySem PySem.Spec PyProof.Rows
structure Mod (K:PySem.W.Frag) (mg:Str->Option Value) (base:Heap):Prop where
 kin:K.In base
 glob:base.Ns mainGlobals mg
 blt:∃mb,base.Ns builtinsNs mb/\∀x:Str,x≠"__name__"->mb x=bootBuiltins x
 nolimit:base.NoLimit
structure Cx where
 prog:Program
 w:World
 K:PySem.W.Frag
 mg:Str->Option Value
 base:Heap
 A:Around
 N:List Str
 s₀:Shared
 H₀:Hp
 env:Env
 outer:List Env
 stack:List Env
 ex:List Addr
 fn:Str->Bool
 calm:Bool
 pn:List (Addr×Obj)
 xe:Value->Shared->Prop
def frs (l:List Env):List Addr:=l.filterMap (·.frame)
abbrev Cx.fs (X:Cx):List Addr:=frs X.outer
def Vis (sc:Scope) (x:Str):Prop:=sc.names.lookup x=some .local\/sc.names.lookup x=some .cell\/sc.names.lookup x=some .free
def Loc (sc:Scope) (x:Str):Prop:=sc.names.lookup x=some .local\/sc.names.lookup x=some .cell
def Look (env:Env) (h:Heap) (m:Str->Option Value) (x:Str) (u:Value):Prop:=
 (env.kindOf x=some .local/\m x=some u)\/((env.kindOf x=some .cell\/env.kindOf x=some .free)/\∃c,env.cells.lookup x=some c/\h.IsCell c (some u))
structure Cx.Ok (X:Cx):Prop where
 mod:Mod X.K X.mg X.base
 kind:X.env.scope.kind=.function
 glob:X.env.globals=mainGlobals
 blt:X.env.builtins=builtinsNs
 above:X.s₀.heap.objs.size<=X.env.locals
 inj:∀x y c,X.env.cells.lookup x=some c->X.env.cells.lookup y=some c->x=y
 has:∀x,(X.env.kindOf x=some .cell\/X.env.kindOf x=some .free)->∃c,X.env.cells.lookup x=some c
 cab:∀x c,X.fn x=true->X.env.cells.lookup x=some c->X.s₀.heap.objs.size<=c
 hd:X.calm=true->X.A.handled=none
 frames:X.A.frames=some X.stack
 stk:X.stack=X.outer\/(X.stack=X.env :: X.outer/\X.env.frame=some X.env.locals)
 exf:∀b∈X.ex,b≠X.env.locals/\∀x c,X.env.cells.lookup x=some c->c≠b
 bs:∀b o,X.base.get? b=some o->X.s₀.heap.get? b=some o/\X.H₀ b=none
 bsz:X.base.objs.size<=X.s₀.heap.objs.size
 noex:∀b o,X.base.get? b=some o->b∉X.ex
 exfs:∀b∈X.ex,b∉X.fs
 funs:X.s₀.heap.FunFrames X.base X.outer
 frf:∀b∈X.fs,X.H₀ b=none
structure Inv (X:Cx) (pins:List (Addr×Obj)) (σ:List (Option V)) (H:Hp) (s:Shared):Prop where
 ok:X.Ok
 os:s.os=X.s₀.os
 bare:AllBare s.gens
 base:Un X.fs X.ex X.H₀ H X.s₀.heap s.heap
 loc:∃m,s.heap.Ns X.env.locals m/\∀(i:Nat) (x:Str) (v:V),X.N[i]? = some x->σ[i]? = some (some v)->Vis X.env.scope x->∃u,RelV v u/\Look X.env s.heap m x u
 cell:∀x c,X.env.cells.lookup x=some c->∃v,s.heap.IsCell c v
 free:H X.env.locals=none
 freeC:∀x c,X.env.cells.lookup x=some c->H c=none
 pin:∀p∈X.pn ++ pins,s.heap.get? p.1=some p.2/\H p.1=none/\p.1≠X.env.locals/\p.1∉X.fs/\∀v,p.2.data≠.cell v
 hok:HOk X.prog X.w H s.heap
 len:σ.length=X.N.length
section
variable {X:Cx} {pins:List (Addr×Obj)} {σ:List (Option V)} {H H':Hp} {s:Shared} {h':Heap}
theorem Cx.Ok.nofr (ok:X.Ok) {b:Addr} {o:Obj} (e:X.base.get? b=some o):b∉X.fs:=fun hb=>by
 have:=(ok.funs.mem hb).1
 rw [e] at this;cases this
theorem Inv.bs (I:Inv X pins σ H s):∀b o,X.base.get? b=some o->s.heap.get? b=some o/\H b=none:=fun b o e=>
 ⟨I.base.keep b o (I.ok.bs b o e).1 (I.ok.bs b o e).2 (I.ok.nofr e) (I.ok.noex b o e),I.base.free b o (I.ok.bs b o e).1 (I.ok.bs b o e).2 (I.ok.noex b o e)⟩
theorem Inv.bk (I:Inv X pins σ H s):∀b o,X.base.get? b=some o->s.heap.get? b=some o:=fun b o e=>(I.bs b o e).1
theorem Inv.mod (I:Inv X pins σ H s):Mod X.K X.mg X.base:=I.ok.mod
theorem Inv.kIn (I:Inv X pins σ H s):X.K.In s.heap:=I.ok.mod.kin.keeps I.bk
theorem Inv.fr (I:Inv X pins σ H s):∃m,Fr X.base X.env.locals s.heap m:=
 let ⟨m,hn,_⟩:=I.loc
 ⟨m,hn,I.bk,Nat.le_trans I.ok.bsz I.ok.above⟩
theorem Inv.lt (I:Inv X pins σ H s):X.env.locals < s.heap.objs.size:=let ⟨_,hn,_⟩:=I.loc;hn.lt
theorem Inv.sz (I:Inv X pins σ H s):X.s₀.heap.objs.size<=s.heap.objs.size:=Nat.le_trans I.ok.above (Nat.le_of_lt I.lt)
theorem Inv.nofs (I:Inv X pins σ H s) {a:Addr} (h:s.heap.objs.size<=a):a∉X.fs:=fun hb=>by
 obtain ⟨_,o,ho,_⟩:=I.ok.funs.mem hb
 exact absurd (Nat.lt_of_lt_of_le (Heap.lt_size ho) (Nat.le_trans I.sz h)) (Nat.lt_irrefl _)
theorem Inv.cne (I:Inv X pins σ H s):∀x c,X.env.cells.lookup x=some c->c≠X.env.locals:=fun x c e z=>by
 obtain ⟨v,o,ho,hd⟩:=I.cell x c e
 obtain ⟨m,⟨o',es,ep,ho',hd',_⟩,_⟩:=I.loc
 rw [z,ho'] at ho;cases ho;rw [hd'] at hd;cases hd
theorem Inv.funs (I:Inv X pins σ H s):s.heap.FunFrames X.base X.outer:=by
 have all:∀(l:List Env),(∀b∈frs l,b∈X.fs)->X.s₀.heap.FunFrames X.base l->s.heap.FunFrames X.base l:=by
  intro l
  induction l with
  | nil=>intro _ _;trivial
  | cons env r ih=>
   intro hs hl
   obtain ⟨hk,⟨L,o,hf,hn,ho,hd⟩,hr⟩:=hl
   have hL:L∈X.fs:=hs L (by unfold frs;rw [List.filterMap_cons,hf];exact List.mem_cons_self)
   obtain ⟨sl,e⟩:=I.base.slot L o ho (I.ok.frf L hL) hL fun z=>I.ok.exfs L z hL
   exact ⟨hk,⟨L,_,hf,hn,e,hd⟩,ih (fun b hb=>hs b (by unfold frs;rw [List.filterMap_cons,hf];exact List.mem_cons_of_mem _ hb)) hr⟩
 exact all X.outer (fun _ hb=>hb) I.ok.funs
theorem Inv.stack (I:Inv X pins σ H s):s.heap.FunFrames X.base X.stack:=by
 rcases I.ok.stk with e | ⟨e,hf⟩
 ·rw [e];exact I.funs
 ·rw [e]
  obtain ⟨m,hn,_⟩:=I.loc
  refine .cons (by rw [I.ok.kind];decide) hf hn ?_ I.funs
  exact Heap.get?_none_of_le (Nat.le_trans I.ok.bsz I.ok.above)
theorem Inv.stkSub (I:Inv X pins σ H s):∀b∈frs X.stack,b∈X.env.locals :: X.fs:=fun b hb=>by
 rcases I.ok.stk with e | ⟨e,hf⟩
 ·rw [e] at hb;exact List.mem_cons_of_mem _ hb
 ·rw [e] at hb
  unfold frs at hb
  rw [List.filterMap_cons,hf] at hb
  exact hb
theorem Inv.stkFree (I:Inv X pins σ H s):∀b∈frs X.stack,H b=none:=fun b hb=>by
 rcases List.mem_cons.mp (I.stkSub b hb) with e | hb
 ·rw [e];exact I.free
 ·obtain ⟨_,o,ho,_⟩:=I.ok.funs.mem hb
  exact I.base.free b o ho (I.ok.frf b hb) fun z=>I.ok.exfs b z hb
theorem Inv.step {g':Array GenState} {t':Nat} {d':Drawn} {ch:List Addr} (I:Inv X pins σ H s)
  (hch:∀b∈ch,(b∈X.ex\/X.s₀.heap.objs.size<=b)/\b≠X.env.locals/\(∀x c,X.env.cells.lookup x=some c->c≠b)/\∀p∈X.pn ++ pins,p.1≠b)
  (keep:∀b o,b≠X.env.locals->b∉X.fs->b∉ch->s.heap.get? b=some o->H b=none->h'.get? b=some o)
  (slot:∀b o,b≠X.env.locals->b∈X.fs->b∉ch->s.heap.get? b=some o->H b=none->∃sl,h'.get? b=some {o with slots:=sl}) (free:∀b o,b∉ch->s.heap.get? b=some o->H b=none->H' b=none)
  (there:∀b o,b∉ch->s.heap.get? b=some o->∃o',h'.get? b=some o')
  (tups:∀b xs,H b=some (.tup xs)->H' b=some (.tup xs)) (frzs:∀b o u,H b=some (.frz o u)->H' b=some (.frz o u)) (tbls:∀b ps,H b=some (.tbl ps)->∃more,H' b=some (.tbl (ps ++ more)))
  (ns:∀m,s.heap.Ns X.env.locals m->h'.Ns X.env.locals m) (hok:HOk X.prog X.w H' h') (hg:AllBare g') :
  Inv X pins σ H' {s with heap:=h',gens:=g',drawn:=d',toks:=t'}:=by
 have neL:∀b o,X.s₀.heap.get? b=some o->b≠X.env.locals:=fun b o e=>Nat.ne_of_lt (Nat.lt_of_lt_of_le (Heap.lt_size e) I.ok.above)
 have neC:∀b o,X.s₀.heap.get? b=some o->b∉X.ex->b∉ch:=fun b o e hx hb=>by
  rcases (hch b hb).1 with z | z
  ·exact hx z
  ·exact absurd (Nat.lt_of_lt_of_le (Heap.lt_size e) z) (Nat.lt_irrefl _)
 have cellK:∀x c,X.env.cells.lookup x=some c->∀v,s.heap.IsCell c v->h'.IsCell c v:=fun x c e v ⟨o,ho,hd⟩=>by
  have nch:c∉ch:=fun z=>(hch c z).2.2.1 x c e rfl
  by_cases hc:c∈X.fs
  ·obtain ⟨sl,q⟩:=slot c o (I.cne x c e) hc nch ho (I.freeC x c e)
   exact ⟨_,q,hd⟩
  ·exact ⟨o,keep c o (I.cne x c e) hc nch ho (I.freeC x c e),hd⟩
 refine ⟨I.ok,I.os,hg,⟨fun b o e n hb hx=>?_,fun b o e n hb hx=>?_,fun b o e n hx=>?_,fun b o e hx=>?_,fun b xs e=>tups b xs (I.base.tups b xs e),fun b o xs e=>frzs b o xs (I.base.frzs b o xs e),fun b ps e=>?_⟩,?_,fun x c e=>?_,?_,fun x c e=>?_,fun p hp=>?_,hok,I.len⟩
 ·exact keep b o (neL b o e) hb (neC b o e hx) (I.base.keep b o e n hb hx) (I.base.free b o e n hx)
 ·obtain ⟨sl,e1⟩:=I.base.slot b o e n hb hx
  obtain ⟨sl',e2⟩:=slot b _ (neL b o e) hb (neC b o e hx) e1 (I.base.free b o e n hx)
  exact ⟨sl',e2⟩
 ·obtain ⟨o',e1⟩:=I.base.there b o e hx
  exact free b o' (neC b o e hx) e1 (I.base.free b o e n hx)
 ·obtain ⟨o',e1⟩:=I.base.there b o e hx
  exact there b o' (neC b o e hx) e1
 ·obtain ⟨m1,e1⟩:=I.base.tbls b ps e
  obtain ⟨m2,e2⟩:=tbls b _ e1
  exact ⟨m1 ++ m2,by rw [e2,Array.append_assoc]⟩
 ·obtain ⟨m,hn,hl⟩:=I.loc
  refine ⟨m,ns m hn,fun i x v e1 e2 e3=>?_⟩
  obtain ⟨u,r,l⟩:=hl i x v e1 e2 e3
  refine ⟨u,r,?_⟩
  rcases l with l | ⟨k,c,e,z⟩
  ·exact .inl l
  ·exact .inr ⟨k,c,e,cellK x c e _ z⟩
 ·obtain ⟨v,z⟩:=I.cell x c e
  exact ⟨v,cellK x c e v z⟩
 ·obtain ⟨m,⟨o,_,_,ho,_⟩,_⟩:=I.loc
  exact free _ o (fun z=>(hch _ z).2.1 rfl) ho I.free
 ·obtain ⟨v,o,ho,hd⟩:=I.cell x c e
  exact free c o (fun z=>(hch c z).2.2.1 x c e rfl) ho (I.freeC x c e)
 ·obtain ⟨e,n,ne,nf,d⟩:=I.pin p hp
  have nch:p.1∉ch:=fun z=>(hch p.1 z).2.2.2 p hp rfl
  exact ⟨keep p.1 p.2 ne nf nch e n,free p.1 p.2 nch e n,ne,nf,d⟩
theorem Inv.un {t':Nat} (I:Inv X pins σ H s) (u:Un X.fs [] H H' s.heap h') (hok:HOk X.prog X.w H' h'):Inv X pins σ H' {s with heap:=h',toks:=t'}:=by
 obtain ⟨m,⟨o,es,ep,ho,r⟩,_⟩:=id I.loc
 obtain ⟨sl,hL⟩:=u.any ho I.free (by simp)
 exact I.step (g':=s.gens) (d':=s.drawn) (ch:=[]) (fun _ z=>nomatch z) (fun b o _ hb _ e n=>u.keep b o e n hb (by simp)) (fun b o _ hb _ e n=>u.slot b o e n hb (by simp)) (fun b o _ e n=>u.free b o e n (by simp)) (fun b o _ e=>u.there b o e (by simp)) u.tups u.frzs u.tbls (fun m' hm=>by
  obtain ⟨o',es',ep',ho',r'⟩:=hm
  rw [ho] at ho';cases ho'
  exact ⟨_,es',ep',hL,r'⟩) hok I.bare
theorem Inv.call {g':Array GenState} {t':Nat} {d':Drawn} {ch:List Addr} (I:Inv X pins σ H s) (u:Un (frs X.stack) ch H H' s.heap h') (hok:HOk X.prog X.w H' h') (hg:AllBare g')
  (hch:∀b∈ch,(b∈X.ex\/X.s₀.heap.objs.size<=b)/\b≠X.env.locals/\(∀x c,X.env.cells.lookup x=some c->c≠b)/\∀p∈X.pn ++ pins,p.1≠b) :
  Inv X pins σ H' {s with heap:=h',gens:=g',drawn:=d',toks:=t'}:=by
 obtain ⟨m,⟨o,es,ep,ho,r⟩,_⟩:=id I.loc
 obtain ⟨sl,hL⟩:=u.any ho I.free fun z=>(hch _ z).2.1 rfl
 exact I.step (ch:=ch) hch (fun b o hL hb hc e n=>u.keep b o e n (fun z=>(List.mem_cons.mp (I.stkSub b z)).elim hL hb) hc) (fun b o _ _ hc e n=>u.any e n hc) (fun b o hc e n=>u.free b o e n hc) (fun b o hc e=>u.there b o e hc) u.tups u.frzs u.tbls (fun m' hm=>by
  obtain ⟨o',es',ep',ho',r'⟩:=hm
  rw [ho] at ho';cases ho'
  exact ⟨_,es',ep',hL,r'⟩) hok hg
theorem Inv.turned {t':Nat} {it:Addr} (I:Inv X pins σ H s) (k:∀b o,b≠it->s.heap.get? b=some o->h'.get? b=some o) (hn:H it=none) (hL:it≠X.env.locals)
  (h1:it∈X.ex\/X.s₀.heap.objs.size<=it) (h2:∀x c,X.env.cells.lookup x=some c->c≠it) (h3:∀p∈X.pn ++ pins,p.1≠it):Inv X pins σ H {s with heap:=h',toks:=t'}:=by
 have nit:∀b u,H b=some u->b≠it:=fun b u e z=>by rw [z,hn] at e;cases e
 refine I.step (g':=s.gens) (d':=s.drawn) (ch:=[it]) (fun b hb=>?_) (fun b o _ _ hc e _=>k b o (fun z=>hc (by simp [z])) e) (fun b o _ _ hc e _=>⟨o.slots,k b o (fun z=>hc (by simp [z])) e⟩) (fun _ _ _ _ n=>n)
  (fun b o hc e=>⟨o,k b o (fun z=>hc (by simp [z])) e⟩) (fun _ _ e=>e) (fun _ _ _ e=>e) (fun b ps e=>⟨#[],by rw [e];simp⟩) (fun m hm=>?_) (fun b u e=>?_) I.bare
 ·have e:b=it:=by simpa using hb
  subst e
  exact ⟨h1,hL,h2,h3⟩
 ·obtain ⟨o,es,ep,ho,r⟩:=hm
  exact ⟨o,es,ep,k _ o (Ne.symm hL) ho,r⟩
 ·refine (I.hok b u e).stay (fun c v hc q=>k c v ?_ q) (fun _ q=>q) fun _ _ q=>q
  rcases hc with z | z
  ·rw [z];exact nit b u e
  ·exact nit c _ z
theorem Inv.tok (I:Inv X pins σ H s) (t:Nat):Inv X pins σ H {s with toks:=t}:=I.un (h':=s.heap) (t':=t) Un.refl I.hok
theorem Inv.kept {t':Nat} (I:Inv X pins σ H s) (k:∀b u,s.heap.get? b=some u->h'.get? b=some u):Inv X pins σ H {s with heap:=h',toks:=t'}:=I.un (Un.kept k) (I.hok.kept k)
theorem Inv.laid {a:Addr} {o:HO} {t':Nat} (I:Inv X pins σ H s) (k:∀b u,s.heap.get? b=some u->h'.get? b=some u) (hp:s.heap.objs.size<=a) (new:ObjOk X.prog X.w (upd H a o) h' a o) :
  Inv X pins σ (upd H a o) {s with heap:=h',toks:=t'}:=I.un (Un.laid k hp (I.hok.fresh hp)) (I.hok.laid k hp new)
theorem Inv.write {x e:Addr} {o:HO} {t':Nat} (I:Inv X pins σ H s) (mu:Mut (H x)) (he:e=x\/H e=some (.own x)) (k:∀b u,b≠e->s.heap.get? b=some u->h'.get? b=some u) (heo:∃u,h'.get? e=some u)
  (new:ObjOk X.prog X.w (upd H x o) h' x o):Inv X pins σ (upd H x o) {s with heap:=h',toks:=t'}:=I.un (Un.write mu he k heo) (I.hok.write mu he k heo new)
theorem Inv.weak {σ':List (Option V)} (I:Inv X pins σ H s) (hl:σ'.length=σ.length) (w:∀(i:Nat) v,σ'[i]? = some (some v)->σ[i]? = some (some v)):Inv X pins σ' H s:=
 ⟨I.ok,I.os,I.bare,I.base,let ⟨m,hn,hl'⟩:=I.loc;⟨m,hn,fun i x v e1 e2 e3=>hl' i x v e1 (w i v e2) e3⟩,I.cell,I.free,I.freeC,I.pin,I.hok,hl.trans I.len⟩
theorem Inv.pins_of {pins':List (Addr×Obj)} (I:Inv X pins σ H s) (h:∀p∈pins',s.heap.get? p.1=some p.2/\H p.1=none/\p.1≠X.env.locals/\p.1∉X.fs/\∀v,p.2.data≠.cell v):Inv X pins' σ H s:=
 ⟨I.ok,I.os,I.bare,I.base,I.loc,I.cell,I.free,I.freeC,fun p hp=>(List.mem_append.mp hp).elim (fun z=>I.pin p (List.mem_append_left _ z)) (h p),I.hok,I.len⟩
theorem nodup_ix {N:List Str} (hN:N.Nodup) {i j:Nat} {x:Str} (a:N[i]? = some x) (b:N[j]? = some x):i=j:=by
 obtain ⟨h1,e1⟩:=List.getElem?_eq_some_iff.mp a
 obtain ⟨h2,e2⟩:=List.getElem?_eq_some_iff.mp b
 exact (List.getElem_inj hN).mp (e1.trans e2.symm)
theorem store_ok2 {M:Model} {A:Around} {E:Value->Shared->Prop} {i:Nat} {x:Str} {v:V} {u:Value} {Q:Unit->Shared->Prop} (I:Inv X pins σ H s) (hN:X.N.Nodup) (hi:X.N[i]? = some x) (hx:Loc X.env.scope x) (r:RelV v u)
  (h:∀s',Inv X pins (σ.set i (some v)) H s'->(∃a,Heap.SameBut a s.heap s'.heap/\(a=X.env.locals\/X.env.cells.lookup x=some a))->Q () s') (hf:X.fn x=true\/X.env.scope.names.lookup x=some .local:=by first | exact .inl rfl | exact .inr rfl | assumption):wpAny M A (storeName X.env x u) Q E s:=by
 obtain ⟨m,hn,hl⟩:=id I.loc
 have hcls:(X.env.scope.kind == .class || (X.env.scope.kind == .module && X.env.locals != X.env.globals))=false:=by rw [I.ok.kind];rfl
 have hiσ:i < σ.length:=by rw [I.len];exact (List.getElem?_eq_some_iff.mp hi).1
 have cne:=I.cne
 have tracked:∀{a:Addr} {h':Heap},(∃o,s.heap.get? a=some o/\H a=none)->Heap.SameBut a s.heap h'->HOk X.prog X.w H h':=fun {a h'} ha hs b ob e=>by
  obtain ⟨_,_,hfree⟩:=ha
  refine (I.hok b ob e).stay (fun c w' hc q=>(hs.2 c ?_).trans q) (fun _ q=>q) fun _ _ q=>q
  rintro rfl
  rcases hc with rfl | hc
  ·rw [hfree] at e;cases e
  ·rw [hfree] at hc;cases hc
 rcases hx with hk | hk
 ·refine wpAny_storeName_local hk hn (fun h' hn' hs=>?_) hcls
  obtain ⟨oL,_,_,hoL,_⟩:=id hn
  refine h _ ⟨I.ok,I.os,I.bare,⟨fun b o e n hb hx=>?_,fun b o e n hb hx=>?_,I.base.free,fun b o e hx=>?_,I.base.tups,I.base.frzs,I.base.tbls⟩,⟨_,hn',fun j y v' e1 e2 e3=>?_⟩,fun y c e=>?_,I.free,I.freeC,fun p hp=>?_,tracked ⟨oL,hoL,I.free⟩ hs,by simpa using I.len⟩ ⟨_,hs,.inl rfl⟩
  ·exact (hs.2 b (Nat.ne_of_lt (Nat.lt_of_lt_of_le (Heap.lt_size e) I.ok.above))).trans (I.base.keep b o e n hb hx)
  ·obtain ⟨sl,e1⟩:=I.base.slot b o e n hb hx
   exact ⟨sl,(hs.2 b (Nat.ne_of_lt (Nat.lt_of_lt_of_le (Heap.lt_size e) I.ok.above))).trans e1⟩
  ·obtain ⟨o',e1⟩:=I.base.there b o e hx
   exact ⟨o',(hs.2 b (Nat.ne_of_lt (Nat.lt_of_lt_of_le (Heap.lt_size e) I.ok.above))).trans e1⟩
  ·by_cases hj:j=i
   ·subst hj
    rw [hi] at e1;cases e1
    rw [List.getElem?_set_self hiσ] at e2
    cases e2
    exact ⟨u,r,.inl ⟨hk,by simp⟩⟩
   ·rw [List.getElem?_set_ne (Ne.symm hj)] at e2
    obtain ⟨u',r',q⟩:=hl j y v' e1 e2 e3
    refine ⟨u',r',?_⟩
    rcases q with ⟨k,e⟩ | ⟨k,c,e,z⟩
    ·refine .inl ⟨k,?_⟩
     have:y≠x:=fun e=>hj (nodup_ix hN e1 (e ▸ hi))
     simp [this,e]
    ·exact .inr ⟨k,c,e,z.sameBut hs (cne y c e)⟩
  ·obtain ⟨w',z⟩:=I.cell y c e
   exact ⟨w',z.sameBut hs (cne y c e)⟩
  ·obtain ⟨e,n,ne,nf,d⟩:=I.pin p hp
   exact ⟨(hs.2 p.1 ne).trans e,n,ne,nf,d⟩
 ·have hfn:X.fn x=true:=by
   rcases hf with z | z
   ·exact z
   ·rw [z] at hk;cases hk
  obtain ⟨c,hc⟩:=I.ok.has x (.inl hk)
  obtain ⟨w',z⟩:=I.cell x c hc
  refine wpAny_storeName_cell I.ok.kind hk hc z (fun h' hc' hs=>?_)
  obtain ⟨oc,hoc,hocd⟩:=id z
  refine h {s with heap:=h'} ⟨I.ok,I.os,I.bare,⟨fun b o e n hb hx=>?_,fun b o e n hb hx=>?_,I.base.free,fun b o e hx=>?_,I.base.tups,I.base.frzs,I.base.tbls⟩,⟨m,hn.sameBut hs (Ne.symm (cne x c hc)),fun j y v' e1 e2 e3=>?_⟩,fun y c' e=>?_,I.free,I.freeC,fun p hp=>?_,tracked ⟨oc,hoc,I.freeC x c hc⟩ hs,by simpa using I.len⟩ ⟨c,hs,.inr hc⟩
  ·exact (hs.2 b (Nat.ne_of_lt (Nat.lt_of_lt_of_le (Heap.lt_size e) (I.ok.cab x c hfn hc)))).trans (I.base.keep b o e n hb hx)
  ·obtain ⟨sl,e1⟩:=I.base.slot b o e n hb hx
   exact ⟨sl,(hs.2 b (Nat.ne_of_lt (Nat.lt_of_lt_of_le (Heap.lt_size e) (I.ok.cab x c hfn hc)))).trans e1⟩
  ·obtain ⟨o',e1⟩:=I.base.there b o e hx
   exact ⟨o',(hs.2 b (Nat.ne_of_lt (Nat.lt_of_lt_of_le (Heap.lt_size e) (I.ok.cab x c hfn hc)))).trans e1⟩
  ·by_cases hj:j=i
   ·subst hj
    rw [hi] at e1;cases e1
    rw [List.getElem?_set_self hiσ] at e2
    cases e2
    exact ⟨u,r,.inr ⟨.inl hk,c,hc,hc'⟩⟩
   ·rw [List.getElem?_set_ne (Ne.symm hj)] at e2
    obtain ⟨u',r',q⟩:=hl j y v' e1 e2 e3
    refine ⟨u',r',?_⟩
    rcases q with q | ⟨k,c',e,z'⟩
    ·exact .inl q
    ·refine .inr ⟨k,c',e,z'.sameBut hs ?_⟩
     rintro rfl
     exact hj (nodup_ix hN e1 (I.ok.inj _ _ _ e hc ▸ hi))
  ·by_cases hcc:c'=c
   ·subst hcc;exact ⟨_,hc'⟩
   ·obtain ⟨w2,z2⟩:=I.cell y c' e
    exact ⟨w2,z2.sameBut hs hcc⟩
  ·obtain ⟨e,n,ne,nf,d⟩:=I.pin p hp
   refine ⟨(hs.2 p.1 ?_).trans e,n,ne,nf,d⟩
   intro q
   rw [q,hoc] at e
   have q':oc=p.2:=Option.some.inj e
   exact d w' (by rw [<-q'];exact hocd)
theorem store_ok {M:Model} {A:Around} {E:Value->Shared->Prop} {i:Nat} {x:Str} {v:V} {u:Value} {Q:Unit->Shared->Prop} (I:Inv X pins σ H s) (hN:X.N.Nodup) (hi:X.N[i]? = some x) (hx:Loc X.env.scope x) (r:RelV v u)
  (h:∀s',Inv X pins (σ.set i (some v)) H s'->Q () s') (hf:X.fn x=true\/X.env.scope.names.lookup x=some .local:=by first | exact .inl rfl | exact .inr rfl | assumption):wpAny M A (storeName X.env x u) Q E s:=
 store_ok2 I hN hi hx r (fun s' I' _=>h s' I') hf
theorem Inv.call' {s':Shared} {ch:List Addr} (I:Inv X pins σ H s) (ho:s'.os=s.os) (u:Un (frs X.stack) ch H H' s.heap s'.heap) (hok:HOk X.prog X.w H' s'.heap) (hg:AllBare s'.gens)
  (hch:∀b∈ch,(b∈X.ex\/X.s₀.heap.objs.size<=b)/\b≠X.env.locals/\(∀x c,X.env.cells.lookup x=some c->c≠b)/\∀p∈X.pn ++ pins,p.1≠b):Inv X pins σ H' s':=by
 obtain ⟨h',g',d',t',o'⟩:=s'
 have e:o'=s.os:=ho
 subst e
 exact I.call (g':=g') (t':=t') (d':=d') u hok hg hch
end
abbrev XK:=Value->Option Addr->Hp->Prop
abbrev St:=List (Option V)
abbrev VK:=V->Hp->Prop
abbrev TE:=St->Hp->VK->Prop
abbrev TT:=St->Hp->(Bool->Hp->Prop)->Prop
abbrev TA:=St->Hp->(List V->Hp->Prop)->Prop
structure Ends where
 nx:St->Hp->Prop
 rt:VK
 bk:St->Hp->Prop:=fun _ _=>False
 ct:St->Hp->Prop:=fun _ _=>False
abbrev TS:=Ends->St->Hp->Prop
def EP (X:Cx) (pins:List (Addr×Obj)) (σ:St) (Q:VK) (u:Value) (s':Shared):Prop:=∃v H',Inv X pins σ H' s'/\RelV v u/\Q v H'
def TP (X:Cx) (pins:List (Addr×Obj)) (σ:St) (Q:Bool->Hp->Prop) (b:Bool) (s':Shared):Prop:=∃H',Inv X pins σ H' s'/\Q b H'
def AP (X:Cx) (pins:List (Addr×Obj)) (σ:St) (Q:List V->Hp->Prop) (us:List Value) (s':Shared):Prop:=∃vs H',Inv X pins σ H' s'/\Vals vs us/\Q vs H'
def SP (X:Cx) (pins:List (Addr×Obj)) (D:Ends) (f:Flow) (s':Shared):Prop:=
 match f with
 | .next=>∃σ' H',Inv X pins σ' H' s'/\D.nx σ' H'
 | .brk=>∃σ' H',Inv X pins σ' H' s'/\D.bk σ' H'
 | .cont=>∃σ' H',Inv X pins σ' H' s'/\D.ct σ' H'
 | .ret u=>∃v σ' H',Inv X pins σ' H' s'/\RelV v u/\D.rt v H'
def PE (X:Cx) (e:Expr) (t:TE):Prop:=
 ∀(pins:List (Addr×Obj)) (s:Shared) (σ:St) (H:Hp) (Q:VK),Inv X pins σ H s->t σ H Q->wpAny (model X.prog X.w) X.A (eval e X.env) (EP X pins σ Q) X.xe s
def PT (X:Cx) (e:Expr) (t:TT):Prop:=
 ∀(pins:List (Addr×Obj)) (s:Shared) (σ:St) (H:Hp) (Q:Bool->Hp->Prop),Inv X pins σ H s->t σ H Q->wpAny (model X.prog X.w) X.A (isTrue e X.env (eval e X.env)) (TP X pins σ Q) X.xe s
def PW (X:Cx) (e:Expr) (t:TT):Prop:=
 ∀(whole:Sem Value) (pins:List (Addr×Obj)) (s:Shared) (σ:St) (H:Hp) (Q:Bool->Hp->Prop),Inv X pins σ H s->t σ H Q->wpAny (model X.prog X.w) X.A (isTrue e X.env whole) (TP X pins σ Q) X.xe s
theorem PW.pt {X:Cx} {e:Expr} {t:TT} (h:PW X e t):PT X e t:=h _
def PA (X:Cx) (es:List Expr) (t:TA):Prop:=
 ∀(pos:Pos) (pins:List (Addr×Obj)) (s:Shared) (σ:St) (H:Hp) (Q:List V->Hp->Prop),Inv X pins σ H s->t σ H Q->wpAny (model X.prog X.w) X.A (spliced (backTo pos (starEach es X.env))) (AP X pins σ Q) X.xe s
def PS (X:Cx) (st:Stmt) (t:TS):Prop:=
 ∀(pins:List (Addr×Obj)) (s:Shared) (σ:St) (H:Hp) (D:Ends),Inv X pins σ H s->t D σ H->wpAny (model X.prog X.w) X.A (exec st X.env) (SP X pins D) X.xe s
def PSs (X:Cx) (st:List Stmt) (t:TS):Prop:=
 ∀(pins:List (Addr×Obj)) (s:Shared) (σ:St) (H:Hp) (D:Ends),Inv X pins σ H s->t D σ H->wpAny (model X.prog X.w) X.A (execs st X.env) (SP X pins D) X.xe s
theorem thn {α:Type} {t:Sem α} {Q Q':α->Shared->Prop} {M:Model} {A:Around} {E:Value->Shared->Prop} {s:Shared} (h:wpAny M A t Q E s) (hQ:∀a s,Q a s->Q' a s):wpAny M A t Q' E s:=wpAny_mono h hQ fun _ _ x=>x
end L2
namespace L2
open PySem PySem.Spec PyProof.Rows
section
variable {X:Cx}
def tVar (i:Nat):TE:=fun σ H Q=>∃v,σ[i]? = some (some v)/\Q v H
def tC (v:V):TE:=fun _ H Q=>Q v H
theorem pe_var {i:Nat} {x:Str} {pos:Pos} (hN:X.N[i]? = some x) (hv:Vis X.env.scope x) (hd:(x == ("__debug__" : Str))=false:=by decide) (hcd:(x == ("__classdict__" : Str))=false:=by decide):PE X (.Name x pos) (tVar i):=by
 intro pins s σ H Q I h
 obtain ⟨v,e,h⟩:=h
 obtain ⟨m,hn,hl⟩:=I.loc
 obtain ⟨u,r,l⟩:=hl i x v hN e hv
 have fin:EP X pins σ Q u s:=⟨v,H,I,r,h⟩
 rcases l with ⟨hk,hm⟩ | ⟨hk,c,hc,hcell⟩
 ·exact wpAny_Name (wpAny_loadName_local I.ok.kind hk hn hm fin) hd
 ·rcases hk with hk | hk
  ·exact wpAny_Name (wpAny_loadName_cell I.ok.kind hk hc hcell fin) hd
  ·exact wpAny_Name (wpAny_loadName_free I.ok.kind hk hc hcell fin hcd) hd
theorem pe_int {i j pos}:PE X (.Constant (.int i) j pos) (tC (.int i)):=fun _ _ _ H _ I h=>wpAny_Constant_int ⟨.int i,H,I.tok _,⟨_,rfl⟩,h⟩
theorem pe_bl {b j pos}:PE X (.Constant (.bool b) j pos) (tC (.bl b)):=fun _ _ _ H _ I h=>Constant_bool ⟨.bl b,H,I,rfl,h⟩
theorem pe_non {j pos}:PE X (.Constant .none j pos) (tC .non):=fun _ _ _ H _ I h=>Constant_none ⟨.non,H,I,rfl,h⟩
def Gl (X:Cx) (x:Str):Prop:=X.env.kindOf x=some .globalImplicit
theorem ld_glob {E:Value->Shared->Prop} {pins:List (Addr×Obj)} {s:Shared} {σ:St} {H:Hp} {x:Str} {u:Value} {pos:Pos} {Q:Value->Shared->Prop} (I:Inv X pins σ H s) (hg:Gl X x) (hm:X.mg x=some u) (h:Q u s)
  (hd:(x == ("__debug__" : Str))=false:=by decide):wpAny (model X.prog X.w) X.A (eval (.Name x pos) X.env) Q E s:=
 Calls.Name_function_global I.ok.kind hg (Calls.loadGlobal_global (by rw [I.ok.glob];exact I.mod.glob.keeps I.bk) hm h) hd
theorem ld_blt {E:Value->Shared->Prop} {pins:List (Addr×Obj)} {s:Shared} {σ:St} {H:Hp} {x:Str} {u:Value} {pos:Pos} {Q:Value->Shared->Prop} (I:Inv X pins σ H s) (hg:Gl X x) (hm:X.mg x=none) (hv:bootBuiltins x=some u) (h:Q u s)
  (hn:x≠"__name__":=by decide) (hd:(x == ("__debug__" : Str))=false:=by decide):wpAny (model X.prog X.w) X.A (eval (.Name x pos) X.env) Q E s:=by
 obtain ⟨mb,h1,h2⟩:=I.mod.blt
 exact Calls.Name_function_global I.ok.kind hg (Calls.loadGlobal_builtin (by rw [I.ok.glob];exact I.mod.glob.keeps I.bk) hm (by rw [I.ok.blt];exact h1.keeps I.bk) ((h2 x hn).trans hv) h) hd
theorem pe_glob {x:Str} {v:V} {u:Value} {pos:Pos} (hg:Gl X x) (hm:X.mg x=some u) (r:RelV v u) (hd:(x == ("__debug__" : Str))=false:=by decide):PE X (.Name x pos) (tC v):=
 fun _ _ _ H _ I h=>ld_glob I hg hm ⟨v,H,I,r,h⟩ hd
variable {a b:Expr} {ta tb:TE} {pos:Pos}
variable {tA tB':TT} {rest:List Expr}
def tAnd (t u:TT):TT:=fun σ H Q=>t σ H fun c H1=>if c=true then u σ H1 Q else Q false H1
def tOr (t u:TT):TT:=fun σ H Q=>t σ H fun c H1=>if c=true then Q true H1 else u σ H1 Q
def tNot (t:TT):TT:=fun σ H Q=>t σ H fun c H1=>Q (!c) H1
theorem pw_and1 (ha:PT X a tA):PW X (.BoolOp .And [a] pos) tA:=by
 intro wh pins s σ H Q I h
 refine isTrue_and (thn (ha pins s σ H Q I h) fun c s1 e=>?_)
 cases c with
 | true=>exact isTrue_and_nil e
 | false=>exact e
theorem pw_or1 (ha:PT X a tA):PW X (.BoolOp .Or [a] pos) tA:=by
 intro wh pins s σ H Q I h
 refine isTrue_or (thn (ha pins s σ H Q I h) fun c s1 e=>?_)
 cases c with
 | false=>exact isTrue_or_nil e
 | true=>exact e
theorem pw_and (ha:PT X a tA) (hb:PW X (.BoolOp .And (b :: rest) pos) tB'):PW X (.BoolOp .And (a :: b :: rest) pos) (tAnd tA tB'):=by
 intro wh pins s σ H Q I h
 refine isTrue_and (thn (ha pins s σ H _ I h) fun c s1 ⟨H1,I1,q1⟩=>?_)
 cases c with
 | true=>exact hb wh pins s1 σ H1 Q I1 q1
 | false=>exact ⟨H1,I1,q1⟩
theorem pw_or (ha:PT X a tA) (hb:PW X (.BoolOp .Or (b :: rest) pos) tB'):PW X (.BoolOp .Or (a :: b :: rest) pos) (tOr tA tB'):=by
 intro wh pins s σ H Q I h
 refine isTrue_or (thn (ha pins s σ H _ I h) fun c s1 ⟨H1,I1,q1⟩=>?_)
 cases c with
 | true=>exact ⟨H1,I1,q1⟩
 | false=>exact hb wh pins s1 σ H1 Q I1 q1
theorem pt_not (ha:PT X a tA):PT X (.UnaryOp .Not a pos) (tNot tA):=by
 intro pins s σ H Q I h
 exact isTrue_not (ha pins s σ H (fun c H1=>Q (!c) H1) I h)
def tOrV (ta tb:TE):TE:=fun σ H Q=>ta σ H fun x H1=>∃c,x=.bl c/\if c=true then Q (.bl true) H1 else tb σ H1 Q
theorem pe_one {op} {t:TE} (h:PE X a t):PE X (.BoolOp op [a] pos) t:=fun pins s σ H Q I hw=>BoolOp_one (h pins s σ H Q I hw)
theorem pe_or (ha:PE X a ta) (hb:PE X (.BoolOp .Or (b :: rest) pos) tb):PE X (.BoolOp .Or (a :: b :: rest) pos) (tOrV ta tb):=by
 intro pins s σ H Q I h
 refine BoolOp_or (thn (ha pins s σ H _ I h) fun v s1 ⟨x,H1,I1,r1,q1⟩=>?_)
 obtain ⟨c,rfl,q1⟩:=q1
 cases r1
 refine wpAny_truthy_bool ?_
 cases c with
 | false=>exact hb pins s1 σ H1 Q I1 q1
 | true=>exact ⟨.bl true,H1,I1,rfl,q1⟩
def tIf (t:TT) (ta tb:TE):TE:=fun σ H Q=>t σ H fun c H1=>if c=true then ta σ H1 Q else tb σ H1 Q
theorem pe_ifExp {c:Expr} (hc:PT X c tA) (ha:PE X a ta) (hb:PE X b tb):PE X (.IfExp c a b pos) (tIf tA ta tb):=by
 intro pins s σ H Q I h
 refine wpAny_IfExp (thn (hc pins s σ H _ I h) fun d s1 ⟨H1,I1,q1⟩=>?_)
 cases d with
 | true=>exact ha pins s1 σ H1 Q I1 q1
 | false=>exact hb pins s1 σ H1 Q I1 q1
end
end L2
namespace L2
open PySem PySem.Spec PyProof.Rows
def SqL (K:PySem.W.Frag) (H:Hp) (a:Addr) (xs:List V):Prop:=
 Rd H a (.lst xs)\/
  ∃(o:Obj) (its:Array Value) (n:Nat),K.lookup a=some o/\o.cls=.type "list"/\o.dict=none/\o.data=.seq its n/\its.size<=sizeLine/\Vals xs its.toList
def SqT (K:PySem.W.Frag) (H:Hp) (a:Addr) (xs:List V):Prop:=
 Rd H a (.tup xs)\/
  ∃(o:Obj) (its:Array Value) (n:Nat),K.lookup a=some o/\o.cls=.type "tuple"/\o.data=.seq its n/\its.size<=sizeLine/\Vals xs its.toList
def absV:Value->Option V
 | .none=>some .non
 | .bool b=>some (.bl b)
 | .int i _=>some (.int i)
 | .str x _=>some (.str x)
 | .bytes b _=>some (.byt b)
 | .float b _=>some (.flt b)
 | .ref a=>some (.ref a)
 | .type n=>some (.ty n)
 | _=>none
theorem RelV.abs {x:V} {u:Value} (r:RelV x u):absV u=some x:=by
 cases x with
 | non=>cases r;rfl
 | bl _=>cases r;rfl
 | int _=>obtain ⟨t,rfl⟩:=r;rfl
 | str _=>obtain ⟨t,rfl⟩:=r;rfl
 | byt _=>obtain ⟨t,rfl⟩:=r;rfl
 | flt _=>obtain ⟨t,rfl⟩:=r;rfl
 | ref _=>cases r;rfl
 | ty _=>cases r;rfl
theorem RelV.inj {x y:V} {u:Value} (r:RelV x u) (q:RelV y u):x=y:=Option.some.inj (r.abs.symm.trans q.abs)
theorem Vals.inj:∀{xs ys:List V} {us:List Value},Vals xs us->Vals ys us->xs=ys
 | _,_,_,.nil,.nil=>rfl
 | _,_,_,.cons r t,.cons r' t'=>by rw [r.inj r',Vals.inj t t']
section
variable {X:Cx} {pins:List (Addr×Obj)} {σ:St} {H:Hp} {s:Shared} {a:Addr} {xs ys:List V}
theorem SqL.of {K:PySem.W.Frag} (h:H a=some (.lst xs)):SqL K H a xs:=.inl (.inl h)
theorem SqT.of {K:PySem.W.Frag} (h:H a=some (.tup xs)):SqT K H a xs:=.inl (.inl h)
theorem Inv.list (I:Inv X pins σ H s) (h:SqL X.K H a xs):∃its:List Value,Vals xs its/\PlainL s.heap a its.toArray/\xs.length<=sizeLine:=by
 rcases h with h | ⟨o,its,n,hk,hc,hd,hs,hz,r⟩
 ·obtain ⟨z,its,n,r,e⟩:=h.ok I.hok
  exact ⟨its,r,⟨_,n,e,rfl,rfl,rfl⟩,z⟩
 ·refine ⟨its.toList,r,⟨o,n,I.kIn a o hk,hc,hd,by simpa using hs⟩,?_⟩
  have e:=r.length
  simp only [Array.length_toList] at e
  omega
theorem Inv.tuple (I:Inv X pins σ H s) (h:SqT X.K H a xs):∃its:List Value,Vals xs its/\IsTup s.heap a its.toArray/\xs.length<=sizeLine:=by
 rcases h with h | ⟨o,its,n,hk,hc,hs,hz,r⟩
 ·obtain ⟨z,its,r,p⟩:=h.ok I.hok
  exact ⟨its,r,p,z⟩
 ·refine ⟨its.toList,r,⟨o,I.kIn a o hk,hc,n,by simpa using hs⟩,?_⟩
  have e:=r.length
  simp only [Array.length_toList] at e
  omega
theorem Inv.list_inj (I:Inv X pins σ H s) (h:SqL X.K H a xs) (h':SqL X.K H a ys):xs=ys:=by
 obtain ⟨its,r,⟨o,n,e,_,_,d⟩,_⟩:=I.list h
 obtain ⟨its',r',⟨o',n',e',_,_,d'⟩,_⟩:=I.list h'
 rw [e] at e';cases e'
 rw [d] at d'
 injection d' with d1 _
 have:its=its':=by simpa using congrArg Array.toList d1
 subst this
 exact r.inj r'
theorem Inv.tuple_inj (I:Inv X pins σ H s) (h:SqT X.K H a xs) (h':SqT X.K H a ys):xs=ys:=by
 obtain ⟨its,r,⟨o,e,_,n,d⟩,_⟩:=I.tuple h
 obtain ⟨its',r',⟨o',e',_,n',d'⟩,_⟩:=I.tuple h'
 rw [e] at e';cases e'
 rw [d] at d'
 injection d' with d1 _
 have:its=its':=by simpa using congrArg Array.toList d1
 subst this
 exact r.inj r'
end
abbrev Cx.wish (X:Cx) (E:Value->Shared->Prop):Cx:={X with xe:=E}
abbrev Cx.nox (X:Cx):Cx:=X.wish fun _ _=>False
theorem Cx.Ok.wish {X:Cx} (ok:X.Ok) (E:Value->Shared->Prop):(X.wish E).Ok:=
 ⟨ok.mod,ok.kind,ok.glob,ok.blt,ok.above,ok.inj,ok.has,ok.cab,ok.hd,ok.frames,ok.stk,ok.exf,ok.bs,ok.bsz,ok.noex,ok.exfs,ok.funs,ok.frf⟩
theorem Cx.Ok.unwish {X:Cx} {E:Value->Shared->Prop} (ok:(X.wish E).Ok):X.Ok:=
 ⟨ok.mod,ok.kind,ok.glob,ok.blt,ok.above,ok.inj,ok.has,ok.cab,ok.hd,ok.frames,ok.stk,ok.exf,ok.bs,ok.bsz,ok.noex,ok.exfs,ok.funs,ok.frf⟩
section
variable {X:Cx} {pins:List (Addr×Obj)} {σ:St} {H:Hp} {s:Shared} {E:Value->Shared->Prop}
theorem Inv.wish (I:Inv X pins σ H s) (E:Value->Shared->Prop):Inv (X.wish E) pins σ H s:=⟨I.ok.wish E,I.os,I.bare,I.base,I.loc,I.cell,I.free,I.freeC,I.pin,I.hok,I.len⟩
theorem Inv.unwish (I:Inv (X.wish E) pins σ H s):Inv X pins σ H s:=⟨I.ok.unwish,I.os,I.bare,I.base,I.loc,I.cell,I.free,I.freeC,I.pin,I.hok,I.len⟩
theorem SP.unwish {D:Ends} {f:Flow} {s':Shared} (h:SP (X.wish E) pins D f s'):SP X pins D f s':=by
 cases f with
 | next=>obtain ⟨σ',H',I,q⟩:=h;exact ⟨σ',H',I.unwish,q⟩
 | brk=>obtain ⟨σ',H',I,q⟩:=h;exact ⟨σ',H',I.unwish,q⟩
 | cont=>obtain ⟨σ',H',I,q⟩:=h;exact ⟨σ',H',I.unwish,q⟩
 | ret u=>obtain ⟨v,σ',H',I,r,q⟩:=h;exact ⟨v,σ',H',I.unwish,r,q⟩
theorem PSs.nox {st:List Stmt} {t:TS} (h:PSs X.nox st t):PSs X st t:=fun pins s σ H D I hw=>
 wpAny_mono (h pins s σ H D (I.wish _) hw) (fun _ _ q=>q.unwish) fun _ _ z=>False.elim z
end
section
variable {X:Cx} {st:Stmt} {rest:List Stmt} {t u:TS} {e:Expr} {te:TE} {pos:Pos}
def tNext:TS:=fun D σ H=>D.nx σ H
def tSeq (t u:TS):TS:=fun D σ H=>t {D with nx:=u D} σ H
theorem pss_nil:PSs X [] tNext:=fun _ _ σ H _ I h=>wpAny_execs_nil ⟨σ,H,I,h⟩
theorem pss_cons (h1:PS X st t) (h2:PSs X rest u):PSs X (st :: rest) (tSeq t u):=by
 intro pins s σ H D I h
 refine wpAny_execs_cons (thn (h1 pins s σ H {D with nx:=u D} I h) fun f s1 q=>?_)
 cases f with
 | next=>
  obtain ⟨σ',H',I',q⟩:=q
  exact h2 pins s1 σ' H' D I' q
 | ret v=>exact q
 | brk=>exact q
 | cont=>exact q
theorem pss_one (h1:PS X st t):PSs X [st] t:=by
 intro pins s σ H D I h
 refine wpAny_execs_cons (thn (h1 pins s σ H D I h) fun f s1 q=>?_)
 cases f with
 | next=>exact wpAny_execs_nil q
 | ret v=>exact q
 | brk=>exact q
 | cont=>exact q
def tBreak:TS:=fun D σ H=>D.bk σ H
theorem ps_break:PS X (.Break pos) tBreak:=fun _ _ σ H _ I h=>wpAny_Break ⟨σ,H,I,h⟩
theorem Inv.quiet {pins:List (Addr×Obj)} {σ:St} {H:Hp} {s:Shared} (I:Inv X pins σ H s):interactive X.env=false:=by simp [interactive,I.ok.kind]
def tDrop (te:TE):TS:=fun D σ H=>te σ H fun _ H1=>D.nx σ H1
theorem ps_expr (he:PE X e te) (hs:swapsWith e none pos.line X.env=pure false:=by rfl):PS X (.Expr e pos) (tDrop te):=by
 intro pins s σ H D I h
 exact wpAny_Expr_any (thn (he pins s σ H _ I h) fun v s1 ⟨x,H1,I1,r1,q1⟩=>⟨σ,H1,I1,q1⟩) I.quiet hs
def tRet (te:TE):TS:=fun D σ H=>te σ H D.rt
theorem ps_ret (he:PE X e te):PS X (.Return (some e) pos) (tRet te):=by
 intro pins s σ H D I h
 exact wpAny_Return_some (thn (he pins s σ H _ I h) fun v s1 ⟨x,H1,I1,r1,q1⟩=>⟨x,σ,H1,I1,r1,q1⟩)
def tIfS (c:TT) (t u:TS):TS:=fun D σ H=>c σ H fun b H1=>if b=true then t D σ H1 else u D σ H1
theorem ps_if {c:Expr} {a b:List Stmt} {tc:TT} (hc:PT X c tc) (ha:PSs X a t) (hb:PSs X b u):PS X (.If c a b pos) (tIfS tc t u):=by
 intro pins s σ H D I h
 refine wpAny_If (thn (hc pins s σ H _ I h) fun d s1 ⟨H1,I1,q1⟩=>?_)
 cases d with
 | true=>exact ha pins s1 σ H1 D I1 q1
 | false=>exact hb pins s1 σ H1 D I1 q1
end
abbrev TG:=V->St->Hp->(St->Hp->Prop)->Prop
abbrev TGs:=List V->St->Hp->(St->Hp->Prop)->Prop
def PG (X:Cx) (target:Expr) (t:TG):Prop:=
 ∀(pins:List (Addr×Obj)) (s:Shared) (σ:St) (H:Hp) (v:V) (u:Value) (Q:St->Hp->Prop),Inv X pins σ H s->RelV v u->t v σ H Q->
  wpAny (model X.prog X.w) X.A (assign target X.env u) (fun _ s'=>∃σ' H',Inv X pins σ' H' s'/\Q σ' H') X.xe s
def PGs (X:Cx) (ts:List Expr) (t:TGs):Prop:=
 ∀(pins:List (Addr×Obj)) (s:Shared) (σ:St) (H:Hp) (vs:List V) (us:List Value) (Q:St->Hp->Prop),Inv X pins σ H s->Vals vs us->t vs σ H Q->
  wpAny (model X.prog X.w) X.A (assignInOrder ((assignEach ts X.env).map (·.2)) us) (fun _ s'=>∃σ' H',Inv X pins σ' H' s'/\Q σ' H') X.xe s
abbrev TSet:=V->V->V->Hp->(Hp->Prop)->Prop
def PSet (X:Cx) (t:TSet):Prop:=
 ∀(pins:List (Addr×Obj)) (s:Shared) (σ:St) (H:Hp) (o i v:V) (ov iv u:Value) (Q:Hp->Prop),Inv X pins σ H s->RelV o ov->RelV i iv->RelV v u->t o i v H Q->
  wpAny (model X.prog X.w) X.A (setItem ov iv u) (fun _ s'=>∃H',Inv X pins σ H' s'/\Q H') X.xe s
abbrev TIp:=V->V->Hp->VK->Prop
def PIp (X:Cx) (op:Operator) (t:TIp):Prop:=
 ∀(pins:List (Addr×Obj)) (s:Shared) (σ:St) (H:Hp) (x y:V) (v u:Value) (Q:VK),Inv X pins σ H s->RelV x v->RelV y u->t x y H Q->
  wpAny (model X.prog X.w) X.A (inplaceOp op v u) (EP X pins σ Q) X.xe s
section
variable {X:Cx} {pos:Pos}
def gName (i:Nat):TG:=fun v σ H Q=>Q (σ.set i (some v)) H
theorem pg_name {i:Nat} {x:Str} (hN:X.N.Nodup) (hi:X.N[i]? = some x) (hx:Loc X.env.scope x) (hf:X.fn x=true\/X.env.scope.names.lookup x=some .local:=by first | exact .inl rfl | exact .inr rfl | assumption):PG X (.Name x pos) (gName i):=by
 intro pins s σ H v u Q I r h
 exact wpAny_assign_Name (store_ok I hN hi hx r (fun s' I'=>⟨_,H,I',h⟩) hf)
def gNil:TGs:=fun vs σ H Q=>vs=[]/\Q σ H
def gCons (t:TG) (u:TGs):TGs:=fun vs σ H Q=>∃v r,vs=v :: r/\t v σ H fun σ' H'=>u r σ' H' Q
theorem pgs_nil:PGs X [] gNil:=by
 intro pins s σ H vs us Q I r h
 obtain ⟨e,h⟩:=h
 subst e
 cases r
 exact assignInOrder_nil ⟨σ,H,I,h⟩
theorem pgs_cons {e:Expr} {es:List Expr} {t:TG} {u:TGs} (h1:PG X e t) (h2:PGs X es u)
  (hs:(assignEach (e :: es) X.env).map (·.2)=assign e X.env :: (assignEach es X.env).map (·.2):=by rfl):PGs X (e :: es) (gCons t u):=by
 intro pins s σ H vs us Q I r h
 obtain ⟨v,vr,e1,h⟩:=h
 subst e1
 cases r with
 | cons r rr=>
  rw [hs]
  refine assignInOrder_cons (thn (h1 pins s σ H _ _ _ I r h) fun _ s1 ⟨σ1,H1,I1,q1⟩=>?_)
  exact h2 pins s1 σ1 H1 _ _ Q I1 rr q1
def gTup (K:PySem.W.Frag) (n:Nat) (t:TGs):TG:=fun v σ H Q=>∃a xs,v=.ref a/\SqT K H a xs/\xs.length=n/\t xs σ H Q
theorem pg_tup {es:List Expr} {k:Nat} {t:TGs} {n:Nat} (hc:X.calm=true) (h:PGs X es t)
  (hn:(assignEach es X.env).length=n:=by rfl) (hst:(assignEach es X.env).findIdx? (·.1)=none:=by rfl):PG X (.Tuple es k pos) (gTup X.K n t):=by
 intro pins s σ H v u Q I r hw
 obtain ⟨a,xs,e1,hq,hl,hw⟩:=hw
 subst e1
 cases r
 obtain ⟨its,rv,ht,hz⟩:=I.tuple hq
 refine assign_Tuple_tuple (I.ok.hd hc) ht (by simp [hn,<-hl,rv.length]) hst fun h' hx=>?_
 have I1:Inv X pins σ H {s with heap:=h'}:=I.kept (t':=s.toks) fun b o e=>hx b o (Nat.ne_of_lt (Heap.lt_size e)) e
 exact h pins _ σ H xs _ Q I1 (by simpa using rv) hw
def gSub (to ti:TE) (t:TSet):TG:=fun v σ H Q=>to σ H fun o H1=>ti σ H1 fun i H2=>t o i v H2 fun H3=>Q σ H3
theorem pg_sub {o i:Expr} {to ti:TE} {t:TSet} (ho:PE X o to) (hi:PE X i ti) (hs:PSet X t)
  (ha:∀v,assign (.Subscript o i pos) X.env v=(do
   let ov <-holding [v] (eval o X.env)
   let iv <-holding [v,ov] (eval i X.env)
   standAt pos
   holding [v,ov,iv] (setItem ov iv v)
   release [v,ov,iv] []):=by intro _;rfl):PG X (.Subscript o i pos) (gSub to ti t):=by
 intro pins s σ H v u Q I r h
 rw [ha]
 refine wpAny_bind (wpAny_holding (thn (ho pins s σ H _ I h) fun ov s1 ⟨x,H1,I1,r1,q1⟩=>?_))
 refine wpAny_bind (wpAny_holding (thn (hi pins s1 σ H1 _ I1 q1) fun iv s2 ⟨y,H2,I2,r2,q2⟩=>?_))
 refine wpAny_bind (wpAny_standAt (wpAny_bind (wpAny_holding (thn (hs pins s2 σ H2 x y v ov iv u _ I2 r1 r2 r q2) fun _ s3 ⟨H3,I3,q3⟩=>?_))))
 exact wpAny_release ⟨σ,H3,I3,q3⟩
def tAsg (te:TE) (g:TG):TS:=fun D σ H=>te σ H fun x H1=>g x σ H1 D.nx
theorem ps_asg {tg e:Expr} {te:TE} {g:TG} (he:PE X e te) (hg:PG X tg g) (hs:swapsWithSole [tg] e pos.line X.env=pure false:=by rfl) (hw:swappedStores [tg] e X.env=pure none:=by rfl)
  (h1:(assignEach [tg] X.env).map (·.2)=[assign tg X.env]:=by rfl):PS X (.Assign [tg] e pos) (tAsg te g):=by
 intro pins s σ H D I h
 refine wpAny_Assign_stores (thn (he pins s σ H _ I h) fun v s1 ⟨x,H1,I1,r1,q1⟩=>?_) hs hw
 rw [h1]
 exact thn (hg pins s1 σ H1 x v _ I1 r1 q1) fun _ s2 q=>q
theorem ps_set {i:Nat} {x:Str} {e:Expr} {te:TE} {pos':Pos} (hN:X.N.Nodup) (hi:X.N[i]? = some x) (hx:Loc X.env.scope x) (he:PE X e te) (hs:swapsWith e (some (.Name x pos')) pos.line X.env=pure false:=by rfl) (hf:X.fn x=true\/X.env.scope.names.lookup x=some .local:=by first | exact .inl rfl | exact .inr rfl | assumption) :
  PS X (.Assign [.Name x pos'] e pos) (tAsg te (gName i)):=by
 intro pins s σ H D I h
 refine wpAny_Assign_Name (thn (he pins s σ H _ I h) fun v s1 ⟨y,H1,I1,r1,q1⟩=>?_) hs
 exact store_ok I1 hN hi hx r1 (fun s2 I2=>⟨_,H1,I2,q1⟩) hf
def tAug (i:Nat) (te:TE) (ti:TIp):TS:=fun D σ H=>∃x,σ[i]? = some (some x)/\te σ H fun y H1=>ti x y H1 fun z H2=>D.nx (σ.set i (some z)) H2
theorem ps_aug {i:Nat} {x:Str} {e:Expr} {te:TE} {op:Operator} {ti:TIp} {pos':Pos} (hN:X.N.Nodup) (hi:X.N[i]? = some x) (hx:Loc X.env.scope x) (he:PE X e te) (ho:PIp X op ti) (hf:X.fn x=true\/X.env.scope.names.lookup x=some .local:=by first | exact .inl rfl | exact .inr rfl | assumption) :
  PS X (.AugAssign (.Name x pos') op e pos) (tAug i te ti):=by
 intro pins s σ H D I h
 obtain ⟨v,e1,h⟩:=h
 obtain ⟨m,hn,hl⟩:=I.loc
 have vis:Vis X.env.scope x:=by rcases hx with k | k;exact .inl k;exact .inr (.inl k)
 obtain ⟨u,r,l⟩:=hl i x v hi e1 vis
 refine wpAny_AugAssign_Name ?_
 have go:wpAny (model X.prog X.w) X.A (eval e X.env) (fun w s₂=>wpAny (model X.prog X.w) X.A (inplaceOp op u w) (fun r s₃=>wpAny (model X.prog X.w) X.A (storeName X.env x r) (fun _=>SP X pins D .next) X.xe s₃) X.xe s₂) X.xe s:=by
  refine thn (he pins s σ H _ I h) fun w s1 ⟨y,H1,I1,r1,q1⟩=>?_
  refine thn (ho pins s1 σ H1 v y u w _ I1 r r1 q1) fun z s2 ⟨zv,H2,I2,r2,q2⟩=>?_
  exact store_ok I2 hN hi hx r2 (fun s3 I3=>⟨_,H2,I3,q2⟩) hf
 rcases l with ⟨hk,hm⟩ | ⟨hk,c,hc,hcell⟩
 ·exact wpAny_loadName_local I.ok.kind hk hn hm go
 ·rcases hk with hk | hk
  ·exact wpAny_loadName_cell I.ok.kind hk hc hcell go
  ·rcases hx with k | k
   ·have:X.env.scope.names.lookup x=some .free:=hk
    rw [k] at this;cases this
   ·have:X.env.scope.names.lookup x=some .free:=hk
    rw [k] at this;cases this
def tAugS (to ti te:TE) (tget:V->V->Hp->VK->Prop) (tip:TIp) (tset:TSet):TS:=fun D σ H=>to σ H fun o H1=>ti σ H1 fun i H2=>tget o i H2 fun x H3=>te σ H3 fun y H4=>tip x y H4 fun z H5=>tset o i z H5 fun H6=>D.nx σ H6
def PGet (X:Cx) (t:V->V->Hp->VK->Prop):Prop:=
 ∀(pins:List (Addr×Obj)) (s:Shared) (σ:St) (H:Hp) (o i:V) (ov iv:Value) (Q:VK),Inv X pins σ H s->RelV o ov->RelV i iv->t o i H Q->
  wpAny (model X.prog X.w) X.A (getItem ov iv) (EP X pins σ Q) X.xe s
theorem ps_augS {o i e:Expr} {to ti te:TE} {tget:V->V->Hp->VK->Prop} {tip:TIp} {tset:TSet} {op:Operator} {tpos:Pos} (ho:PE X o to) (hi:PE X i ti) (hg:PGet X tget) (he:PE X e te) (hp:PIp X op tip) (hs:PSet X tset)
  (ha:∀ov iv new,augStore i ov iv new=(do holding [new,ov,iv] (setItem ov iv new);release [new,ov,iv] [];pure .next):=by intros;rfl):PS X (.AugAssign (.Subscript o i tpos) op e pos) (tAugS to ti te tget tip tset):=by
 intro pins s σ H D I h
 refine wpAny_AugAssign_SubscriptAny (thn (ho pins s σ H _ I h) fun ov s1 ⟨x1,H1,I1,r1,q1⟩=>?_) ha
 refine thn (hi pins s1 σ H1 _ I1 q1) fun iv s2 ⟨x2,H2,I2,r2,q2⟩=>?_
 refine thn (hg pins s2 σ H2 x1 x2 ov iv _ I2 r1 r2 q2) fun old s3 ⟨x3,H3,I3,r3,q3⟩=>?_
 refine thn (he pins s3 σ H3 _ I3 q3) fun v s4 ⟨x4,H4,I4,r4,q4⟩=>?_
 refine thn (hp pins s4 σ H4 x3 x4 old v _ I4 r3 r4 q4) fun new s5 ⟨x5,H5,I5,r5,q5⟩=>?_
 exact thn (hs pins s5 σ H5 x1 x2 x5 ov iv new _ I5 r1 r2 r5 q5) fun _ s6 ⟨H6,I6,q6⟩=>⟨σ,H6,I6,q6⟩
def ipI (f:Int->Int->Int):TIp:=fun x y H Q=>∃i j,x=.int i/\y=.int j/\Q (.int (f i j)) H
theorem ip_add:PIp X .Add (ipI fun i j=>i + j):=by
 intro pins s σ H x y v u Q I r1 r2 h
 obtain ⟨i,j,e1,e2,q⟩:=h
 subst e1;subst e2
 obtain ⟨t,rfl⟩:=r1
 obtain ⟨t',rfl⟩:=r2
 exact iadd_int ⟨.int _,H,I.tok _,⟨_,rfl⟩,q⟩
end
section
variable {X:Cx} {pos:Pos}
def tWhile (c:TT) (tb:TS):TS:=fun D σ H=>∃W:Nat->St->Hp->Prop,(∃m,W m σ H)/\∀m σ H,W m σ H->
 c σ H fun b H1=>if b=true then ∃N:St->Hp->Prop,(∀σ' H',N σ' H'->∃m',m' < m/\W m' σ' H')/\tb {D with nx:=N,ct:=N,bk:=D.nx} σ H1 else D.nx σ H1
theorem ps_while {c:Expr} {body:List Stmt} {tc:TT} {tb:TS} (hp:PassesOwn (model X.prog X.w) X.A X.env X.xe) (hc:PT X c tc) (hb:PSs X body tb):PS X (.While c body [] pos) (tWhile tc tb):=by
 intro pins s σ H D I h
 obtain ⟨W,⟨m0,w0⟩,turn⟩:=h
 refine wpAny_While (codeAny_whileLoop (fun n s'=>∃σ' H',Inv X pins σ' H' s'/\W n σ' H') ?_ m0 ⟨σ,H,I,w0⟩)
 rintro n s1 ⟨σ1,H1,I1,w1⟩
 refine wpAny_passesOwn hp (thn (hc pins s1 σ1 H1 _ I1 (turn n σ1 H1 w1)) fun b s2 ⟨H2,I2,q2⟩=>?_)
 cases b with
 | true=>
  obtain ⟨N,hN,q2⟩:=q2
  rw [if_pos rfl]
  refine wpAny_passesOwn hp (thn (hb pins s2 σ1 H2 _ I2 q2) fun f s3 q3=>?_)
  cases f with
  | next=>
   obtain ⟨σ3,H3,I3,n3⟩:=q3
   obtain ⟨m',hm,w3⟩:=hN σ3 H3 n3
   exact ⟨m',hm,σ3,H3,I3,w3⟩
  | cont=>
   obtain ⟨σ3,H3,I3,n3⟩:=q3
   obtain ⟨m',hm,w3⟩:=hN σ3 H3 n3
   exact ⟨m',hm,σ3,H3,I3,w3⟩
  | brk=>exact q3
  | ret v=>exact q3
 | false=>
  rw [if_neg Bool.false_ne_true]
  exact wpAny_execs_nil ⟨σ1,H2,I2,q2⟩
end
structure It where
 go:Nat->Hp->Prop
 yld:Nat->Hp->V->Hp->Prop
 stop:Nat->Hp->Prop
def FpOk (X:Cx) (pins:List (Addr×Obj)) (H:Hp) (b:Addr):Prop:=
 H b=none/\b≠X.env.locals/\b∉X.fs/\(b∈X.ex\/X.s₀.heap.objs.size<=b)/\(∀x c,X.env.cells.lookup x=some c->c≠b)/\∀p∈X.pn ++ pins,p.1≠b
theorem Inv.fpOk {X:Cx} {pins:List (Addr×Obj)} {σ:St} {H H':Hp} {s:Shared} {b:Addr} (I:Inv X pins σ H s) (hb:s.heap.objs.size<=b) (hn:H' b=none):FpOk X pins H' b:=by
 refine ⟨hn,Nat.ne_of_gt (Nat.lt_of_lt_of_le I.lt hb),I.nofs hb,.inr (Nat.le_trans I.sz hb),fun x c e z=>?_,fun p hp z=>?_⟩
 ·obtain ⟨v,q⟩:=I.cell x c e
  exact absurd (Nat.lt_of_lt_of_le q.lt (by rw [z];exact hb)) (Nat.lt_irrefl _)
 ·exact absurd (Nat.lt_of_lt_of_le (Heap.lt_size (I.pin p hp).1) (by rw [z];exact hb)) (Nat.lt_irrefl _)
structure Turn (P:Program) (w:World) (K:PySem.W.Frag) (tg:Expr) (J:It) (fp:List Addr) (it:Addr) (tn:Nat->Heap->Prop):Prop where
 mem:it∈fp
 obj:∀i h,tn i h->∀b∈fp,∃o,h.get? b=some o/\∀v,o.data≠.cell v
 keep:∀i h h',tn i h->(∀b∈fp,∀o,h.get? b=some o->h'.get? b=some o)->tn i h'
 item:∀(X:Cx),X.prog=P->X.w=w->X.K=K->X.calm=true->∀(i:Nat) (pins:List (Addr×Obj)) (s:Shared) (σ:St) (H:Hp) (E:Value->Shared->Prop),Inv X pins σ H s->(∀b∈fp,FpOk X pins H b)->tn i s.heap->J.go i H->
  wpAny (model P w) X.A (pyNext (.ref it)) (fun r s1=>∃u,r=some u/\
   wpAny (model P w) X.A (letOwnedTupleGo tg (.ref it) u) (fun _ s2=>∃x H',Inv X pins σ H' s2/\RelV x u/\J.yld i H x H'/\tn (i + 1) s2.heap/\∀b∈fp,H' b=none) E s1) E s
 done:∀(X:Cx),X.prog=P->X.w=w->X.K=K->X.calm=true->∀(i:Nat) (pins:List (Addr×Obj)) (s:Shared) (σ:St) (H:Hp) (E:Value->Shared->Prop),Inv X pins σ H s->(∀b∈fp,FpOk X pins H b)->tn i s.heap->J.stop i H->
  wpAny (model P w) X.A (pyNext (.ref it)) (fun r s1=>r=none/\Inv X pins σ H s1) E s
 self:∀(A:Around) (i:Nat) (s:Shared) (Q:Value->Shared->Prop) (E:Value->Shared->Prop),tn i s.heap->Q (.ref it) s->wpAny (model P w) A (pyIter (.ref it)) Q E s
abbrev TI:=St->Hp->(It->Hp->Prop)->Prop
def PIE (X:Cx) (pins:List (Addr×Obj)) (σ:St) (tg:Expr) (R:It->Hp->Prop) (itv:Value) (s2:Shared):Prop:=
 ∃(it:Addr) (fp:List Addr) (tn:Nat->Heap->Prop) (J:It) (H':Hp),itv=.ref it/\Inv X pins σ H' s2/\Turn X.prog X.w X.K tg J fp it tn/\tn 0 s2.heap/\(∀b∈fp,FpOk X pins H' b)/\R J H'
def PI (X:Cx) (tg iter:Expr) (wi:TI):Prop:=
 ∀(pins:List (Addr×Obj)) (s:Shared) (σ:St) (H:Hp) (R:It->Hp->Prop),Inv X pins σ H s->wi σ H R->
  wpAny (model X.prog X.w) X.A (eval iter X.env) (fun v s1=>wpAny (model X.prog X.w) X.A (pyIter v) (PIE X pins σ tg R) X.xe s1) X.xe s
theorem go_of {M : Model} {A : Around} {E : Value → Shared → Prop} {s : Shared} {tg : Expr} {it : Addr} {u : Value} {o : Obj} {n : String} {vs : Array Value} {Q : Unit → Shared → Prop} (ho : s.heap.get? it = some o) (hc : o.cls = .type n) (hd : o.data = .fields vs)
    (hn : ["enumerate", "zip", "dict_itemiterator", "dict_reverseitemiterator", "odict_iterator", "itertools.zip_longest", "itertools.pairwise"].contains n = false) (hQ : Q () s) : wpAny M A (letOwnedTupleGo tg (.ref it) u) Q E s := by
  unfold letOwnedTupleGo
  cases tg <;> first
    | exact wpAny_pure hQ
    | (cases u <;> first
        | exact wpAny_pure hQ
        | (refine wpAny_bind (wpAny_load ho ?_)
           rw [hc, hd]
           show wpAny M A (if (["enumerate", "zip", "dict_itemiterator", "dict_reverseitemiterator", "odict_iterator", "itertools.zip_longest", "itertools.pairwise"].contains n && vs[0]? == some (rawInt _)) = true then _ else _) Q E s
           rw [if_neg (by intro h; rw [hn, Bool.false_and] at h; cases h)]
           exact wpAny_pure hQ))
def Itl (K:PySem.W.Frag) (a:Addr):It:=
 ⟨fun i H=>∃xs x,SqL K H a xs/\xs[i]? = some x,fun i H x H'=>H'=H/\∀xs,SqL K H a xs->xs[i]? = some x,fun i H=>∃xs,SqL K H a xs/\xs.length<=i⟩
def Itt (K:PySem.W.Frag) (a:Addr):It:=
 ⟨fun i H=>∃xs x,SqT K H a xs/\xs[i]? = some x,fun i H x H'=>H'=H/\∀xs,SqT K H a xs->xs[i]? = some x,fun i H=>∃xs,SqT K H a xs/\xs.length<=i⟩
def Itr (lo:Int) (n:Nat):It:=⟨fun i _=>i < n,fun i H x H'=>H'=H/\x=.int (lo + i),fun i _=>n<=i⟩
theorem turn_list {P:Program} {w:World} {K:PySem.W.Frag} {tg:Expr} (a it:Addr):Turn P w K tg (Itl K a) [it] it (fun i h=>h.IsListIter it a i) where
 mem:=by simp
 obj:=fun i h st b hb=>by
  have e:b=it:=by simpa using hb
  subst e
  obtain ⟨o,e,c,d⟩:=st
  exact ⟨o,e,fun v z=>by rw [d] at z;cases z⟩
 keep:=fun i h h' st k=>st.at fun o e=>k it (by simp) o e
 item:=by
  intro X hP hw hK hc i pins s σ H E I hf st hg
  subst hP hw hK
  obtain ⟨xs,x,hq,hx⟩:=hg
  obtain ⟨its,rv,p,hz⟩:=I.list hq
  obtain ⟨u,hu,ru⟩:=rv.get hx
  obtain ⟨f0,f1,f2,f3,f4,f5⟩:=hf it (by simp)
  refine wpAny_pyNext_list_item st p.isList (x:=u) (by simpa using hu) fun h' st' sb=>?_
  have I1:Inv X pins σ H {s with heap:=h'}:=I.turned (t':=s.toks) (fun b o hb e=>(sb.2 b hb).trans e) f0 f1 f3 f4 f5
  obtain ⟨o,e,c,d⟩:=id st'
  exact ⟨u,rfl,go_of (s:={s with heap:=h'}) e c d (by decide) ⟨x,H,I1,ru,⟨rfl,fun ys hy=>by rw [I.list_inj hy hq];exact hx⟩,st',fun b hb=>(hf b hb).1⟩⟩
 done:=by
  intro X hP hw hK hc i pins s σ H E I hf st hg
  subst hP hw hK
  obtain ⟨xs,hq,hx⟩:=hg
  obtain ⟨its,rv,p,hz⟩:=I.list hq
  obtain ⟨f0,f1,f2,f3,f4,f5⟩:=hf it (by simp)
  have hl:=rv.length
  exact wpAny_pyNext_list_end (I.ok.hd hc) st p.isList (by simp;omega) fun h' eb=>⟨rfl,I.turned (t':=s.toks) (fun b o hb e=>eb b o hb e) f0 f1 f3 f4 f5⟩
 self:=fun _ _ _ _ _ st h=>wpAny_pyIter_listiter st h
theorem turn_tuple {P:Program} {w:World} {K:PySem.W.Frag} {tg:Expr} (a it:Addr):Turn P w K tg (Itt K a) [it] it (fun i h=>h.IsTupleIter it a i) where
 mem:=by simp
 obj:=fun i h st b hb=>by
  have e:b=it:=by simpa using hb
  subst e
  obtain ⟨o,e,c,d⟩:=st
  exact ⟨o,e,fun v z=>by rw [d] at z;cases z⟩
 keep:=fun i h h' st k=>st.at fun o e=>k it (by simp) o e
 item:=by
  intro X hP hw hK hc i pins s σ H E I hf st hg
  subst hP hw hK
  obtain ⟨xs,x,hq,hx⟩:=hg
  obtain ⟨its,rv,p,hz⟩:=I.tuple hq
  obtain ⟨u,hu,ru⟩:=rv.get hx
  obtain ⟨f0,f1,f2,f3,f4,f5⟩:=hf it (by simp)
  refine wpAny_pyNext_tuple_item st (show s.heap.IsTuple a its.toArray from p) (x:=u) (by simpa using hu) fun h' st' sb=>?_
  have I1:Inv X pins σ H {s with heap:=h'}:=I.turned (t':=s.toks) (fun b o hb e=>(sb.2 b hb).trans e) f0 f1 f3 f4 f5
  obtain ⟨o,e,c,d⟩:=id st'
  exact ⟨u,rfl,go_of (s:={s with heap:=h'}) e c d (by decide) ⟨x,H,I1,ru,⟨rfl,fun ys hy=>by rw [I.tuple_inj hy hq];exact hx⟩,st',fun b hb=>(hf b hb).1⟩⟩
 done:=by
  intro X hP hw hK hc i pins s σ H E I hf st hg
  subst hP hw hK
  obtain ⟨xs,hq,hx⟩:=hg
  obtain ⟨its,rv,p,hz⟩:=I.tuple hq
  obtain ⟨f0,f1,f2,f3,f4,f5⟩:=hf it (by simp)
  have hl:=rv.length
  exact wpAny_pyNext_tuple_end (I.ok.hd hc) st (show s.heap.IsTuple a its.toArray from p) (by simp;omega) fun h' eb=>⟨rfl,I.turned (t':=s.toks) (fun b o hb e=>eb b o hb e) f0 f1 f3 f4 f5⟩
 self:=fun _ _ _ _ _ st h=>wpAny_pyIter_tupleiter st h
theorem turn_range {P:Program} {w:World} {K:PySem.W.Frag} {tg:Expr} (it:Addr) (lo:Int) (n:Nat):Turn P w K tg (Itr lo n) [it] it (fun i h=>IsRangeIter h it (lo + (i:Nat) * 1) ((n:Int) - (i:Nat)) 1) where
 mem:=by simp
 obj:=fun i h st b hb=>by
  have e:b=it:=by simpa using hb
  subst e
  exact ⟨_,st,fun v z=>by
   have z':Data.fields _=Data.cell v:=z
   cases z'⟩
 keep:=fun i h h' st k=>k it (by simp) _ st
 item:=by
  intro X hP hw hK hc i pins s σ H E I hf st hg
  subst hP hw hK
  obtain ⟨f0,f1,f2,f3,f4,f5⟩:=hf it (by simp)
  have W:=Walks.range (prog:=X.prog) (w:=X.w) (I.ok.hd hc) it lo 1 n
  refine W.item i s _ _ hg st fun v h' tk hv st' kk=>?_
  obtain ⟨t,rfl⟩:=hv
  have I1:Inv X pins σ H {s with heap:=h',toks:=tk}:=I.turned (fun b o hb e=>kk b o (by simpa using hb) e) f0 f1 f3 f4 f5
  refine ⟨_,rfl,go_of (s:={s with heap:=h',toks:=tk}) (n:="range_iterator") st' rfl rfl (by decide) ⟨.int (lo + i),H,I1,⟨t,?_⟩,⟨rfl,rfl⟩,st',fun b hb=>(hf b hb).1⟩⟩
  rw [Int.mul_one]
 done:=by
  intro X hP hw hK hc i pins s σ H E I hf st hg
  subst hP hw hK
  obtain ⟨f0,f1,f2,f3,f4,f5⟩:=hf it (by simp)
  exact wpAny_pyNext_range_end (I.ok.hd hc) st (by have:n<=i:=hg;omega) fun h' eb=>⟨rfl,I.turned (t':=s.toks) (fun b o hb e=>eb b o hb e) f0 f1 f3 f4 f5⟩
 self:=fun _ _ _ _ _ st h=>wpAny_pyIter_rangeiter st h
end L2
namespace L2
open PySem PySem.Spec PyProof.Rows
section
variable {X:Cx} {tg:Expr}
def iList (K:PySem.W.Frag) (tl:TE):TI:=fun σ H R=>tl σ H fun x H1=>∃a,x=.ref a/\(∃xs,SqL K H1 a xs)/\R (Itl K a) H1
def iTup (K:PySem.W.Frag) (tl:TE):TI:=fun σ H R=>tl σ H fun x H1=>∃a,x=.ref a/\(∃xs,SqT K H1 a xs)/\R (Itt K a) H1
theorem pi_list {l:Expr} {tl:TE} (hl:PE X l tl):PI X tg l (iList X.K tl):=by
 intro pins s σ H R I h
 refine thn (hl pins s σ H _ I h) fun v s1 ⟨x,H1,I1,r1,q1⟩=>?_
 obtain ⟨a,e,⟨xs,hq⟩,q⟩:=q1
 subst e
 cases r1
 obtain ⟨its,rv,p,hz⟩:=I1.list hq
 refine wpAny_pyIter_list p.isList ?_
 refine ⟨s1.heap.objs.size,[s1.heap.objs.size],_,_,H1,rfl,I1.kept (t':=s1.toks) fun b o e=>Heap.get?_push_of_some _ e,turn_list a _,⟨_,Heap.get?_push_size _ rfl,rfl,rfl⟩,fun b hb=>?_,q⟩
 have e:b=s1.heap.objs.size:=by simpa using hb
 subst e
 exact I1.fpOk (Nat.le_refl _) (I1.hok.fresh (Nat.le_refl _))
theorem pi_tup {l:Expr} {tl:TE} (hl:PE X l tl):PI X tg l (iTup X.K tl):=by
 intro pins s σ H R I h
 refine thn (hl pins s σ H _ I h) fun v s1 ⟨x,H1,I1,r1,q1⟩=>?_
 obtain ⟨a,e,⟨xs,hq⟩,q⟩:=q1
 subst e
 cases r1
 obtain ⟨its,rv,p,hz⟩:=I1.tuple hq
 refine wpAny_pyIter_tuple (show s1.heap.IsTuple a its.toArray from p) ?_
 refine ⟨s1.heap.objs.size,[s1.heap.objs.size],_,_,H1,rfl,I1.kept (t':=s1.toks) fun b o e=>Heap.get?_push_of_some _ e,turn_tuple a _,⟨_,Heap.get?_push_size _ rfl,rfl,rfl⟩,fun b hb=>?_,q⟩
 have e:b=s1.heap.objs.size:=by simpa using hb
 subst e
 exact I1.fpOk (Nat.le_refl _) (I1.hok.fresh (Nat.le_refl _))
theorem range_it {pins:List (Addr×Obj)} {σ:St} {H:Hp} {s:Shared} {R:It->Hp->Prop} {E:Value->Shared->Prop} {lo hi:Int} {t u v:Tok} {tk:Nat} (I:Inv X pins σ H s) (h1:-(2 ^ 62)<=lo) (h2:lo < 2 ^ 62) (h3:-(2 ^ 62)<=hi) (h4:hi < 2 ^ 62)
  (q:R (Itr lo (hi - lo).toNat) H):wpAny (model X.prog X.w) X.A (pyIter (.ref s.heap.objs.size)) (PIE X pins σ tg R) E {s with heap:=s.heap.push {cls:=.type "range",data:=.fields #[.int lo t,.int hi u,.int 1 v]},toks:=tk}:=by
 refine wpAny_pyIter_range (IsRange.new ..) (small_one h1 h2 h3 h4) ?_
 have I1:Inv X pins σ H {s with heap:=s.heap.push {cls:=.type "range",data:=.fields #[.int lo t,.int hi u,.int 1 v]},toks:=tk}:=I.kept fun b o e=>Heap.get?_push_of_some _ e
 refine ⟨(s.heap.push {cls:=.type "range",data:=.fields #[.int lo t,.int hi u,.int 1 v]}).objs.size,[(s.heap.push {cls:=.type "range",data:=.fields #[.int lo t,.int hi u,.int 1 v]}).objs.size],_,_,H,rfl,
  I1.kept (t':=tk) fun b o e=>Heap.get?_push_of_some _ e,turn_range _ lo (hi - lo).toNat,?_,fun b hb=>?_,q⟩
 ·have e1:lo + ((0:Nat):Int) * 1=lo:=by simp
  have e2:(((hi - lo).toNat:Nat):Int) - ((0:Nat):Int)=Builtin.Range.rangeSize lo hi 1:=by rw [rangeSize_one];split <;> omega
  show IsRangeIter _ _ (lo + ((0:Nat):Int) * 1) ((((hi - lo).toNat:Nat):Int) - ((0:Nat):Int)) 1
  rw [e1,e2]
  exact Heap.get?_push_size _ rfl
 ·have e:b=(s.heap.push {cls:=.type "range",data:=.fields #[.int lo t,.int hi u,.int 1 v]}).objs.size:=by simpa using hb
  subst e
  exact I1.fpOk (Nat.le_refl _) (I1.hok.fresh (Nat.le_refl _))
def iRng1 (ta:TA):TI:=fun σ H R=>ta σ H fun vs H1=>∃j:Int,vs=[.int j]/\-(2 ^ 62)<=j/\j < 2 ^ 62/\R (Itr 0 j.toNat) H1
theorem pi_range1 {a:Expr} {ta:TA} {p pos:Pos} (hg:Gl X "range") (hm:X.mg "range" = none) (ha:PA X [a] ta) (hs:starEach [a] X.env=[(false,eval a X.env)]:=by rfl):PI X tg (.Call (.Name "range" p) [a] [] pos) (iRng1 ta):=by
 intro pins s σ H R I h
 refine Call_ (ld_blt I hg hm boot_range (PyProof.Rows.callWith_type1 (thn (ha pos pins s σ H _ I h) fun us s1 ⟨vs,H1,I1,r1,q1⟩=>?_) hs rfl))
 obtain ⟨j,e,q1,q2,q⟩:=q1
 subst e
 cases r1 with
 | cons r rr=>
  cases rr
  obtain ⟨t,rfl⟩:=r
  exact call_range_1 (range_it I1 (by omega) (by omega) q1 q2 (by simpa using q))
def tFor (wi:TI) (g:TG) (tb:TS):TS:=fun D σ H=>wi σ H fun J H1=>∃W:Nat->Nat->St->Hp->Prop,(∃m,W 0 m σ H1)/\∀i m σ H,W i m σ H->
 (J.stop i H/\D.nx σ H)\/(J.go i H/\∃N:St->Hp->Prop,(∀σ' H',N σ' H'->∃m',m' < m/\W (i + 1) m' σ' H')/\∀x H',J.yld i H x H'->g x σ H' fun σ2 H2=>tb {D with nx:=N,ct:=N,bk:=D.nx} σ2 H2)
def pinsAt (fp:List Addr) (h:Heap):List (Addr×Obj):=fp.filterMap fun b=>(h.get? b).map fun o=>(b,o)
theorem mem_pinsAt {fp:List Addr} {h:Heap} {b:Addr} {o:Obj} (hb:b∈fp) (e:h.get? b=some o):(b,o)∈pinsAt fp h:=List.mem_filterMap.mpr ⟨b,hb,by rw [e];rfl⟩
theorem of_pinsAt {fp:List Addr} {h:Heap} {p:Addr×Obj} (hp:p∈pinsAt fp h):p.1∈fp/\h.get? p.1=some p.2:=by
 obtain ⟨b,hb,e⟩:=List.mem_filterMap.mp hp
 cases q:h.get? b with
 | none=>rw [q] at e;cases e
 | some o=>
  rw [q] at e
  have e':(b,o)=p:=Option.some.inj e
  subst e'
  exact ⟨hb,q⟩
theorem Inv.pinned {pins:List (Addr×Obj)} {σ:St} {H:Hp} {s:Shared} {fp:List Addr} (I:Inv X pins σ H s) (hf:∀b∈fp,FpOk X pins H b) (ho:∀b∈fp,∃o,s.heap.get? b=some o/\∀v,o.data≠.cell v):Inv X (pins ++ pinsAt fp s.heap) σ H s:=
 I.pins_of fun p hp=>(List.mem_append.mp hp).elim (fun z=>I.pin p (List.mem_append_right _ z)) fun z=>by
  obtain ⟨hb,e⟩:=of_pinsAt z
  obtain ⟨f0,f1,f2,_⟩:=hf p.1 hb
  obtain ⟨o,e',d⟩:=ho p.1 hb
  rw [e] at e';cases e'
  exact ⟨e,f0,f1,f2,d⟩
theorem Inv.unpinned {pins pl:List (Addr×Obj)} {σ:St} {H:Hp} {s:Shared} (I:Inv X (pins ++ pl) σ H s):Inv X pins σ H s:=I.pins_of fun p hp=>I.pin p (List.mem_append_right _ (List.mem_append_left _ hp))
theorem ps_for {iter:Expr} {body:List Stmt} {wi:TI} {g:TG} {tb:TS} {pos:Pos} (hp:PassesOwn (model X.prog X.w) X.A X.env X.xe) (hc:X.calm=true) (hi:PI X tg iter wi) (hg:PG X tg g) (hb:PSs X body tb)
  (hs:∀x,foldedSetIterable iter X.env x=pure x:=by intro _;rfl):PS X (.For tg iter body [] pos) (tFor wi g tb):=by
 intro pins s σ H D I h
 refine wpAny_For (thn (hi pins s σ H _ I h) fun v s1 h1=>thn h1 fun itv s2 h2=>?_) hs
 obtain ⟨it,fp,tn,J,H2,e,I2,T,st2,f2,W,⟨m0,w0⟩,turn⟩:=h2
 subst e
 -- what stays true of the iterator's objects through the loop
 have stat:∀{H':Hp},(∀b∈fp,H' b=none)->∀b∈fp,FpOk X pins H' b:=fun hn b hb=>⟨hn b hb,(f2 b hb).2⟩
 refine codeAny_forLoop_any (fun n s'=>∃i σ' H',Inv X pins σ' H' s'/\tn i s'.heap/\(∀b∈fp,H' b=none)/\W i n σ' H') ?_ m0 ⟨0,σ,H2,I2,st2,fun b hb=>(f2 b hb).1,w0⟩
 rintro n s3 ⟨i,σ3,H3,I3,st3,fr3,w3⟩
 rcases turn i n σ3 H3 w3 with ⟨stop,qn⟩ | ⟨go,N,hN,step⟩
 ·refine wpAny_passesOwn hp (thn (T.done X rfl rfl rfl hc i pins s3 σ3 H3 X.xe I3 (stat fr3) st3 stop) fun r s4 ⟨hr,I4⟩=>?_)
  subst hr
  exact wpAny_execs_nil ⟨σ3,H3,I4,qn⟩
 ·refine wpAny_passesOwn hp (thn (T.item X rfl rfl rfl hc i pins s3 σ3 H3 X.xe I3 (stat fr3) st3 go) fun r s4 ⟨u,hr,h4⟩=>?_)
  subst hr
  refine wpAny_passesOwn hp (thn h4 fun _ s5 ⟨x,H5,I5,r5,y5,st5,fr5⟩=>?_)
  have I5':=I5.pinned (stat fr5) (T.obj _ _ st5)
  refine wpAny_passesOwn hp (thn (hg _ s5 σ3 H5 x u _ I5' r5 (step x H5 y5)) fun _ s6 ⟨σ6,H6,I6,q6⟩=>?_)
  refine wpAny_passesOwn hp (thn (hb _ s6 σ6 H6 _ I6 q6) fun f s7 q7=>?_)
  have again:∀{σ7:St} {H7:Hp},Inv X (pins ++ pinsAt fp s5.heap) σ7 H7 s7->N σ7 H7->∃m,m < n/\∃i σ' H',Inv X pins σ' H' s7/\tn i s7.heap/\(∀b∈fp,H' b=none)/\W i m σ' H':=fun {σ7 H7} I7 n7=>by
   obtain ⟨m',hm,w7⟩:=hN σ7 H7 n7
   refine ⟨m',hm,i + 1,σ7,H7,I7.unpinned,T.keep _ _ _ st5 fun b hb o e=>(I7.pin (b,o) (List.mem_append_right _ (List.mem_append_right _ (mem_pinsAt hb e)))).1,fun b hb=>?_,w7⟩
   obtain ⟨o,e,d⟩:=T.obj _ _ st5 b hb
   exact (I7.pin (b,o) (List.mem_append_right _ (List.mem_append_right _ (mem_pinsAt hb e)))).2.1
  cases f with
  | next=>obtain ⟨σ7,H7,I7,n7⟩:=q7;exact again I7 n7
  | cont=>obtain ⟨σ7,H7,I7,n7⟩:=q7;exact again I7 n7
  | brk=>obtain ⟨σ7,H7,I7,q7⟩:=q7;exact ⟨σ7,H7,I7.unpinned,q7⟩
  | ret v=>obtain ⟨x7,σ7,H7,I7,r7,q7⟩:=q7;exact ⟨x7,σ7,H7,I7.unpinned,r7,q7⟩
end
theorem for_list {K:PySem.W.Frag} {a:Addr} {xs:List V} {g:TG} {tb:TS} {D:Ends} {σ:St} {H:Hp} (Pv:Nat->St->Hp->Prop) (h0:Pv 0 σ H) (hl:∀i σ H,i<=xs.length->Pv i σ H->SqL K H a xs)
  (hs:∀i x σ H,xs[i]? = some x->Pv i σ H->g x σ H fun σ2 H2=>tb {D with nx:=Pv (i + 1),ct:=Pv (i + 1),bk:=D.nx} σ2 H2) (hd:∀σ H,Pv xs.length σ H->D.nx σ H) :
  ∃W:Nat->Nat->St->Hp->Prop,(∃m,W 0 m σ H)/\∀i m σ H,W i m σ H->
   ((Itl K a).stop i H/\D.nx σ H)\/((Itl K a).go i H/\∃N:St->Hp->Prop,(∀σ' H',N σ' H'->∃m',m' < m/\W (i + 1) m' σ' H')/\∀x H',(Itl K a).yld i H x H'->g x σ H' fun σ2 H2=>tb {D with nx:=N,ct:=N,bk:=D.nx} σ2 H2):=by
 refine ⟨fun i m σ H=>m=xs.length - i/\i<=xs.length/\Pv i σ H,⟨xs.length,by simp,Nat.zero_le _,h0⟩,?_⟩
 rintro i m σ H ⟨rfl,hi,p⟩
 have q:=hl i σ H hi p
 by_cases hlt:i < xs.length
 ·refine .inr ⟨⟨xs,xs[i],q,by simp [hlt]⟩,Pv (i + 1),fun σ' H' p'=>⟨xs.length - (i + 1),by omega,rfl,hlt,p'⟩,fun x H' y=>?_⟩
  obtain ⟨e,y⟩:=y
  subst e
  exact hs i x σ _ (y xs q) p
 ·have e:i=xs.length:=by omega
  subst e
  exact .inl ⟨⟨xs,q,Nat.le_refl _⟩,hd σ H p⟩
theorem while_by {c:TT} {tb:TS} {D:Ends} {σ:St} {H:Hp} (Pv:St->Hp->Prop) (μ:St->Hp->Nat) (h0:Pv σ H)
  (hs:∀σ H,Pv σ H->c σ H fun b H1=>if b=true then tb {D with nx:=fun σ' H'=>Pv σ' H'/\μ σ' H' < μ σ H,ct:=fun σ' H'=>Pv σ' H'/\μ σ' H' < μ σ H,bk:=D.nx} σ H1 else D.nx σ H1)
  (mono:∀σ H Q Q',(∀b H1,Q b H1->Q' b H1)->c σ H Q->c σ H Q'):tWhile c tb D σ H:=by
 refine ⟨fun m σ H=>m=μ σ H/\Pv σ H,⟨_,rfl,h0⟩,?_⟩
 rintro m σ H ⟨rfl,p⟩
 refine mono σ H _ _ (fun b H1 q=>?_) (hs σ H p)
 cases b with
 | true=>exact ⟨_,fun σ' H' ⟨p',l⟩=>⟨_,l,rfl,p'⟩,q⟩
 | false=>exact q
end L2
namespace L2
open PySem PySem.Spec PyProof.Rows
abbrev R2:=V->V->Hp->VK->Prop
def OpR (X:Cx) (f:Value->Value->Sem Value) (r:R2):Prop:=
 ∀(pins:List (Addr×Obj)) (s:Shared) (σ:St) (H:Hp) (x y:V) (v u:Value) (Q:VK),Inv X pins σ H s->RelV x v->RelV y u->r x y H Q->
  wpAny (model X.prog X.w) X.A (f v u) (EP X pins σ Q) X.xe s
def UnR (X:Cx) (f:Value->Sem Value) (r:V->Hp->VK->Prop):Prop:=
 ∀(pins:List (Addr×Obj)) (s:Shared) (σ:St) (H:Hp) (x:V) (v:Value) (Q:VK),Inv X pins σ H s->RelV x v->r x H Q->
  wpAny (model X.prog X.w) X.A (f v) (EP X pins σ Q) X.xe s
def CallR (X:Cx) (f:Value) (r:List V->Hp->VK->Prop):Prop:=
 ∀(pins:List (Addr×Obj)) (s:Shared) (σ:St) (H:Hp) (xs:List V) (us:List Value) (Q:VK),Inv X pins σ H s->Vals xs us->r xs H Q->
  wpAny (model X.prog X.w) X.A (call f us) (EP X pins σ Q) X.xe s
def TruR (X:Cx) (r:V->Hp->(Bool->Hp->Prop)->Prop):Prop:=
 ∀(pins:List (Addr×Obj)) (s:Shared) (σ:St) (H:Hp) (x:V) (v:Value) (Q:Bool->Hp->Prop),Inv X pins σ H s->RelV x v->r x H Q->
  wpAny (model X.prog X.w) X.A (truthy v) (TP X pins σ Q) X.xe s
def tOp (r:R2) (ta tb:TE):TE:=fun σ H Q=>ta σ H fun x H1=>tb σ H1 fun y H2=>r x y H2 Q
def tUn (r:V->Hp->VK->Prop) (ta:TE):TE:=fun σ H Q=>ta σ H fun x H1=>r x H1 Q
def rI (C:Int->Int->Prop) (g:Int->Int->V):R2:=fun x y H Q=>∃i j,x=.int i/\y=.int j/\C i j/\Q (g i j) H
def rI0 (g:Int->Int->V):R2:=fun x y H Q=>∃i j,x=.int i/\y=.int j/\Q (g i j) H
def rU (g:Int->V):V->Hp->VK->Prop:=fun x H Q=>∃i,x=.int i/\Q (g i) H
section
variable {X:Cx} {a b c:Expr} {ta tb tc:TE} {pos:Pos}
theorem binT (ha:PE X a ta) (hb:PE X b tb) {pins:List (Addr×Obj)} {s:Shared} {σ:St} {H:Hp} {R:V->V->Hp->Prop} (I:Inv X pins σ H s)
  (h:ta σ H fun x H1=>tb σ H1 fun y H2=>R x y H2) {Q:Value->Shared->Prop} {f:Value->Value->Sem Value}
  (hf:∀v u s2 x y H2,Inv X pins σ H2 s2->RelV x v->RelV y u->R x y H2->wpAny (model X.prog X.w) X.A (f v u) Q X.xe s2) :
  wpAny (model X.prog X.w) X.A (eval a X.env) (fun v s₁=>wpAny (model X.prog X.w) X.A (eval b X.env) (fun u s₂=>wpAny (model X.prog X.w) X.A (f v u) Q X.xe s₂) X.xe s₁) X.xe s:=by
 refine thn (ha pins s σ H _ I h) fun v s1 ⟨x,H1,I1,r1,q1⟩=>?_
 refine thn (hb pins s1 σ H1 _ I1 q1) fun u s2 ⟨y,H2,I2,r2,q2⟩=>?_
 exact hf v u s2 x y H2 I2 r1 r2 q2
theorem pe_op {op:Operator} {r:R2} (ho:OpR X (binaryOp op) r) (ha:PE X a ta) (hb:PE X b tb):PE X (.BinOp a op b pos) (tOp r ta tb):=by
 intro pins s σ H Q I h
 exact wpAny_BinOp (binT ha hb I h fun v u s2 x y H2 I2 rx ry q=>ho pins s2 σ H2 x y v u Q I2 rx ry q)
theorem pe_un {op:UnaryOp} {r:V->Hp->VK->Prop} (ho:UnR X (unaryOp op) r) (ha:PE X a ta):PE X (.UnaryOp op a pos) (tUn r ta):=by
 intro pins s σ H Q I h
 exact UnaryOp_ (thn (ha pins s σ H _ I h) fun v s1 ⟨x,H1,I1,r1,q1⟩=>ho pins s1 σ H1 x v Q I1 r1 q1)
theorem opI {f:Value->Value->Sem Value} {C:Int->Int->Prop} {g:Int->Int->Int}
  (rule:∀(i j:Int) (t u:Tok) (s:Shared) (Q:Value->Shared->Prop) (E:Value->Shared->Prop),C i j->Q (.int (g i j) s.toks) {s with toks:=s.toks + 1}->wpAny (model X.prog X.w) X.A (f (.int i t) (.int j u)) Q E s) :
  OpR X f (rI C fun i j=>.int (g i j)):=by
 intro pins s σ H x y v u Q I rx ry h
 obtain ⟨i,j,rfl,rfl,hc,q⟩:=h
 obtain ⟨t,rfl⟩:=rx
 obtain ⟨t',rfl⟩:=ry
 exact rule i j t t' s _ _ hc ⟨.int (g i j),H,I.tok _,⟨_,rfl⟩,q⟩
theorem opI0 {f:Value->Value->Sem Value} {g:Int->Int->Int}
  (rule:∀(i j:Int) (t u:Tok) (s:Shared) (Q:Value->Shared->Prop) (E:Value->Shared->Prop),Q (.int (g i j) s.toks) {s with toks:=s.toks + 1}->wpAny (model X.prog X.w) X.A (f (.int i t) (.int j u)) Q E s) :
  OpR X f (rI0 fun i j=>.int (g i j)):=by
 intro pins s σ H x y v u Q I rx ry h
 obtain ⟨i,j,rfl,rfl,q⟩:=h
 obtain ⟨t,rfl⟩:=rx
 obtain ⟨t',rfl⟩:=ry
 exact rule i j t t' s _ _ ⟨.int (g i j),H,I.tok _,⟨_,rfl⟩,q⟩
theorem opB0 {f:Value->Value->Sem Value} {g:Int->Int->Bool}
  (rule:∀(i j:Int) (t u:Tok) (s:Shared) (Q:Value->Shared->Prop) (E:Value->Shared->Prop),Q (.bool (g i j)) s->wpAny (model X.prog X.w) X.A (f (.int i t) (.int j u)) Q E s) :
  OpR X f (rI0 fun i j=>.bl (g i j)):=by
 intro pins s σ H x y v u Q I rx ry h
 obtain ⟨i,j,rfl,rfl,q⟩:=h
 obtain ⟨t,rfl⟩:=rx
 obtain ⟨t',rfl⟩:=ry
 exact rule i j t t' s _ _ ⟨.bl (g i j),H,I,rfl,q⟩
def CDiv (i j:Int):Prop:=0 < j/\j < 1073741824
def CPow (i j:Int):Prop:=0<=j/\j<=1000000/\i.natAbs < 2 ^ 64
def CMul (i j:Int):Prop:=(-(2 ^ 64) < i/\i < 2 ^ 64)\/(-(2 ^ 64) < j/\j < 2 ^ 64)
theorem CMul.ok {i j:Int} (h:CMul i j):IntMulOk i j:=by
 rcases h with ⟨h1,h2⟩ | ⟨h1,h2⟩
 ·exact .of_left (intBits_le_64 h1 h2)
 ·exact .of_right (intBits_le_64 h1 h2)
theorem two_pow_nn (k:Nat):(0:Int)<=2 ^ k:=by
 rw [two_pow_cast]
 exact Int.natCast_nonneg _
theorem op_add:OpR X (binaryOp .Add) (rI0 fun i j=>.int (i + j)):=opI0 fun _ _ _ _ _ _ _ q=>add_int q
theorem op_sub:OpR X (binaryOp .Sub) (rI0 fun i j=>.int (i - j)):=opI0 fun _ _ _ _ _ _ _ q=>sub_int q
theorem op_mul:OpR X (binaryOp .Mult) (rI CMul fun i j=>.int (i * j)):=opI fun _ _ _ _ _ _ _ hc q=>mul_int q hc.ok
theorem op_fdiv:OpR X (binaryOp .FloorDiv) (rI CDiv fun i j=>.int (i / j)):=opI fun i j _ _ _ _ _ hc q=>by
 have h1:(0:Int) < j:=hc.1
 have h2:j < 1073741824:=hc.2
 exact floordiv_int (by omega) (by rw [Int.fdiv_eq_ediv_of_nonneg i (by omega)];exact q) (.inl (PyProof.noPylong_small (by omega)))
theorem op_mod:OpR X (binaryOp .Mod) (rI (fun _ j=>0 < j) fun i j=>.int (i % j)):=opI fun i j _ _ _ _ _ hc q=>by
 have h1:(0:Int) < j:=hc
 exact mod_int' (by omega) (by rw [Int.fmod_eq_emod_of_nonneg i (by omega)];exact q)
theorem op_shl:OpR X (binaryOp .LShift) (rI CPow fun i j=>.int (i * 2 ^ j.toNat)):=opI fun _ _ _ _ _ _ _ hc q=>lshift_int_small hc.1 hc.2.1 hc.2.2 q
theorem op_shr:OpR X (binaryOp .RShift) (rI (fun _ j=>0<=j) fun i j=>.int (i / 2 ^ j.toNat)):=opI fun i j _ _ _ _ _ hc q=>
 rshift_int hc (by rw [Int.fdiv_eq_ediv_of_nonneg i (two_pow_nn _)];exact q)
theorem op_and:OpR X (binaryOp .BitAnd) (rI0 fun i j=>.int (Builtin.bitAnd i j)):=opI0 fun _ _ _ _ _ _ _ q=>and_int q
theorem unI {f:Value->Sem Value} {g:Int->Int}
  (rule:∀(i:Int) (t:Tok) (s:Shared) (Q:Value->Shared->Prop) (E:Value->Shared->Prop),Q (.int (g i) s.toks) {s with toks:=s.toks + 1}->wpAny (model X.prog X.w) X.A (f (.int i t)) Q E s) :
  UnR X f (rU fun i=>.int (g i)):=by
 intro pins s σ H x v Q I rx h
 obtain ⟨i,rfl,q⟩:=h
 obtain ⟨t,rfl⟩:=rx
 exact rule i t s _ _ ⟨.int (g i),H,I.tok _,⟨_,rfl⟩,q⟩
theorem un_neg:UnR X (unaryOp .USub) (rU fun i=>.int (-i)):=unI fun _ _ _ _ _ q=>neg_int q
end
def scal:V->V->Bool
 | .non,.non=>true | .non,.int _=>true | .int _,.non=>true | .non,.bl _=>true | .bl _,.non=>true | .non,.str _=>true | .str _,.non=>true
 | .int _,.int _=>true | .bl _,.bl _=>true | .str _,.str _=>true | .byt _,.byt _=>true
 | .int _,.str _=>true | .str _,.int _=>true | .bl _,.str _=>true | .str _,.bl _=>true
 | _,_=>false
def rEq:R2:=fun x y H Q=>scal x y=true/\Q (.bl (decide (x=y))) H
def rNe:R2:=fun x y H Q=>scal x y=true/\Q (.bl (!decide (x=y))) H
theorem dec_int {i j:Int}:decide (V.int i=V.int j)=(i == j):=by
 rw [Bool.eq_iff_iff]
 simp
theorem dec_bl {i j:Bool}:decide (V.bl i=V.bl j)=(i == j):=by
 rw [Bool.eq_iff_iff]
 simp
theorem dec_str {i j:Str}:decide (V.str i=V.str j)=(i == j):=by
 rw [Bool.eq_iff_iff]
 simp
theorem dec_byt {i j:Array UInt8}:decide (V.byt i=V.byt j)=(i.toList == j.toList):=by
 rw [Bool.eq_iff_iff]
 cases i
 cases j
 simp
section
variable {X:Cx} {a b c:Expr} {ta tb tc:TE} {pos:Pos}
theorem fin_bl {pins:List (Addr×Obj)} {σ:St} {H:Hp} {s:Shared} {Q:VK} {k k':Bool} (I:Inv X pins σ H s) (q:Q (.bl k) H) (e:k=k'):EP X pins σ Q (.bool k') s:=by
 subst e
 exact ⟨.bl k,H,I,rfl,q⟩
theorem op_eq:OpR X (compareOp .Eq) rEq:=by
 intro pins s σ H x y v u Q I rx ry h
 obtain ⟨hs,q⟩:=h
 cases x with
 | non=>
  cases rx
  cases y with
  | non=>cases ry;exact PySem.EqNone.eq_none_none (fin_bl I q (by simp))
  | bl j=>cases ry;exact PySem.EqNone.eq_none_bool (fin_bl I q (by simp))
  | int j=>obtain ⟨t',rfl⟩:=ry;exact PySem.EqNone.eq_none_int (fin_bl I q (by simp))
  | str j=>obtain ⟨t',rfl⟩:=ry;exact PySem.EqNone.eq_none_str (fin_bl I q (by simp))
  | _=>exact absurd (show false=true from hs) Bool.false_ne_true
 | bl i=>
  cases rx
  cases y with
  | non=>cases ry;exact PySem.EqNone.eq_bool_none (fin_bl I q (by simp))
  | bl j=>cases ry;exact eq_bool (fin_bl I q dec_bl)
  | str j=>obtain ⟨t',rfl⟩:=ry;exact PySem.EqMixed.eq_bool_str (fin_bl I q (by simp))
  | _=>exact absurd (show false=true from hs) Bool.false_ne_true
 | int i=>
  obtain ⟨t,rfl⟩:=rx
  cases y with
  | non=>cases ry;exact PySem.EqNone.eq_int_none (fin_bl I q (by simp))
  | int j=>obtain ⟨t',rfl⟩:=ry;exact eq_int (fin_bl I q dec_int)
  | str j=>obtain ⟨t',rfl⟩:=ry;exact PySem.EqMixed.eq_int_str (fin_bl I q (by simp))
  | _=>exact absurd (show false=true from hs) Bool.false_ne_true
 | str i=>
  obtain ⟨t,rfl⟩:=rx
  cases y with
  | non=>cases ry;exact PySem.EqNone.eq_str_none (fin_bl I q (by simp))
  | bl j=>cases ry;exact PySem.EqMixed.eq_str_bool (fin_bl I q (by simp))
  | int j=>obtain ⟨t',rfl⟩:=ry;exact PySem.EqMixed.eq_str_int (fin_bl I q (by simp))
  | str j=>obtain ⟨t',rfl⟩:=ry;exact eq_str (fin_bl I q dec_str)
  | _=>exact absurd (show false=true from hs) Bool.false_ne_true
 | byt i=>
  obtain ⟨t,rfl⟩:=rx
  cases y with
  | byt j=>obtain ⟨t',rfl⟩:=ry;exact PySem.W.eq_bytes (fin_bl I q dec_byt)
  | _=>exact absurd (show false=true from hs) Bool.false_ne_true
 | _=>cases y <;> exact absurd (show false=true from hs) Bool.false_ne_true
theorem op_ne:OpR X (compareOp .NotEq) rNe:=by
 intro pins s σ H x y v u Q I rx ry h
 obtain ⟨hs,q⟩:=h
 cases x with
 | non=>
  cases rx
  cases y with
  | non=>cases ry;exact PySem.EqNone.ne_none_none (fin_bl I q (by simp))
  | bl j=>cases ry;exact PySem.EqNone.ne_none_bool (fin_bl I q (by simp))
  | int j=>obtain ⟨t',rfl⟩:=ry;exact PySem.EqNone.ne_none_int (fin_bl I q (by simp))
  | str j=>obtain ⟨t',rfl⟩:=ry;exact PySem.EqNone.ne_none_str (fin_bl I q (by simp))
  | _=>exact absurd (show false=true from hs) Bool.false_ne_true
 | bl i=>
  cases rx
  cases y with
  | non=>cases ry;exact PySem.EqNone.ne_bool_none (fin_bl I q (by simp))
  | bl j=>cases ry;exact ne_bool (fin_bl I q (congrArg not dec_bl))
  | str j=>obtain ⟨t',rfl⟩:=ry;exact PySem.EqMixed.ne_bool_str (fin_bl I q (by simp))
  | _=>exact absurd (show false=true from hs) Bool.false_ne_true
 | int i=>
  obtain ⟨t,rfl⟩:=rx
  cases y with
  | non=>cases ry;exact PySem.EqNone.ne_int_none (fin_bl I q (by simp))
  | int j=>obtain ⟨t',rfl⟩:=ry;exact ne_int (fin_bl I q (congrArg not dec_int))
  | str j=>obtain ⟨t',rfl⟩:=ry;exact PySem.EqMixed.ne_int_str (fin_bl I q (by simp))
  | _=>exact absurd (show false=true from hs) Bool.false_ne_true
 | str i=>
  obtain ⟨t,rfl⟩:=rx
  cases y with
  | non=>cases ry;exact PySem.EqNone.ne_str_none (fin_bl I q (by simp))
  | bl j=>cases ry;exact PySem.EqMixed.ne_str_bool (fin_bl I q (by simp))
  | int j=>obtain ⟨t',rfl⟩:=ry;exact PySem.EqMixed.ne_str_int (fin_bl I q (by simp))
  | str j=>obtain ⟨t',rfl⟩:=ry;exact ne_str (fin_bl I q (congrArg not dec_str))
  | _=>exact absurd (show false=true from hs) Bool.false_ne_true
 | byt i=>
  obtain ⟨t,rfl⟩:=rx
  cases y with
  | byt j=>obtain ⟨t',rfl⟩:=ry;exact PySem.W.ne_bytes (fin_bl I q (congrArg not dec_byt))
  | _=>exact absurd (show false=true from hs) Bool.false_ne_true
 | _=>cases y <;> exact absurd (show false=true from hs) Bool.false_ne_true
theorem op_lt:OpR X (compareOp .Lt) (rI0 fun i j=>.bl (decide (i < j))):=opB0 fun _ _ _ _ _ _ _ q=>lt_int q
theorem op_le:OpR X (compareOp .LtE) (rI0 fun i j=>.bl (decide (i<=j))):=opB0 fun _ _ _ _ _ _ _ q=>le_int q
theorem op_gt:OpR X (compareOp .Gt) (rI0 fun i j=>.bl (decide (j < i))):=opB0 fun _ _ _ _ _ _ _ q=>gt_int q
theorem op_ge:OpR X (compareOp .GtE) (rI0 fun i j=>.bl (decide (j<=i))):=opB0 fun _ _ _ _ _ _ _ q=>ge_int q
theorem nomark (b:Expr) {op:CmpOp} (h:op≠.In:=by decide) (h2:op≠.NotIn:=by decide):behindInMarks op b=false:=by
 have e1:(op == CmpOp.In)=false:=by cases op <;> first | rfl | exact absurd rfl h
 have e2:(op == CmpOp.NotIn)=false:=by cases op <;> first | rfl | exact absurd rfl h2
 cases b <;> simp [behindInMarks,e1,e2]
theorem pe_cmpR {op:CmpOp} {r:R2} (ho:OpR X (compareOp op) r) (ha:PE X a ta) (hb:PE X b tb) (hm:behindInMarks op b=false):PE X (.Compare a [op] [b] pos) (tOp r ta tb):=by
 intro pins s σ H Q I h
 exact wpAny_Compare1 (binT ha hb I h fun v u s2 x y H2 I2 rx ry q=>ho pins s2 σ H2 x y v u Q I2 rx ry q) hm
def tTest (t:TE):TT:=fun σ H Q=>t σ H fun x H'=>∃k,x=.bl k/\Q k H'
theorem pt_cmpR {op:CmpOp} {r:R2} (ho:OpR X (compareOp op) r) (ha:PE X a ta) (hb:PE X b tb) (hm:behindInMarks op b=false):PT X (.Compare a [op] [b] pos) (tTest (tOp r ta tb)):=by
 intro pins s σ H Q I h
 refine wpAny_isTrue_Compare1 (thn (ha pins s σ H _ I h) fun v s1 ⟨x,H1,I1,r1,q1⟩=>thn (hb pins s1 σ H1 _ I1 q1) fun u s2 ⟨y,H2,I2,r2,q2⟩=>
  thn (ho pins s2 σ H2 x y v u _ I2 r1 r2 q2) fun c s3 ⟨z,H3,I3,r3,k,e,q3⟩=>?_) hm
 subst e
 cases r3
 exact wpAny_truthy_bool ⟨H3,I3,q3⟩
def TruV (K:PySem.W.Frag) (x:V) (H:Hp) (k:Bool):Prop:=
 match x with
 | .non=>k=false
 | .bl b=>k=b
 | .int i=>k=(i != 0)
 | .str y=>y.length<=sizeLine/\k=((y.length:Int) != 0)
 | .byt y=>y.size<=sizeLine/\k=((y.size:Int) != 0)
 | .ref p=>(∃xs,SqL K H p xs/\k=!xs.isEmpty)\/(∃xs,SqT K H p xs/\k=!xs.isEmpty)\/∃kvs,H p=some (.dK kvs)/\k=!kvs.isEmpty
 | _=>False
theorem isEmpty_kv {κ:Type} {kvs:List (κ×V)} {vs:List (κ×Value)} (r:KV kvs vs):(!vs.isEmpty)=!kvs.isEmpty:=by
 cases r <;> rfl
theorem isEmpty_of {xs:List V} {its:List Value} (r:Vals xs its):(!its.toArray.isEmpty)=!xs.isEmpty:=by
 cases r <;> simp
theorem line63:(sizeLine:Nat) < 2 ^ 63:=by rw [sizeLine_eq];decide
theorem tru_ok:TruR X (fun x H Q=>∃k,TruV X.K x H k/\Q k H):=by
 intro pins s σ H x v Q I rx h
 obtain ⟨k,e,q⟩:=h
 have hl:=line63
 have hs:sizeLine=16777216:=sizeLine_eq
 cases x with
 | non=>
  cases rx
  have e':k=false:=e
  subst e'
  exact truthy_none ⟨H,I,q⟩
 | bl b=>
  cases rx
  have e':k=b:=e
  subst e'
  exact wpAny_truthy_bool ⟨H,I,q⟩
 | int i=>
  obtain ⟨t,rfl⟩:=rx
  have e':k=(i != 0):=e
  subst e'
  exact PySem.P.truthy_int ⟨H,I,q⟩
 | str y=>
  obtain ⟨t,rfl⟩:=rx
  obtain ⟨hy,e'⟩:y.length<=sizeLine/\k=((y.length:Int) != 0):=e
  subst e'
  exact PySem.P.truthy_str (by omega) ⟨H,I.tok _,q⟩
 | byt y=>
  obtain ⟨t,rfl⟩:=rx
  obtain ⟨hy,e'⟩:y.size<=sizeLine/\k=((y.size:Int) != 0):=e
  subst e'
  exact PySem.W.truthy_bytes (by omega) ⟨H,I.tok _,q⟩
 | ref p=>
  cases rx
  have e':(∃xs,SqL X.K H p xs/\k=!xs.isEmpty)\/(∃xs,SqT X.K H p xs/\k=!xs.isEmpty)\/∃kvs,H p=some (.dK kvs)/\k=!kvs.isEmpty:=e
  rcases e' with ⟨xs,hx,e'⟩ | ⟨xs,hx,e'⟩ | ⟨kvs,hx,e'⟩
  ·subst e'
   obtain ⟨its,r,pl,hz⟩:=I.list hx
   have hlen:=r.length
   exact wpAny_truthy_list pl.isList (by simp only [List.size_toArray];omega) ⟨H,I.tok _,by rw [isEmpty_of r];exact q⟩
  ·subst e'
   obtain ⟨its,r,pl,hz⟩:=I.tuple hx
   have hlen:=r.length
   exact truthy_tuple pl (by simp only [List.size_toArray];omega) ⟨H,I.tok _,by rw [isEmpty_of r];exact q⟩
  ·subst e'
   obtain ⟨hz,hS,vs,r,m⟩:kvs.length<=sizeLine/\(p == sysModules)=false/\∃vs,KV kvs vs/\s.heap.DictOf (mixKind X.prog X.w) p vs:=I.hok p _ hx
   have hlen:kvs.length=vs.length:=Paired.length r
   exact wpAny_truthy_dict hS m (by omega) ⟨H,I.tok _,by rw [isEmpty_kv r];exact q⟩
 | _=>exact (show False from e).elim
theorem pt_truth (ha:PE X a ta) (he:∀whole,isTrue a X.env whole=(do let v <-whole;standAt a.pos;holding [v] (truthy v))) :
  PT X a (fun σ H Q=>ta σ H fun x H'=>∃k,TruV X.K x H' k/\Q k H'):=by
 intro pins s σ H Q I h
 exact isTrue_plain (thn (ha pins s σ H _ I h) fun v s1 ⟨x,H1,I1,r1,q1⟩=>tru_ok pins s1 σ H1 x v Q I1 r1 q1) (he _)
theorem vals1 {x:V} {us:List Value} (r:Vals [x] us):∃u,us=[u]/\RelV x u:=by
 cases r with
 | cons r1 r2=>cases r2;exact ⟨_,rfl,r1⟩
theorem vals2 {x y:V} {us:List Value} (r:Vals [x,y] us):∃u w',us=[u,w']/\RelV x u/\RelV y w':=by
 cases r with
 | cons r1 r2=>
  cases r2 with
  | cons r3 r4=>cases r4;exact ⟨_,_,rfl,r1,r3⟩
theorem call_max2 (hc:X.calm=true):CallR X (.builtin "max") (fun xs H Q=>∃i j,xs=[.int i,.int j]/\Q (.int (if j > i then j else i)) H):=by
 intro pins s σ H xs us Q I r h
 obtain ⟨i,j,rfl,q⟩:=h
 obtain ⟨u,w',rfl,⟨t,rfl⟩,⟨t',rfl⟩⟩:=vals2 r
 refine max_two_ints (I.ok.hd hc) fun h' tk k=>⟨_,H,I.kept k,?_,q⟩
 by_cases hj:j > i
 ·rw [if_pos hj,if_pos hj];exact ⟨_,rfl⟩
 ·rw [if_neg hj,if_neg hj];exact ⟨_,rfl⟩
theorem call_min2 (hc:X.calm=true):CallR X (.builtin "min") (fun xs H Q=>∃i j,xs=[.int i,.int j]/\Q (.int (if j < i then j else i)) H):=by
 intro pins s σ H xs us Q I r h
 obtain ⟨i,j,rfl,q⟩:=h
 obtain ⟨u,w',rfl,⟨t,rfl⟩,⟨t',rfl⟩⟩:=vals2 r
 refine min_two_ints (I.ok.hd hc) fun h' tk k=>⟨_,H,I.kept k,?_,q⟩
 by_cases hj:j < i
 ·rw [if_pos hj,if_pos hj];exact ⟨_,rfl⟩
 ·rw [if_neg hj,if_neg hj];exact ⟨_,rfl⟩
end
end L2
namespace L2
open PySem PySem.Spec PyProof.Rows
structure ObjM (h:Heap) (x dx C:Addr) (mA:Str->Option Value):Prop where
 obj:h.get? x=some (PySem.W.instObj C dx)
 ns:h.Ns1 dx mA
 ne:dx≠x
theorem lookIn_ns {h:Heap} {dx:Addr} {mA:Str->Option Value} (n:h.Ns1 dx mA):∃od,h.get? dx=some od/\∀name,PySem.W.lookIn name od=some (mA name):=by
 obtain ⟨o,es,ep,ho,hd,hk,_,hm⟩:=n
 refine ⟨o,ho,fun name=>?_⟩
 have e:=hm name
 unfold nsFind findBy at e
 rw [<-Array.find?_toList] at e
 unfold PySem.W.lookIn
 rw [hd]
 dsimp only
 split
 ·rename_i y q
  rw [q] at e
  exact congrArg some e
 ·rename_i q
  rw [q] at e
  have a:es.toList.any (·.refKey)=false:=by
   rw [List.any_eq_false]
   intro y hy
   obtain ⟨z,t,hkey⟩:=hk y (Array.mem_toList_iff.mp hy)
   simp [DictEntry.refKey,hkey]
  have a':¬es.toList.any (·.refKey)=true:=by rw [a];exact Bool.false_ne_true
  rw [if_neg a']
  exact congrArg some e
theorem ObjM.look {h:Heap} {x dx C:Addr} {mA:Str->Option Value} (I:ObjM h x dx C mA):∃od,PySem.W.InstAt h x (PySem.W.instObj C dx) C (some od)/\∀name,PySem.W.lookIn name od=some (mA name):=
 let ⟨od,ho,hl⟩:=lookIn_ns I.ns
 ⟨od,⟨I.obj,rfl,rfl,ho⟩,hl⟩
section
variable {prog:Program} {w:World} {A:Around} {E:Value->Shared->Prop} {s:Shared} {K:PySem.W.Frag} {x dx C f:Addr} {mA:Str->Option Value} {name:Str} {v:Value}
theorem get_map {expr:Bool} {Q:Value->Shared->Prop} (X:K.In s.heap) (I:ObjM s.heap x dx C mA) (hg:PySem.W.plainGet K C name=true) (hh:PySem.W.hasDictIn K C=true)
  (ha:PySem.W.findIn K (.ref C) name=some none) (hv:mA name=some v) (hv':PySem.W.handedIn v=true) (h:Q v {s with toks:=s.toks + 1}) :
  wpAny (model prog w) A (getAttr (.ref x) name expr) Q E s:=by
 obtain ⟨od,J,hl⟩:=I.look
 exact PySem.W.get_value X J (PySem.W.plainGet_of hg).1 (PySem.W.findObj_own hh ha rfl (by rw [hl,hv])) hv' h
theorem get_meth {pl:Sem Bool} {Q:Value×List Value->Shared->Prop} (X:K.In s.heap) (I:ObjM s.heap x dx C mA) (hg:PySem.W.plainGet K C name=true)
  (hf:PySem.W.findIn K (.ref C) name=some (some (.ref f))) (ht:PySem.W.isFn K (.ref f)=true) (hv:mA name=none) (h:Q (.ref f,[.ref x]) s) :
  wpAny (model prog w) A (getMethod (.ref x) name pl) Q E s:=by
 obtain ⟨od,J,hl⟩:=I.look
 exact PySem.W.method_fn X J (PySem.W.plainGet_of hg).1 (PySem.W.plainGet_of hg).2 hf (beq_iff_eq.mp ht) (by show (PySem.W.lookIn name od).map (·.isSome)=some false;rw [hl,hv];rfl) h
theorem set_map {ns:List Str} {Q:Unit->Shared->Prop} (X:K.In s.heap) (I:ObjM s.heap x dx C mA)
  (hs:PySem.W.findIn K (.ref C) "__setattr__" = some (some (.builtin "object.__setattr__"))) (hp:PySem.W.plainOver K C=true) (ht:PySem.W.takerIn K C name=some none) (hh:PySem.W.hasDictIn K C=true)
  (hw:PySem.Within mA ns) (hsz:ns.length<=sizeLine)
  (h:∀h',ObjM h' x dx C (fun y=>if y=name then some v else mA y)->Heap.SameBut dx s.heap h'->Q () {s with heap:=h',toks:=s.toks + 2}) :
  wpAny (model prog w) A (setAttr (.ref x) name v) Q E s:=by
 obtain ⟨od,J,hl⟩:=I.look
 refine PySem.W.set_plain X J hs (PySem.W.osa_open (s:={s with toks:=s.toks + 1}) (r:=none) X J hp ht fun b=>?_)
 obtain ⟨cd,hc,hd'⟩:=PySem.W.any_some hh
 have hx:s.heap.get? x=some ⟨.ref C,some dx,.plain,#[]⟩:=I.obj
 refine wpAny_bind (wpAny_pure (wpAny_bind (wpAny_bind (wpAny_loadPart hx (wpAny_bind (PySem.W.Looks.here (s:={s with toks:=s.toks + 1}) (PySem.W.looks_clsIn X hc) ?_))))))
 rw [hd']
 refine wpAny_pure (a:=some dx) (wpAny_bind (wpAny_pure (wpAny_bind ?_)))
 refine wpAny_nsSet1 (s:={s with toks:=s.toks + 1}) I.ns fun h' hn2 hs2=>?_
 obtain ⟨oD,esD,epD,hoD,hdD,hcD⟩:=hn2.count (PySem.Within.cons name v hw)
 refine wpAny_bind (wpAny_lookBehind hoD (by rw [hdD];exact pastItsLine_dict (Nat.le_trans hcD (by rw [List.length_cons];omega))) ?_)
 exact wpAny_pure (h _ ⟨(hs2.2 _ (Ne.symm I.ne)).trans I.obj,hn2,I.ne⟩ hs2)
theorem make_map {R:Result->Shared->Prop} {vs:List Value} {kw:List (Str×Value)} (X:K.In s.heap) (hm:PySem.W.makesIn K C=true)
  (hi:PySem.W.findIn K (.ref C) "__init__" = some (some (.ref f))) (hf:PySem.W.typeIn K (.ref f)=some (.type "function"))
  (h:codeAny (model prog w) (A.under (.builtin "type.__call__" ⟨.ref C :: vs,kw⟩)) (.call (.ref f) ⟨.ref (s.heap.objs.size + 1) :: vs,kw⟩) (PySem.W.InitBack (s.heap.objs.size + 1) R)
   {s with heap:=(s.heap.push PySem.W.emptyDict).push (PySem.W.instObj C s.heap.objs.size)}) :
  codeAny (model prog w) A (.call (.ref C) ⟨vs,kw⟩) R s:=by
 obtain ⟨hh,g,d,t,os⟩:=s
 exact PySem.W.make_core (PySem.W.makes_of X hm) (PySem.W.looks_findIn X hi) (fun self=>PySem.W.bind_fn X self hf) (.inl rfl) h
end
def putF (f:Str) (v:V):List (Str×V)->List (Str×V)
 | []=>[(f,v)]
 | (g,x) :: r=>if g=f then (g,v) :: r else (g,x) :: putF f v r
theorem lookup_putF (f g:Str) (v:V):∀fs:List (Str×V),(putF f v fs).lookup g=if g=f then some v else fs.lookup g
 | []=>by
  show List.lookup g [(f,v)]=_
  by_cases h:g=f
  ·have hb:(g == f)=true:=beq_iff_eq.mpr h
   simp only [List.lookup,hb,if_pos h]
  ·have hb:(g == f)=false:=beq_eq_false_iff_ne.mpr h
   simp only [List.lookup,hb,if_neg h]
 | (k,x) :: r=>by
  have ih:=lookup_putF f g v r
  rw [show putF f v ((k,x) :: r)=(if k=f then (k,v) :: r else (k,x) :: putF f v r) from rfl]
  by_cases hk:k=f
  ·rw [if_pos hk]
   by_cases h:g=k
   ·have hb:(g == k)=true:=beq_iff_eq.mpr h
    simp only [List.lookup,hb,if_pos (h.trans hk)]
   ·have hb:(g == k)=false:=beq_eq_false_iff_ne.mpr h
    simp only [List.lookup,hb,if_neg (fun e:g=f=>h (e.trans hk.symm))]
  ·rw [if_neg hk]
   by_cases h:g=k
   ·have hb:(g == k)=true:=beq_iff_eq.mpr h
    simp only [List.lookup,hb,if_neg (fun e:g=f=>hk (h.symm.trans e))]
   ·have hb:(g == k)=false:=beq_eq_false_iff_ne.mpr h
    simp only [List.lookup,hb]
    exact ih
theorem keys_putF (f:Str) (v:V):∀fs:List (Str×V),f∈(putF f v fs).map (·.1)/\∀g,g∈fs.map (·.1)->g∈(putF f v fs).map (·.1)
 | []=>⟨by simp [putF],fun g h=>by simp at h⟩
 | (k,x) :: r=>by
  obtain ⟨i1,i2⟩:=keys_putF f v r
  rw [show putF f v ((k,x) :: r)=(if k=f then (k,v) :: r else (k,x) :: putF f v r) from rfl]
  by_cases hk:k=f
  ·rw [if_pos hk]
   subst hk
   exact ⟨by simp,fun g h=>by simpa using h⟩
  ·rw [if_neg hk]
   refine ⟨?_,fun g h=>?_⟩
   ·rw [List.map_cons]
    exact List.mem_cons_of_mem _ i1
   ·rw [List.map_cons] at h |-
    rcases List.mem_cons.mp h with e | e
    ·exact List.mem_cons.mpr (.inl e)
    ·exact List.mem_cons_of_mem _ (i2 g e)
theorem length_putF (f:Str) (v:V):∀fs:List (Str×V),(putF f v fs).length<=fs.length + 1
 | []=>by simp [putF]
 | (k,x) :: r=>by
  have ih:=length_putF f v r
  rw [show putF f v ((k,x) :: r)=(if k=f then (k,v) :: r else (k,x) :: putF f v r) from rfl]
  by_cases hk:k=f
  ·rw [if_pos hk,List.length_cons,List.length_cons];omega
  ·rw [if_neg hk,List.length_cons,List.length_cons];omega
theorem RelO.some_of {v:V} {o:Option Value} (r:RelO (some v) o):∃u,o=some u/\RelV v u:=by
 cases o with
 | none=>exact (show False from r).elim
 | some u=>exact ⟨u,rfl,r⟩
theorem RelO.none_of {o:Option Value} (r:RelO none o):o=none:=by
 cases o with
 | none=>rfl
 | some u=>exact (show False from r).elim
theorem handed_of {v:V} {u:Value} (r:RelV v u):PySem.W.handedIn u=true:=by
 cases v with
 | non=>cases (show u=Value.none from r);rfl
 | bl b=>cases (show u=Value.bool b from r);rfl
 | int i=>obtain ⟨t,e⟩:=(show ∃t,u=Value.int i t from r);cases e;rfl
 | str x=>obtain ⟨t,e⟩:=(show ∃t,u=Value.str x t from r);cases e;rfl
 | byt b=>obtain ⟨t,e⟩:=(show ∃t,u=Value.bytes b t from r);cases e;rfl
 | flt b=>obtain ⟨t,e⟩:=(show ∃t,u=Value.float b t from r);cases e;rfl
 | ref a=>cases (show u=Value.ref a from r);rfl
 | ty n=>cases (show u=Value.type n from r);rfl
section
variable {P:Program} {w:World} {H H':Hp} {h h':Heap} {a C dx:Addr} {fs fs':List (Str×V)}
theorem ins_get (hok:HOk P w H h) (e:H a=some (.ins C dx fs)):∃mA,ObjM h a dx C mA/\(∀f,RelO (fs.lookup f) (mA f))/\PySem.Within mA (fs.map (·.1))/\fs.length<=1000/\H dx=some (.own a):=by
 obtain ⟨d,z,ne,ob,mA,n,r,q⟩:=(show ObjOk P w H h a (.ins C dx fs) from hok a _ e)
 exact ⟨mA,⟨ob,n,ne⟩,r,q,z,d⟩
end
structure Cls (K:PySem.W.Frag) (C:Addr):Prop where
 pg:PySem.W.plainGet K C Str.empty=true
 hd:PySem.W.hasDictIn K C=true
 po:PySem.W.plainOver K C=true
 sa:PySem.W.findIn K (.ref C) "__setattr__" = some (some (.builtin "object.__setattr__"))
theorem Cls.get {K:PySem.W.Frag} {C:Addr} (c:Cls K C) (f:Str):PySem.W.plainGet K C f=true:=c.pg
def NoAttr (K:PySem.W.Frag) (C:Addr) (f:Str):Prop:=PySem.W.findIn K (.ref C) f=some none
theorem NoAttr.taker {K:PySem.W.Frag} {C:Addr} {f:Str} (n:NoAttr K C f):PySem.W.takerIn K C f=some none:=by
 unfold PySem.W.takerIn
 rw [show PySem.W.findIn K (.ref C) f=some none from n]
 rfl
structure Meth (K:PySem.W.Frag) (C:Addr) (m:Str) (f:Addr):Prop where
 at_:PySem.W.findIn K (.ref C) m=some (some (.ref f))
 fn:PySem.W.isFn K (.ref f)=true
 kp:PySem.W.keepIn K (.ref f)=true
section
variable {X:Cx} {pins:List (Addr×Obj)} {σ:St} {H:Hp} {s:Shared} {a C dx:Addr} {fs:List (Str×V)} {f:Str} {v:V} {A:Around} {E:Value->Shared->Prop}
theorem getattr_ok {b:Bool} {Q:Value->Shared->Prop} (I:Inv X pins σ H s) (e:H a=some (.ins C dx fs)) (c:Cls X.K C) (n:NoAttr X.K C f) (l:fs.lookup f=some v)
  (h:∀u s',Inv X pins σ H s'->RelV v u->Q u s'):wpAny (model X.prog X.w) A (getAttr (.ref a) f b) Q E s:=by
 obtain ⟨mA,O,r,_,_,_⟩:=ins_get I.hok e
 obtain ⟨u,hu,ru⟩:=RelO.some_of (v:=v) (o:=mA f) (by rw [<-l];exact r f)
 exact get_map I.kIn O (c.get f) c.hd n hu (handed_of ru) (h u _ (I.tok _) ru)
theorem getmeth_ok {m:Str} {g:Addr} {pl:Sem Bool} {Q:Value×List Value->Shared->Prop} (I:Inv X pins σ H s) (e:H a=some (.ins C dx fs)) (c:Cls X.K C) (k:Meth X.K C m g) (l:fs.lookup m=none)
  (h:Q (.ref g,[.ref a]) s):wpAny (model X.prog X.w) A (getMethod (.ref a) m pl) Q E s:=by
 obtain ⟨mA,O,r,_,_,_⟩:=ins_get I.hok e
 have hn:mA m=none:=RelO.none_of (by rw [<-l];exact r m)
 exact get_meth I.kIn O (c.get m) k.at_ k.fn hn h
theorem setattr_ok {y:V} {u:Value} {Q:Unit->Shared->Prop} (I:Inv X pins σ H s) (e:H a=some (.ins C dx fs)) (c:Cls X.K C) (n:NoAttr X.K C f) (hl:fs.length < 1000) (ry:RelV y u)
  (h:∀s',Inv X pins σ (upd H a (.ins C dx (putF f y fs))) s'->Q () s'):wpAny (model X.prog X.w) A (setAttr (.ref a) f u) Q E s:=by
 obtain ⟨mA,O,r,wi,_,ho⟩:=ins_get I.hok e
 have hz:(fs.map (·.1)).length<=sizeLine:=by rw [List.length_map,sizeLine_eq];omega
 refine set_map I.kIn O c.sa c.po n.taker c.hd wi hz fun h' O' sb=>h _ ?_
 have hd:∃o,h'.get? dx=some o:=let ⟨o,_,_,e',_⟩:=O'.ns;⟨o,e'⟩
 refine I.write (x:=a) (e:=dx) (by rw [e];exact True.intro) (.inr ho) (fun b q hb z=>(sb.2 b hb).trans z) hd ?_
 refine ⟨by rw [upd_ne O.ne];exact ho,?_,O.ne,O'.obj,_,O'.ns,fun g=>?_,fun g hg=>?_⟩
 ·have:=length_putF f y fs;omega
 ·show RelO ((putF f y fs).lookup g) (if g=f then some u else mA g)
  rw [lookup_putF]
  by_cases q:g=f
  ·rw [if_pos q,if_pos q];exact ry
  ·rw [if_neg q,if_neg q];exact r g
 ·by_cases q:g=f
  ·rw [q];exact (keys_putF f y fs).1
  ·refine (keys_putF f y fs).2 g (wi g fun z=>hg ?_)
   show (if g=f then some u else mA g)=none
   rw [if_neg q];exact z
theorem Inv.made (I:Inv X pins σ H s):Inv X pins σ (upd (upd H s.heap.objs.size (.own (s.heap.objs.size + 1))) (s.heap.objs.size + 1) (.ins C s.heap.objs.size []))
  {s with heap:=(s.heap.push PySem.W.emptyDict).push (PySem.W.instObj C s.heap.objs.size)}:=by
 have e1:(s.heap.push PySem.W.emptyDict).get? s.heap.objs.size=some PySem.W.emptyDict:=Heap.get?_push_size s.heap rfl
 have e2:((s.heap.push PySem.W.emptyDict).push (PySem.W.instObj C s.heap.objs.size)).get? (s.heap.objs.size + 1)=some (PySem.W.instObj C s.heap.objs.size):=by
  have:=Heap.get?_push_size (s.heap.push PySem.W.emptyDict) (o:=PySem.W.instObj C s.heap.objs.size) rfl
  rwa [Heap.size_push] at this
 have e3:(s.heap.push PySem.W.emptyDict).Ns s.heap.objs.size (fun _=>none):=⟨PySem.W.emptyDict,#[],_,e1,rfl,(fun e he=>absurd he (by simp)),fun _=>rfl⟩
 have I1:=I.laid (a:=s.heap.objs.size) (o:=.own (s.heap.objs.size + 1)) (h':=s.heap.push PySem.W.emptyDict) (t':=s.toks) (fun b u q=>Heap.get?_push_of_some _ q) (Nat.le_refl _) ⟨_,e1⟩
 refine I1.laid (a:=s.heap.objs.size + 1) (o:=.ins C s.heap.objs.size []) (t':=s.toks) (fun b u q=>Heap.get?_push_of_some _ q) (Nat.le_of_eq (Heap.size_push _ _)) ?_
 have ne:s.heap.objs.size≠s.heap.objs.size + 1:=Nat.ne_of_lt (Nat.lt_succ_self _)
 refine ⟨by rw [upd_ne ne,upd_same],Nat.zero_le _,ne,e2,fun _=>none,(Heap.Ns1.of_empty e3).at fun o q=>Heap.get?_push_of_some _ q,fun _=>True.intro,fun y hy=>absurd rfl hy⟩
theorem attr_of {prog:Program} {w:World} {env:Env} {e:Expr} {f:Str} {pos:Pos} {s:Shared} {Q:Value->Shared->Prop} (hb:attributeBase e f env (eval e env)=eval e env)
  (h:wpAny (model prog w) A (eval e env) (fun o s₁=>wpAny (model prog w) A (getAttr o f true) Q E s₁) E s):wpAny (model prog w) A (eval (.Attribute e f pos) env) Q E s:=
 Attribute_any_ h (by rw [arm_eval_Attribute,hb])
end
def tFld (K:PySem.W.Frag) (ta:TE) (f:Str):TE:=fun σ H Q=>ta σ H fun x H1=>∃a C dx fs v,x=.ref a/\H1 a=some (.ins C dx fs)/\Cls K C/\NoAttr K C f/\fs.lookup f=some v/\Q v H1
def sFld (K:PySem.W.Frag) (ta tv:TE) (f:Str):TS:=fun D σ H=>tv σ H fun y H1=>ta σ H1 fun x H2=>∃a C dx fs,x=.ref a/\H2 a=some (.ins C dx fs)/\Cls K C/\NoAttr K C f/\fs.length < 1000/\
 D.nx σ (upd H2 a (.ins C dx (putF f y fs)))
section
variable {X:Cx} {o e value:Expr} {f:Str} {pos pos' tpos:Pos} {ta tv:TE}
theorem pe_fld (he:PE X e ta) (hb:attributeBase e f X.env (eval e X.env)=eval e X.env):PE X (.Attribute e f pos) (tFld X.K ta f):=by
 intro pins s σ H Q I h
 refine attr_of hb (thn (he pins s σ H _ I h) fun u s1 ⟨x,H1,I1,rx,a,C,dx,fs,v,ex,ea,c,n,l,q⟩=>?_)
 subst ex
 obtain rfl:u=Value.ref a:=rx
 exact getattr_ok I1 ea c n l fun u' s2 I2 ru=>⟨v,H1,I2,ru,q⟩
theorem ps_fld (ha:PE X o ta) (hv:PE X value tv) (hs:swapsWith value (some (.Attribute o f pos')) pos.line X.env=pure false):PS X (.Assign [.Attribute o f pos'] value pos) (sFld X.K ta tv f):=by
 intro pins s σ H D I h
 refine plainObj_wpAny_Assign_Attribute (thn (hv pins s σ H _ I h) fun u s1 ⟨y,H1,I1,ry,q⟩=>thn (ha pins s1 σ H1 _ I1 q) fun ov s2 ⟨x,H2,I2,rx,a,C,dx,fs,ex,ea,c,n,l,q2⟩=>?_) hs
 subst ex
 obtain rfl:ov=Value.ref a:=rx
 exact setattr_ok I2 ea c n l ry fun s3 I3=>⟨σ,_,I3,q2⟩
end
section
variable {X:Cx} {pins:List (Addr×Obj)} {σ:St} {H:Hp} {s:Shared} {A:Around} {E:Value->Shared->Prop} {Q:Value->Shared->Prop} {c:Value} {b:Bool}
end
end L2
namespace L2
open PySem PySem.Spec PyProof.Rows
structure Room (k:Nat) (A:Around):Prop where
 hd:A.handled=none
 dp:A.depth + 3 * k + 5 < recursionLimit
 un:A.units + 16 * k + 200 < cLine
theorem Room.mono {j k:Nat} {A:Around} (r:Room k A) (h:j<=k):Room j A:=⟨r.hd,by have:=r.dp;omega,by have:=r.un;omega⟩
theorem Room.deeper {k:Nat} {A:Around} (r:Room (k + 1) A) (env:Env):Room k (A.deeper env):=
 ⟨r.hd,by have:=r.dp;show A.depth + 1 + 3 * k + 5 < _;omega,by have:=r.un;show A.units + 3 + 16 * k + 200 < _;omega⟩
theorem make_depth {A:Around} {C:Addr} {us:List Value} {kw:List (Str×Value)}:(A.under (.builtin "type.__call__" ⟨.ref C :: us,kw⟩)).depth=A.depth + 1:=by
 first | rfl | simp [Around.under,Code.weight,Code.isCreation,Code.isGuard,Code.isCaller,Code.frames,Code.isFrame,guardIds]
theorem make_units {A:Around} {C:Addr} {us:List Value} {kw:List (Str×Value)}:(A.under (.builtin "type.__call__" ⟨.ref C :: us,kw⟩)).units=A.units + 1:=by
 first | rfl | simp [Around.under,Code.cUnits,Code.frames,Code.isFrame]
theorem Room.make {k:Nat} {A:Around} (r:Room (k + 1) A) (C:Addr) (us:List Value) (kw:List (Str×Value)):Room k (A.under (.builtin "type.__call__" ⟨.ref C :: us,kw⟩)):=
 ⟨r.hd,by have:=r.dp;rw [make_depth];omega,by have:=r.un;rw [make_units];omega⟩
theorem Room.depth {k:Nat} {A:Around} (r:Room k A):A.depth < recursionLimit:=by have:=r.dp;omega
theorem Room.units {k:Nat} {A:Around} (r:Room k A):A.units + 64 < cLine:=by have:=r.un;omega
def tNil:TA:=fun _ H Q=>Q [] H
def tCons (ta:TE) (tr:TA):TA:=fun σ H Q=>ta σ H fun x H1=>tr σ H1 fun xs H2=>Q (x :: xs) H2
section
variable {X:Cx} {e:Expr} {es:List Expr} {te:TE} {t:TA} {pos:Pos}
theorem pa_nil:PA X [] tNil:=fun _ _ _ _ H Q I h=>Calls.spliced_nil ⟨[],H,I,.nil,h⟩
theorem pa_cons (ha:PE X e te) (hr:PA X es t) (hs:starEach (e :: es) X.env=(false,eval e X.env) :: starEach es X.env:=by rfl):PA X (e :: es) (tCons te t):=by
 intro pos pins s σ H Q I h
 rw [hs]
 show wpAny _ _ (spliced ((false,eval e X.env) :: backTo pos (starEach es X.env))) _ _ s
 refine Calls.spliced_cons (thn (ha pins s σ H _ I h) fun u s1 ⟨x,H1,I1,r1,q1⟩=>?_)
 exact thn (hr pos pins s1 σ H1 _ I1 q1) fun us s2 ⟨xs,H2,I2,r2,q2⟩=>⟨x :: xs,H2,I2,.cons r1 r2,q2⟩
def tTup (t:TA):TE:=fun σ H Q=>t σ H fun xs H1=>xs.length<=sizeLine/\∀p,H1 p=none->Q (.ref p) (upd H1 p (.tup xs))
def tLst (t:TA):TE:=fun σ H Q=>t σ H fun xs H1=>xs.length<=sizeLine/\∀p,H1 p=none->Q (.ref p) (upd H1 p (.lst xs))
theorem pe_tup {x1} (h:PA X es t):PE X (.Tuple es x1 pos) (tTup t):=by
 intro pins s σ H Q I hq
 refine wpAny_Tuple_spliced (thn (h pos pins s σ H _ I hq) fun us s1 ⟨xs,H1,I1,r,z,q⟩=>⟨by rw [<-r.length];exact z,?_⟩)
 have hf:H1 s1.heap.objs.size=none:=I1.hok.fresh (Nat.le_refl _)
 refine ⟨.ref s1.heap.objs.size,upd H1 s1.heap.objs.size (.tup xs),I1.laid (t':=s1.toks) (fun b u e=>Heap.get?_push_of_some _ e) (Nat.le_refl _) ?_,rfl,q _ hf⟩
 exact ⟨z,us,r,⟨_,Heap.get?_push_size _ rfl,rfl,_,rfl⟩⟩
theorem pe_lst (h:PA X es t):PE X (.List es pos) (tLst t):=by
 intro pins s σ H Q I hq
 refine wpAny_List_spliced (thn (h pos pins s σ H _ I hq) fun us s1 ⟨xs,H1,I1,r,z,q⟩=>⟨by rw [<-r.length];exact z,?_⟩)
 have hf:H1 s1.heap.objs.size=none:=I1.hok.fresh (Nat.le_refl _)
 refine ⟨.ref s1.heap.objs.size,upd H1 s1.heap.objs.size (.lst xs),I1.laid (t':=s1.toks) (fun b u e=>Heap.get?_push_of_some _ e) (Nat.le_refl _) ?_,rfl,q _ hf⟩
 exact ⟨z,us,0,r,Heap.get?_push_size _ rfl⟩
end
abbrev Sp:=List V->Hp->VK->XK->Prop
abbrev CXT:=List Env->Hp->Shared->XK->Value->Shared->Prop
structure Env0 (P:Program) (w:World) (K:PySem.W.Frag) (mg:Str->Option Value) (base:Heap) (A:Around) (outer:List Env) (s:Shared) (H:Hp):Prop where
 frames:A.frames=some outer
 mod:Mod K mg base
 bs:∀b o,base.get? b=some o->s.heap.get? b=some o/\H b=none
 bsz:base.objs.size<=s.heap.objs.size
 funs:s.heap.FunFrames base outer
 frf:∀b∈frs outer,H b=none
 hok:HOk P w H s.heap
 bare:AllBare s.gens
def CE (outer:List Env) (P:Program) (w:World) (H:Hp) (s:Shared) (Q:VK) (u:Value) (s':Shared):Prop:=
 ∃v H',s'.os=s.os/\AllBare s'.gens/\Un (frs outer) [] H H' s.heap s'.heap/\HOk P w H' s'.heap/\RelV v u/\Q v H'
def CR (CX:CXT) (outer:List Env) (P:Program) (w:World) (H:Hp) (s:Shared) (Q:VK) (E:XK) (r:Result) (s':Shared):Prop:=
 match r with
 | .ok (.ret u)=>CE outer P w H s Q u s'
 | .ok _=>False
 | .error e=>CX outer H s E e s'
structure FnOk (P:Program) (w:World) (K:PySem.W.Frag) (mg:Str->Option Value) (base:Heap) (CX:CXT) (k:Nat) (f:Addr) (fd:FuncData) (ps:List Str) (sp:Sp):Prop where
 len:∀vs H Q E,sp vs H Q E->vs.length=ps.length
 run:∀(A:Around) (outer:List Env) (s:Shared) (H:Hp) (args:Args) (us:List Value) (vs:List V) (Q:VK) (E:XK),Room k A->Env0 P w K mg base A outer s H->BindsTo s fd args (ps.zip us)->Vals vs us->sp vs H Q E->
  codeAny (model P w) A (.call (.ref f) args) (CR CX outer P w H s Q E) s
theorem Env0.make {P:Program} {w:World} {K:PySem.W.Frag} {mg:Str->Option Value} {base:Heap} {A:Around} {outer:List Env} {s:Shared} {H:Hp} (e:Env0 P w K mg base A outer s H) (C:Addr) (us:List Value) (kw:List (Str×Value)) :
  Env0 P w K mg base (A.under (.builtin "type.__call__" ⟨.ref C :: us,kw⟩)) outer s H:=⟨by first | exact e.frames | (simpa [Around.under,Code.envs,Code.isFrame,pushEnvs] using e.frames),e.mod,e.bs,e.bsz,e.funs,e.frf,e.hok,e.bare⟩
section
variable {X:Cx} {pins:List (Addr×Obj)} {σ:St} {H:Hp} {s s':Shared}
theorem Inv.env0 (I:Inv X pins σ H s):Env0 X.prog X.w X.K X.mg X.base X.A X.stack s H:=
 ⟨I.ok.frames,I.ok.mod,I.bs,Nat.le_trans I.ok.bsz I.sz,I.stack,I.stkFree,I.hok,I.bare⟩
theorem Inv.after {Q:VK} {u:Value} (I:Inv X pins σ H s) (h:CE X.stack X.prog X.w H s Q u s'):EP X pins σ Q u s':=by
 obtain ⟨v,H',os,bare,un,hok,r,q⟩:=h
 obtain ⟨hh,g,d,t,os'⟩:=s'
 obtain rfl:os'=s.os:=os
 exact ⟨v,H',I.call (h':=hh) (g':=g) (d':=d) (t':=t) (ch:=[]) un hok bare (fun b z=>absurd z (by simp)),r,q⟩
end
def tCall (sp:Sp) (dvs:List V) (E:XK) (t:TA):TE:=fun σ H Q=>t σ H fun vs H1=>sp (vs ++ dvs) H1 Q E
def tMeth (C:Addr) (m:Str) (sp:Sp) (dvs:List V) (E:XK) (ta:TE) (t:TA):TE:=fun σ H Q=>ta σ H fun x H1=>∃a dx fs,x=.ref a/\H1 a=some (.ins C dx fs)/\fs.lookup m=none/\
 t σ H1 fun vs H2=>sp (x :: (vs ++ dvs)) H2 Q E
def tMake (C:Addr) (sp:Sp) (dvs:List V) (E:XK) (t:TA):TE:=fun σ H Q=>t σ H fun vs H1=>∀x dx,H1 x=none->H1 dx=none->dx≠x->
 sp (.ref x :: (vs ++ dvs)) (upd (upd H1 dx (.own x)) x (.ins C dx [])) (fun v H2=>v=.non/\Q (.ref x) H2) E
def Binds (K:PySem.W.Frag) (fd:FuncData) (ps:List Str) (ds:List Value):Prop:=
 ∀(s:Shared) (us:List Value),K.In s.heap->(us ++ ds).length=ps.length->BindsTo s fd ⟨us,[]⟩ (ps.zip (us ++ ds))
theorem Binds.all {K:PySem.W.Frag} {fd:FuncData} {ps:List Str} (h:∀us:List Value,us.length=ps.length->bindArgs fd ⟨us,[]⟩=pure (ps.zip us)):Binds K fd ps []:=fun s us _ hl=>by
 rw [List.append_nil] at hl |-
 exact .of_eq (h us hl)
def Passes (CX:CXT) (X:Cx) (E:XK):Prop:=∀(pins:List (Addr×Obj)) (σ:St) (H:Hp) (s:Shared) (e:Value) (s':Shared),Inv X pins σ H s->CX X.stack H s E e s'->X.xe e s'
section
variable {X:Cx} {CX:CXT} {k:Nat} {f C:Addr} {fd:FuncData} {ps:List Str} {sp:Sp} {dvs:List V} {ds:List Value} {E:XK} {x m:Str} {p pos apos:Pos} {e o:Expr} {es:List Expr} {ta:TE} {t:TA}
theorem run_fn {pins:List (Addr×Obj)} {σ:St} {H:Hp} {s:Shared} {Q:VK} {us:List Value} {vs:List V} (F:FnOk X.prog X.w X.K X.mg X.base CX k f fd ps sp) (hr:Room k X.A) (hb:Binds X.K fd ps ds) (hd:Vals dvs ds) (hx:Passes CX X E)
  (I:Inv X pins σ H s) (r:Vals vs us) (h:sp (vs ++ dvs) H Q E):wpAny (model X.prog X.w) X.A (call (.ref f) us) (EP X pins σ Q) X.xe s:=by
 have r2:Vals (vs ++ dvs) (us ++ ds):=r.append hd
 have hl:(us ++ ds).length=ps.length:=by rw [<-r2.length];exact F.len _ _ _ _ h
 refine wpAny_call (codeAny_mono (F.run X.A X.stack s H ⟨us,[]⟩ (us ++ ds) (vs ++ dvs) Q E hr I.env0 (hb s us I.kIn hl) r2 h) fun r s' hq=>?_)
 cases r with
 | error e=>exact hx pins σ H s e s' I hq
 | ok fl=>
  cases fl with
  | ret u=>exact I.after hq
  | next=>exact False.elim hq
  | brk=>exact False.elim hq
  | cont=>exact False.elim hq
theorem pe_call (F:FnOk X.prog X.w X.K X.mg X.base CX k f fd ps sp) (hr:Room k X.A) (hg:Gl X x) (hm:X.mg x=some (.ref f)) (hk:PySem.W.keepIn X.K (.ref f)=true) (hb:Binds X.K fd ps ds) (hd:Vals dvs ds) (hx:Passes CX X E)
  (ha:PA X (e :: es) t) (hdb:(x == ("__debug__" : Str))=false:=by decide) (he:starEach (e :: es) X.env=(false,eval e X.env) :: starEach es X.env:=by rfl) (hpl:(backTo pos (starEach es X.env)).any (·.1)=false:=by rfl) :
  PE X (.Call (.Name x p) (e :: es) [] pos) (tCall sp dvs E t):=by
 intro pins s σ H Q I h
 refine wpAny_Call_Name_kw (ld_glob I hg hm ?_ hdb)
 refine PySem.W.callWith_K (h₀:=X.base) I.ok.mod.kin hk (thn (ha pos pins s σ H _ I h) fun us s1 ⟨vs,H1,I1,r,q⟩=>⟨I1.kIn,?_⟩) he hpl
 exact run_fn F hr hb hd hx I1 r q
theorem pe_meth {pl:Sem Bool} (he:PE X o ta) (c:Cls X.K C) (hm:Meth X.K C m f) (F:FnOk X.prog X.w X.K X.mg X.base CX k f fd ps sp) (hr:Room k X.A) (hb:Binds X.K fd ps ds) (hd:Vals dvs ds) (hx:Passes CX X E) (ha:PA X (e :: es) t)
  (hst:starEach (e :: es) X.env=(false,eval e X.env) :: starEach es X.env:=by rfl) (hpl:(backTo pos (starEach es X.env)).any (·.1)=false:=by rfl)
  (ht:eval (.Call (.Attribute o m apos) (e :: es) [] pos) X.env=(do
   let ov <-eval o X.env
   standAt apos.atName
   let (f,first) <-holding [ov] (getMethod ov m pl)
   callWith pos f first (backTo pos (starEach (e :: es) X.env)) (backToKw pos (keywordEach [] X.env))):=by rfl) :
  PE X (.Call (.Attribute o m apos) (e :: es) [] pos) (tMeth C m sp dvs E ta t):=by
 intro pins s σ H Q I h
 refine PySem.W.methodCall_KW (pl:=pl) (thn (he pins s σ H _ I h) fun u s1 ⟨x,H1,I1,rx,a,dx,fs,ex,ea,l,q⟩=>?_) ht
 subst ex
 obtain rfl:u=Value.ref a:=rx
 refine getmeth_ok I1 ea c hm l ?_
 refine PySem.W.callWith_K (first:=[.ref a]) (h₀:=X.base) I.ok.mod.kin hm.kp (thn (ha pos pins s1 σ H1 _ I1 q) fun us s2 ⟨vs,H2,I2,r,q2⟩=>⟨I2.kIn,?_⟩) hst hpl
 exact run_fn (us:=.ref a :: us) (vs:=.ref a :: vs) F hr hb hd hx I2 (.cons rfl r) q2
theorem pe_meth0 {pl:Sem Bool} (he:PE X o ta) (c:Cls X.K C) (hm:Meth X.K C m f) (F:FnOk X.prog X.w X.K X.mg X.base CX k f fd ps sp) (hr:Room k X.A) (hb:Binds X.K fd ps ds) (hd:Vals dvs ds) (hx:Passes CX X E)
  (ht:eval (.Call (.Attribute o m apos) [] [] pos) X.env=(do
   let ov <-eval o X.env
   standAt apos.atName
   let (f,first) <-holding [ov] (getMethod ov m pl)
   callWith pos f first (backTo pos (starEach [] X.env)) (backToKw pos (keywordEach [] X.env))):=by rfl) :
  PE X (.Call (.Attribute o m apos) [] [] pos) (tMeth C m sp dvs E ta tNil):=by
 intro pins s σ H Q I h
 refine PySem.W.methodCall_KW (pl:=pl) (thn (he pins s σ H _ I h) fun u s1 ⟨x,H1,I1,rx,a,dx,fs,ex,ea,l,q⟩=>?_) ht
 subst ex
 obtain rfl:u=Value.ref a:=rx
 refine getmeth_ok I1 ea c hm l ?_
 exact PySem.W.callWith_K0 (first:=[.ref a]) I1.kIn hm.kp (run_fn (us:=[.ref a]) (vs:=[.ref a]) F hr hb hd hx I1 (.cons rfl .nil) q)
structure Mk (K:PySem.W.Frag) (C f:Addr):Prop where
 makes:PySem.W.makesIn K C=true
 init:PySem.W.findIn K (.ref C) "__init__" = some (some (.ref f))
 fn:PySem.W.isFn K (.ref f)=true
 kp:PySem.W.keepIn K (.ref C)=true
theorem run_make {pins:List (Addr×Obj)} {σ:St} {H:Hp} {s:Shared} {Q:VK} {us:List Value} {vs:List V} (M:Mk X.K C f) (F:FnOk X.prog X.w X.K X.mg X.base CX k f fd ps sp) (hr:Room (k + 1) X.A) (hb:Binds X.K fd ps ds) (hd:Vals dvs ds)
  (hx:Passes CX X E) (I:Inv X pins σ H s) (r:Vals vs us)
  (h:∀x dx,H x=none->H dx=none->dx≠x->sp (.ref x :: (vs ++ dvs)) (upd (upd H dx (.own x)) x (.ins C dx [])) (fun v H2=>v=.non/\Q (.ref x) H2) E) :
  wpAny (model X.prog X.w) X.A (call (.ref C) us) (EP X pins σ Q) X.xe s:=by
 have hq:=h (s.heap.objs.size + 1) s.heap.objs.size (I.hok.fresh (Nat.le_succ _)) (I.hok.fresh (Nat.le_refl _)) (Nat.ne_of_lt (Nat.lt_succ_self _))
 have I2:=Inv.made (C:=C) I
 have r2:Vals (V.ref (s.heap.objs.size + 1) :: (vs ++ dvs)) (Value.ref (s.heap.objs.size + 1) :: (us ++ ds)):=.cons rfl (r.append hd)
 have hl:(Value.ref (s.heap.objs.size + 1) :: us ++ ds).length=ps.length:=by
  have e:=r2.length
  rw [F.len _ _ _ _ hq] at e
  exact e.symm
 refine wpAny_call (make_map (f:=f) I.kIn M.makes M.init (beq_iff_eq.mp M.fn) (codeAny_mono (F.run _ X.stack _ _ ⟨Value.ref (s.heap.objs.size + 1) :: us,[]⟩ (Value.ref (s.heap.objs.size + 1) :: (us ++ ds)) _ _ E (hr.make C us [])
  (I2.env0.make C us []) (hb _ (Value.ref (s.heap.objs.size + 1) :: us) I2.kIn hl) r2 hq) fun r s' hq'=>?_))
 cases r with
 | error e=>exact hx pins σ _ _ e s' I2 hq'
 | ok fl=>
  cases fl with
  | ret u=>
   obtain ⟨v,H',I3,rv,ev,q3⟩:=I2.after hq'
   subst ev
   exact ⟨rv,⟨V.ref (s.heap.objs.size + 1),H',I3,rfl,q3⟩⟩
  | next=>exact False.elim hq'
  | brk=>exact False.elim hq'
  | cont=>exact False.elim hq'
theorem pe_make (M:Mk X.K C f) (F:FnOk X.prog X.w X.K X.mg X.base CX k f fd ps sp) (hr:Room (k + 1) X.A) (hg:Gl X x) (hm:X.mg x=some (.ref C)) (hb:Binds X.K fd ps ds) (hd:Vals dvs ds) (hx:Passes CX X E)
  (ha:PA X (e :: es) t) (hdb:(x == ("__debug__" : Str))=false:=by decide) (he:starEach (e :: es) X.env=(false,eval e X.env) :: starEach es X.env:=by rfl) (hpl:(backTo pos (starEach es X.env)).any (·.1)=false:=by rfl) :
  PE X (.Call (.Name x p) (e :: es) [] pos) (tMake C sp dvs E t):=by
 intro pins s σ H Q I h
 refine wpAny_Call_Name_kw (ld_glob I hg hm ?_ hdb)
 refine PySem.W.callWith_K (h₀:=X.base) I.ok.mod.kin M.kp (thn (ha pos pins s σ H _ I h) fun us s1 ⟨vs,H1,I1,r,q⟩=>⟨I1.kIn,?_⟩) he hpl
 exact run_make M F hr hb hd hx I1 r q
theorem pe_make0 (M:Mk X.K C f) (F:FnOk X.prog X.w X.K X.mg X.base CX k f fd ps sp) (hr:Room (k + 1) X.A) (hg:Gl X x) (hm:X.mg x=some (.ref C)) (hb:Binds X.K fd ps ds) (hd:Vals dvs ds) (hx:Passes CX X E)
  (hdb:(x == ("__debug__" : Str))=false:=by decide):PE X (.Call (.Name x p) [] [] pos) (tMake C sp dvs E tNil):=by
 intro pins s σ H Q I h
 refine wpAny_Call_Name_kw (ld_glob I hg hm ?_ hdb)
 exact PySem.W.callWith_K0 I.kIn M.kp (run_make (us:=[]) M F hr hb hd hx I .nil h)
end
def PK (X:Cx) (kws:List Keyword) (t:TA):Prop:=
 ∀(pos:Pos) (pins:List (Addr×Obj)) (s:Shared) (σ:St) (H:Hp) (Q:List V->Hp->Prop),Inv X pins σ H s->t σ H Q->wpAny (model X.prog X.w) X.A (evalAll ((backToKw pos (keywordEach kws X.env)).map (·.2))) (AP X pins σ Q) X.xe s
section
variable {X:Cx} {CX:CXT} {k:Nat} {f C:Addr} {fd:FuncData} {ps ks:List Str} {sp:Sp} {E:XK} {x m:Str} {p pos apos kpos:Pos} {e o:Expr} {es:List Expr} {kws:List Keyword} {te ta:TE} {t tk:TA} {nm:Option Str}
theorem pk_nil:PK X [] tNil:=fun _ _ _ _ H Q I h=>wpAny_evalAll_nil ⟨[],H,I,.nil,h⟩
theorem pk_cons (ha:PE X e te) (hr:PK X kws t):PK X (⟨nm,e,kpos⟩ :: kws) (tCons te t):=by
 intro pos pins s σ H Q I h
 show wpAny _ _ (evalAll ((do let v <-eval e X.env;standAt pos;pure v) :: (backToKw pos (keywordEach kws X.env)).map (·.2))) _ _ s
 refine wpAny_evalAll_cons (wpAny_bind (thn (ha pins s σ H _ I h) fun u s1 ⟨x,H1,I1,r1,q1⟩=>wpAny_bind (wpAny_standAt (wpAny_pure ?_))))
 exact thn (hr pos pins s1 σ H1 _ I1 q1) fun us s2 ⟨xs,H2,I2,r2,q2⟩=>⟨x :: xs,H2,I2,.cons r1 r2,q2⟩
variable {g:List Value->List Value->List Value} {gV:List V->List V->List V}
end
structure FnScope (N P:List Str) (sc:Scope):Prop where
 kind:sc.kind=.function
 co:sc.isCoroutine=false
 gen:sc.isGenerator=false
 nd:N.Nodup
 pre:N.take P.length=P
 par:∀x∈P,sc.names.lookup x=some .local\/sc.names.lookup x=some .cell
 nofree:∀y∈sc.names,y.2≠.free
theorem bindL_out {kindOf:Str->Option NameKind} {x:Str}:∀{binds:List (Str×Value)} {m:Str->Option Value},(∀v,(x,v)∉binds)->bindL kindOf binds m x=m x
 | [],_,_=>rfl
 | (n,v) :: r,m,h=>by
  unfold bindL
  rw [bindL_out fun w hw=>h w (List.mem_cons_of_mem _ hw)]
  split
  ·have:x≠n:=by rintro rfl;exact h v List.mem_cons_self
   simp [this]
  ·rfl
theorem bindC_out {kindOf:Str->Option NameKind} {x:Str}:∀{binds:List (Str×Value)} {m:Str->Option Value},(∀v,(x,v)∉binds)->bindC kindOf binds m x=m x
 | [],_,_=>rfl
 | (n,v) :: r,m,h=>by
  unfold bindC
  rw [bindC_out fun w hw=>h w (List.mem_cons_of_mem _ hw)]
  split
  ·rfl
  ·have:x≠n:=by rintro rfl;exact h v List.mem_cons_self
   simp [this]
theorem bindL_get {kindOf:Str->Option NameKind} {x:Str} {v:Value}:∀{P:List Str} {vs:List Value} {i:Nat} {m:Str->Option Value},P.Nodup->P[i]? = some x->vs[i]? = some v->kindOf x=some .local->
  bindL kindOf (P.zip vs) m x=some v
 | [],_,_,_,_,h,_,_=>by simp at h
 | _ :: _,[],_,_,_,_,h,_=>by simp at h
 | p :: P,w :: vs,0,m,nd,h1,h2,hk=>by
  simp at h1 h2;subst h1;subst h2
  show bindL kindOf ((p,w) :: P.zip vs) m p=_
  unfold bindL
  rw [bindL_out fun v hv=>(List.nodup_cons.mp nd).1 (List.of_mem_zip hv).1,if_pos hk]
  simp
 | p :: P,w :: vs,i + 1,m,nd,h1,h2,hk=>by
  show bindL kindOf ((p,w) :: P.zip vs) m x=_
  unfold bindL
  exact bindL_get (i:=i) (List.nodup_cons.mp nd).2 (by simpa using h1) (by simpa using h2) hk
theorem bindC_get {kindOf:Str->Option NameKind} {x:Str} {v:Value}:∀{P:List Str} {vs:List Value} {i:Nat} {m:Str->Option Value},P.Nodup->P[i]? = some x->vs[i]? = some v->kindOf x≠some .local->
  bindC kindOf (P.zip vs) m x=some v
 | [],_,_,_,_,h,_,_=>by simp at h
 | _ :: _,[],_,_,_,_,h,_=>by simp at h
 | p :: P,w :: vs,0,m,nd,h1,h2,hk=>by
  simp at h1 h2;subst h1;subst h2
  show bindC kindOf ((p,w) :: P.zip vs) m p=_
  unfold bindC
  rw [bindC_out fun v hv=>(List.nodup_cons.mp nd).1 (List.of_mem_zip hv).1,if_neg hk]
  simp
 | p :: P,w :: vs,i + 1,m,nd,h1,h2,hk=>by
  show bindC kindOf ((p,w) :: P.zip vs) m x=_
  unfold bindC
  exact bindC_get (i:=i) (List.nodup_cons.mp nd).2 (by simpa using h1) (by simpa using h2) hk
def start (N:List Str) (vs:List V):St:=vs.map some ++ List.replicate (N.length - vs.length) none
def cxOf (CX:CXT) (P:Program) (w:World) (K:PySem.W.Frag) (mg:Str->Option Value) (base:Heap) (N:List Str) (qual:Str) (scope:Scope) (f:Addr) (cd:Value) (A:Around) (outer:List Env) (s:Shared) (H:Hp) (E:XK):Cx where
 prog:=P
 w:=w
 K:=K
 mg:=mg
 base:=base
 A:=A.deeper (envOfC qual scope s.heap.objs.size f cd)
 N:=N
 s₀:=s
 H₀:=H
 env:=envOfC qual scope s.heap.objs.size f cd
 outer:=outer
 stack:=envOfC qual scope s.heap.objs.size f cd :: outer
 ex:=[]
 calm:=true
 fn:=fun _=>true
 pn:=[]
 xe:=fun e s'=>wpAny (model P w) (A.deeper (envOfC qual scope s.heap.objs.size f cd)) (leaving (envOfC qual scope s.heap.objs.size f cd) e) (fun _ s''=>CX outer H s E e s'') (fun e' s''=>CX outer H s E e' s'') s'
theorem cell_has {sc:Scope} {n:Nat} {x:Str} (h:sc.names.lookup x=some .cell):∃c,(cellsFrom n sc.names []).lookup x=some c:=by
 have q:=PySem.W.cellsFrom_some sc.names n [] (.inl h)
 exact Option.isSome_iff_exists.mp q
theorem inv_start {CX:CXT} {P:Program} {w:World} {K:PySem.W.Frag} {mg:Str->Option Value} {base:Heap} {N ps:List Str} {qual:Str} {scope:Scope} {f:Addr} {cd:Value} {A:Around} {outer:List Env} {s s1:Shared} {H:Hp} {E:XK} {us:List Value} {vs:List V}
  (S:FnScope N ps scope) (hd:A.handled=none) (e0:Env0 P w K mg base A outer s H) (hl:vs.length=ps.length) (r:Vals vs us)
  (x:InCallC s s.heap.objs.size (bindL (envOfC qual scope s.heap.objs.size f cd).kindOf (ps.zip us) fun _=>none) (cellsFrom (s.heap.objs.size + 1) scope.names []) (bindC (envOfC qual scope s.heap.objs.size f cd).kindOf (ps.zip us) fun _=>none) s1) :
  Inv (cxOf CX P w K mg base N qual scope f cd A outer s H E) [] (start N vs) H s1:=by
 have hpl:ps.length<=N.length:=by have:=congrArg List.length S.pre;rw [List.length_take] at this;omega
 obtain ⟨h1,tk,rfl,hk⟩:=x.done
 have noA:∀b:Addr,b∉(cxOf CX P w K mg base N qual scope f cd A outer s H E).ex:=fun b z=>absurd (show b∈([]:List Addr) from z) (by simp)
 refine ⟨⟨e0.mod,S.kind,rfl,rfl,Nat.le_refl _,fun y z c h1 h2=>?_,fun y hy=>?_,fun y c _ h=>?_,fun _=>hd,Around.frames_deeper e0.frames,.inr ⟨rfl,rfl⟩,fun b z=>absurd z (noA b),e0.bs,e0.bsz,fun b _ _=>noA b,fun b z=>absurd z (noA b),e0.funs,e0.frf⟩,
  rfl,e0.bare,Un.kept hk,⟨_,x.toInCall.ns,fun i y v h1 h2 h3=>?_⟩,fun y c h=>⟨_,x.cell y c h⟩,e0.hok.fresh (Nat.le_refl _),fun y c h=>?_,fun p hp=>absurd (show p∈([]:List (Addr×Obj)) from hp) (by simp),e0.hok.kept hk,?_⟩
 ·exact name_of_addr x.apart (PySem.mem_of_lookup h1) (PySem.mem_of_lookup h2)
 ·have hy:scope.names.lookup y=some .cell\/scope.names.lookup y=some .free:=hy
  rcases hy with hy | hy
  ·exact cell_has hy
  ·exact absurd rfl (S.nofree _ (PySem.mem_of_lookup hy))
 ·exact Nat.le_of_lt (x.above y c (PySem.mem_of_lookup h))
 ·have hi:i < vs.length:=by
   unfold start at h2
   by_cases hi:i < vs.length
   ·exact hi
   ·rw [List.getElem?_append_right (by simpa using hi)] at h2
    rw [List.getElem?_replicate] at h2
    split at h2 <;> cases h2
  have ha:vs[i]? = some v:=by
   unfold start at h2
   rw [List.getElem?_append_left (by simpa using hi),List.getElem?_map] at h2
   cases e:vs[i]? with
   | none=>rw [e] at h2;cases h2
   | some a=>rw [e] at h2;cases h2;rfl
  obtain ⟨u,hu,rv⟩:=r.get ha
  have hp:ps[i]? = some y:=by
   rw [<-S.pre,List.getElem?_take_of_lt (by omega)];exact h1
  have ndP:ps.Nodup:=by rw [<-S.pre];exact S.nd.sublist (List.take_sublist _ _)
  refine ⟨u,rv,?_⟩
  rcases S.par y (List.mem_of_getElem? hp) with k | k
  ·exact .inl ⟨k,bindL_get ndP hp hu k⟩
  ·obtain ⟨c,e⟩:=cell_has (n:=s.heap.objs.size + 1) k
   refine .inr ⟨.inl k,c,e,?_⟩
   have q:=x.cell y c e
   rw [bindC_get ndP hp hu (by show scope.names.lookup y≠_;rw [k];decide)] at q
   exact q
 ·exact e0.hok.fresh (Nat.le_of_lt (x.above y c (PySem.mem_of_lookup h)))
 ·unfold start
  show _=N.length
  rw [List.length_append,List.length_map,List.length_replicate]
  omega
theorem fn_of {CX:CXT} {P:Program} {w:World} {K:PySem.W.Frag} {mg:Str->Option Value} {base:Heap} {k:Nat} {f:Addr} {name qual:Str} {params:Arguments} {body:List Stmt} {scope:Scope} {dV kV doc pm cdv ct oc:Value} {an od:Option Addr}
  {osl:Array (Option Value)} {N ps:List Str} {sp:Sp} (lk:K.lookup f=some ⟨oc,od,.func (PySem.W.fnOf name qual params body scope dV kV doc pm an cdv ct),osl⟩) (hcd:PySem.W.codeIn K cdv qual=true) (S:FnScope N ps scope)
  (len:∀vs H Q E,sp vs H Q E->vs.length=ps.length)
  (hbody:∀(A:Around) (outer:List Env) (s:Shared) (H:Hp) (vs:List V) (Q:VK) (E:XK),Room k (A.deeper (envOfC qual scope s.heap.objs.size f cdv))->sp vs H Q E->
   ∃t,PSs (cxOf CX P w K mg base N qual scope f cdv A outer s H E) body t/\t {nx:=fun _ H'=>Q .non H',rt:=Q} (start N vs) H) :
  FnOk P w K mg base CX (k + 1) f (PySem.W.fnOf name qual params body scope dV kV doc pm an cdv ct) ps sp:=by
 refine ⟨len,fun A outer s H args us vs Q E hr e0 hb r hsp=>?_⟩
 have hl:=len _ _ _ _ hsp
 have KX:K.In s.heap:=e0.mod.kin.keeps fun b o e=>(e0.bs b o e).1
 have lim:s.heap.NoLimit:=e0.mod.nolimit.keeps fun b o e=>(e0.bs b o e).1
 have hkind:∀y∈ps.zip us,scope.names.lookup y.1=some .local\/(scope.names.lookup y.1=some .cell/\((cellsFrom (s.heap.objs.size + 1) scope.names []).lookup y.1).isSome=true):=fun ⟨n,v⟩ hy=>by
  rcases S.par n (List.of_mem_zip hy).1 with q | q
  ·exact .inl q
  ·exact .inr ⟨q,PySem.W.cellsFrom_some _ _ _ (.inl q)⟩
 refine codeAny_call_function hr.depth (KX _ _ lk) rfl S.co S.gen rfl (PySem.W.codeRec_of KX hcd) (hb _ _ _ _ ?_)
 refine wpAny_newFunctionEnv_cells S.kind hkind fun env he s1 x=>?_
 subst he
 refine ⟨lim.keeps x.toInCall.keep,codeAny_func ?_⟩
 obtain ⟨t,ht,hq⟩:=hbody A outer s H vs Q E (hr.deeper _) hsp
 have I:Inv (cxOf CX P w K mg base N qual scope f cdv A outer s H E) [] (start N vs) H s1:=inv_start S hr.hd e0 hl r x
 refine wpAny_mono (ht [] s1 (start N vs) H _ I hq) (fun fl s' hs=>?_) fun e s' hs=>hs
 have fin:∀{σ':St} {H':Hp} {v:V} {u:Value},Inv (cxOf CX P w K mg base N qual scope f cdv A outer s H E) [] σ' H' s'->RelV v u->Q v H'->CE outer P w H s Q u s':=
  fun {σ' H' v u} J rv q=>⟨v,H',J.os,J.bare,J.base,J.hok,rv,q⟩
 cases fl with
 | ret u=>
  obtain ⟨v,σ',H',J,rv,q⟩:=hs
  exact fin J rv q
 | next=>
  obtain ⟨σ',H',J,q⟩:=hs
  exact fin (v:=V.non) (u:=Value.none) J rfl q
 | brk=>
  obtain ⟨_,_,_,q⟩:=hs
  exact False.elim q
 | cont=>
  obtain ⟨_,_,_,q⟩:=hs
  exact False.elim q
end L2
namespace L2
open PySem PySem.Spec PyProof.Rows
section
variable {X:Cx} {x:Str} {p pos:Pos} {e:Expr} {es:List Expr} {t:TA} {id T:String} {r:List V->Hp->VK->Prop}
def tCB (r:List V->Hp->VK->Prop) (t:TA):TE:=fun σ H Q=>t σ H fun vs H1=>r vs H1 Q
theorem pe_callB (hc:CallR X (.builtin id) r) (hg:Gl X x) (hm:X.mg x=none) (hv:bootBuiltins x=some (.builtin id)) (ha:PA X (e :: es) t) (hn:x≠"__name__":=by decide) (hdb:(x == ("__debug__" : Str))=false:=by decide)
  (he:starEach (e :: es) X.env=(false,eval e X.env) :: starEach es X.env:=by rfl) (hpl:(backTo pos (starEach es X.env)).any (·.1)=false:=by rfl):PE X (.Call (.Name x p) (e :: es) [] pos) (tCB r t):=by
 intro pins s σ H Q I h
 refine wpAny_Call_Name_kw (ld_blt I hg hm hv ?_ hn hdb)
 exact PyProof.Rows.callWith_builtin1 (thn (ha pos pins s σ H _ I h) fun us s1 ⟨vs,H1,I1,r1,q1⟩=>hc pins s1 σ H1 vs us Q I1 r1 q1) he hpl
theorem pe_callTy (hc:CallR X (.type T) r) (hg:Gl X x) (hm:X.mg x=none) (hv:bootBuiltins x=some (.type T)) (ha:PA X (e :: es) t) (hn:x≠"__name__":=by decide) (hdb:(x == ("__debug__" : Str))=false:=by decide)
  (he:starEach (e :: es) X.env=(false,eval e X.env) :: starEach es X.env:=by rfl) (hpl:(backTo pos (starEach es X.env)).any (·.1)=false:=by rfl):PE X (.Call (.Name x p) (e :: es) [] pos) (tCB r t):=by
 intro pins s σ H Q I h
 refine wpAny_Call_Name_kw (ld_blt I hg hm hv ?_ hn hdb)
 exact PyProof.Rows.callWith_type1 (thn (ha pos pins s σ H _ I h) fun us s1 ⟨vs,H1,I1,r1,q1⟩=>hc pins s1 σ H1 vs us Q I1 r1 q1) he hpl
end
end L2
namespace HT
open PySem PyProof.Rows
section
open PySem.SeqAt
open PySem.AutoSeq1 (wpAny_loadPart')
open PySem.MeetsSeq PySem.MeetsSeq2 PySem.MeetsSeq3
end
section
variable {prog:Program} {w:World} {A:Around} {E:Value->Shared->Prop} {s:Shared}
def sIx (n d:Nat):Option Int->Nat
 | none=>d
 | some v=>if v < 0 then (v + (n:Int)).toNat else min v.toNat n
theorem sIx_none (n d:Nat):sIx n d none=d:=rfl
theorem sIx_nat (n d k:Nat):sIx n d (some (k:Int))=min k n:=by
 show (if (k:Int) < 0 then ((k:Int) + (n:Int)).toNat else min (k:Int).toNat n)=min k n
 rw [if_neg (by omega),Int.toNat_natCast]
end
end HT
namespace L2
open PySem PySem.Spec PyProof.Rows
abbrev TO:=St->Hp->(Option Int->Hp->Prop)->Prop
def PO (X:Cx) (e:Option Expr) (t:TO):Prop:=
 ∀(pins:List (Addr×Obj)) (s:Shared) (σ:St) (H:Hp) (Q:Option Int->Hp->Prop),Inv X pins σ H s->t σ H Q->
  wpAny (model X.prog X.w) X.A (evalPart e X.env) (fun u s'=>∃o H',Inv X pins σ H' s'/\IsPart u o/\Q o H') X.xe s
def tNoPart:TO:=fun _ H Q=>Q none H
def tPart (t:TE):TO:=fun σ H Q=>t σ H fun x H1=>∃i,x=.int i/\Q (some i) H1
section
variable {X:Cx} {e:Expr} {te:TE} {lo hi:Option Expr} {tl th:TO} {pos p2:Pos}
theorem po_none:PO X none tNoPart:=by
 intro pins s σ H Q I h
 rw [evalPart_none]
 exact wpAny_pure ⟨none,H,I,.none,h⟩
theorem po_some (h:PE X e te):PO X (some e) (tPart te):=by
 intro pins s σ H Q I hw
 rw [evalPart_some]
 refine thn (h pins s σ H _ I hw) fun u s1 ⟨x,H1,I1,r1,q1⟩=>?_
 obtain ⟨i,rfl,q⟩:=q1
 obtain ⟨t,rfl⟩:=r1
 exact ⟨some i,H1,I1,.int i t,q⟩
def SlR (X:Cx) (r:V->Option Int->Option Int->Hp->VK->Prop):Prop:=
 ∀(pins:List (Addr×Obj)) (s:Shared) (σ:St) (H:Hp) (x:V) (v vl vu:Value) (lo hi:Option Int) (sl:Addr) (Q:VK),Inv X pins σ H s->RelV x v->s.heap.IsSliceOf sl vl vu .none->IsPart vl lo->IsPart vu hi->r x lo hi H Q->
  ∃T id,typeLookup (.type T) "__getitem__" = pure (some (.builtin id))/\s.TypeIs v T/\wpAny (model X.prog X.w) X.A (getItem v (.ref sl)) (EP X pins σ Q) X.xe s
def tSl (r:V->Option Int->Option Int->Hp->VK->Prop) (te:TE) (tl th:TO):TE:=fun σ H Q=>te σ H fun x H1=>tl σ H1 fun l H2=>th σ H2 fun u H3=>r x l u H3 Q
theorem pe_slice {r:V->Option Int->Option Int->Hp->VK->Prop} (hr:SlR X r) (he:PE X e te) (hl:PO X lo tl) (hu:PO X hi th):PE X (.Subscript e (.Slice lo hi none p2) pos) (tSl r te tl th):=by
 intro pins s σ H Q I h
 refine Subscript_ (thn (he pins s σ H _ I h) fun v s1 ⟨x,H1,I1,r1,q1⟩=>?_)
 refine wpAny_Slice (thn (hl pins s1 σ H1 _ I1 q1) fun vl s2 ⟨l,H2,I2,pl,q2⟩=>thn (hu pins s2 σ H2 _ I2 q2) fun vu s3 ⟨u,H3,I3,pu,q3⟩=>?_)
 rw [evalPart_none]
 refine wpAny_pure ?_
 have I4:Inv X pins σ H3 {s3 with heap:=s3.heap.push {cls:=.type "slice",data:=.fields #[vl,vu,.none]}}:=I3.kept (t':=s3.toks) fun b ob q=>Heap.get?_push_of_some _ q
 obtain ⟨T,id,hT,ht,hg⟩:=hr pins {s3 with heap:=s3.heap.push {cls:=.type "slice",data:=.fields #[vl,vu,.none]}} σ H3 x v vl vu l u s3.heap.objs.size Q I4 r1 (Heap.IsSliceOf.new ..) pl pu q3
 show wpAny (model X.prog X.w) X.A (subscriptTail e (.Slice lo hi none p2) v (.ref s3.heap.objs.size)) (EP X pins σ Q) X.xe {s3 with heap:=s3.heap.push {cls:=.type "slice",data:=.fields #[vl,vu,.none]}}
 exact tail_any (ops:=[.ref s3.heap.objs.size,v]) ht hT hg (by with_unfolding_all rfl)
def cutV (xs:List V) (lo hi:Option Int):List V:=(xs.drop (HT.sIx xs.length 0 lo)).take (HT.sIx xs.length xs.length hi - HT.sIx xs.length 0 lo)
theorem cutV_length (xs:List V) (lo hi:Option Int):(cutV xs lo hi).length<=xs.length:=by
 unfold cutV
 rw [List.length_take,List.length_drop]
 omega
end
end L2
namespace L2
open PySem PySem.Spec PyProof.Rows
def ixN (n:Nat) (i:Int):Option Nat:=if 0<=i then (if i < n then some i.toNat else none) else if -(n:Int)<=i then some (i + n).toNat else none
def atI {α:Type} (xs:List α) (i:Int):Option α:=(ixN xs.length i).bind fun j=>xs[j]?
theorem ixN_seq {n:Nat} {i:Int} {j:Nat} (h:ixN n i=some j):seqIndex? i n=some j/\j < n/\-(n:Int)<=i/\i < n:=by
 unfold ixN at h
 by_cases h0:0<=i
 ·rw [if_pos h0] at h
  by_cases h1:i < n
  ·rw [if_pos h1] at h
   have e:i.toNat=j:=Option.some.inj h
   exact ⟨by rw [seqIndex_of h0 h1,e],by omega,by omega,h1⟩
  ·rw [if_neg h1] at h;cases h
 ·rw [if_neg h0] at h
  by_cases h1:-(n:Int)<=i
  ·rw [if_pos h1] at h
   have e:(i + n).toNat=j:=Option.some.inj h
   exact ⟨by rw [seqIndex_neg (by omega) h1,e],by omega,h1,by omega⟩
  ·rw [if_neg h1] at h;cases h
theorem atI_get {α:Type} {xs:List α} {i:Int} {v:α} (h:atI xs i=some v):∃j,seqIndex? i xs.length=some j/\xs[j]? = some v/\j < xs.length/\-(xs.length:Int)<=i/\i < xs.length:=by
 unfold atI at h
 cases e:ixN xs.length i with
 | none=>rw [e] at h;cases h
 | some j=>
  rw [e] at h
  obtain ⟨h1,h2,h3,h4⟩:=ixN_seq e
  exact ⟨j,h1,h,h2,h3,h4⟩
theorem atI_nat {α:Type} {xs:List α} {j:Nat} {v:α} (h:xs[j]? = some v):atI xs (j:Int)=some v:=by
 have hj:j < xs.length:=(List.getElem?_eq_some_iff.mp h).1
 have e:ixN xs.length (j:Int)=some j:=by
  unfold ixN
  rw [if_pos (by omega),if_pos (by omega)];simp
 unfold atI;rw [e];exact h
def PlainIx (b:Expr):Prop:=∀o i,subscripted b false o i=operate [o,i] (getItem o i)
def IxR (X:Cx) (r:R2):Prop:=
 ∀(value slice:Expr) (pins:List (Addr×Obj)) (s:Shared) (σ:St) (H:Hp) (x y:V) (v u:Value) (Q:VK),Inv X pins σ H s->RelV x v->RelV y u->r x y H Q->
  subscripted slice false v u=operate [v,u] (getItem v u)->wpAny (model X.prog X.w) X.A (subscriptTail value slice v u) (EP X pins σ Q) X.xe s
def MtR (X:Cx) (id:String) (r:V->List V->Hp->VK->Prop):Prop:=
 ∀(pins:List (Addr×Obj)) (s:Shared) (σ:St) (H:Hp) (x:V) (xs:List V) (v:Value) (us:List Value) (Q:VK),Inv X pins σ H s->RelV x v->Vals xs us->r x xs H Q->
  wpAny (model X.prog X.w) X.A (call (.builtin id) (v :: us)) (EP X pins σ Q) X.xe s
section
variable {X:Cx} {a b:Expr} {ta tb:TE} {pos:Pos}
theorem pe_ix {r:R2} (hr:IxR X r) (ha:PE X a ta) (hb:PE X b tb) (hs:PlainIx b):PE X (.Subscript a b pos) (tOp r ta tb):=by
 intro pins s σ H Q I h
 exact Subscript_ (binT ha hb I h fun v u s2 x y H2 I2 rx ry q=>hr a b pins s2 σ H2 x y v u Q I2 rx ry q (hs _ _))
def rIxL (K:PySem.W.Frag):R2:=fun x y H Q=>∃p xs i v,x=.ref p/\y=.int i/\SqL K H p xs/\atI xs i=some v/\Q v H
def rIxT (K:PySem.W.Frag):R2:=fun x y H Q=>∃p xs i v,x=.ref p/\y=.int i/\SqT K H p xs/\atI xs i=some v/\Q v H
theorem ix_list:IxR X (rIxL X.K):=by
 intro value slice pins s σ H x y v u Q I rx ry h hs
 obtain ⟨p,xs,i,z,rfl,rfl,hq,he,q⟩:=h
 cases rx
 obtain ⟨t,rfl⟩:=ry
 obtain ⟨its,r,pl,hz⟩:=I.list hq
 obtain ⟨j,h1,h2,h3,h4,h5⟩:=atI_get he
 obtain ⟨w,ew,rw'⟩:=r.get h2
 have hl:=r.length
 have hn:=line63
 have fin:EP X pins σ Q w s:=⟨z,H,I,rw',q⟩
 by_cases h0:0<=i
 ·have hj:i.toNat=j:=by
   rw [seqIndex_of h0 h5] at h1
   exact Option.some.inj h1
  exact item_listR pl.isList h0 (by omega) (by rw [hj];simpa using ew) fin hs
 ·have hj:(i + (its.toArray.size:Int)).toNat=j:=by
   rw [seqIndex_neg (by omega) h4] at h1
   rw [List.size_toArray,<-hl]
   exact Option.some.inj h1
  exact subscriptTail_builtinR (x:=w) pl.isList.typeIs slot_list_getitem.lookup
   (wpAny_getItem_list_neg (Q:=fun r s'=>r=w/\EP X pins σ Q r s') pl.isList (by omega) (by rw [List.size_toArray] <;> omega) (by omega) (by rw [hj];simpa using ew) ⟨rfl,fin⟩) hs
theorem ix_tup:IxR X (rIxT X.K):=by
 intro value slice pins s σ H x y v u Q I rx ry h hs
 obtain ⟨p,xs,i,z,rfl,rfl,hq,he,q⟩:=h
 cases rx
 obtain ⟨t,rfl⟩:=ry
 obtain ⟨its,r,pl,hz⟩:=I.tuple hq
 obtain ⟨j,h1,h2,h3,h4,h5⟩:=atI_get he
 obtain ⟨w,ew,rw'⟩:=r.get h2
 have hl:=r.length
 have hn:=line63
 have fin:EP X pins σ Q w s:=⟨z,H,I,rw',q⟩
 exact subscriptTail_builtinR (x:=w) pl.typeIs slot_tuple_getitem.lookup
  (getItem_tuple (j:=j) (Q:=fun r s'=>r=w/\EP X pins σ Q r s') pl (by omega) (by omega) (by rw [List.size_toArray,<-hl];exact h1) (by simpa using ew) ⟨rfl,fin⟩) hs
theorem mapSeq_set (its:List Value) (n j:Nat) (u:Value):Obj.mapSeq (·.setIfInBounds j u) {cls:=.type "list",data:=.seq its.toArray n}={cls:=.type "list",data:=.seq (its.set j u).toArray n}:=by
 simp [Obj.mapSeq]
theorem Inv.lst {pins:List (Addr×Obj)} {σ:St} {H:Hp} {s:Shared} {p:Addr} {xs:List V} (I:Inv X pins σ H s) (h:H p=some (.lst xs)) :
  ∃(its:List Value) (n:Nat),Vals xs its/\s.heap.get? p=some {cls:=.type "list",data:=.seq its.toArray n}/\xs.length<=sizeLine:=by
 obtain ⟨z,its,n,r,e⟩:=I.hok p _ h
 exact ⟨its,n,r,e,z⟩
theorem Inv.lstUpd {pins:List (Addr×Obj)} {σ:St} {H:Hp} {s:Shared} {p:Addr} {xs ys:List V} {its its':List Value} {n n':Nat} {f:Obj->Obj} (I:Inv X pins σ H s) (h:H p=some (.lst xs))
  (ho:s.heap.get? p=some {cls:=.type "list",data:=.seq its.toArray n}) (hf:f {cls:=.type "list",data:=.seq its.toArray n}={cls:=.type "list",data:=.seq its'.toArray n'}) (r:Vals ys its') (hz:ys.length<=sizeLine) (t:Nat) :
  Inv X pins σ (upd H p (.lst ys)) {s with heap:=s.heap.update p f,toks:=t}:=by
 have e:(s.heap.update p f).get? p=some {cls:=.type "list",data:=.seq its'.toArray n'}:=by
  rw [Heap.get?_update_self f ho (by rw [hf] <;> rfl),hf]
 refine I.write (x:=p) (e:=p) (by rw [h];trivial) (.inl rfl) (fun b u hb q=>(Heap.get?_update_other _ _ (Ne.symm hb)).trans q) ⟨_,e⟩ ?_
 exact ⟨hz,its',n',r,e⟩
def rSetL:V->V->V->Hp->(Hp->Prop)->Prop:=fun o i v H Q=>∃p xs k j,o=.ref p/\i=.int k/\H p=some (.lst xs)/\ixN xs.length k=some j/\Q (upd H p (.lst (xs.set j v)))
theorem set_list:PSet X rSetL:=by
 intro pins s σ H o i v ov iv u Q I ro ri rv h
 obtain ⟨p,xs,k,j,rfl,rfl,hp,hj,q⟩:=h
 cases ro
 obtain ⟨t,rfl⟩:=ri
 obtain ⟨its,n,r,ho,hz⟩:=I.lst hp
 obtain ⟨h1,h2,h3,h4⟩:=ixN_seq hj
 have hl:=r.length
 have hn:=line63
 have I':Inv X pins σ (upd H p (.lst (xs.set j v))) {s with heap:=s.heap.update p (Obj.mapSeq (·.setIfInBounds j u))}:=
  I.lstUpd hp ho (mapSeq_set its n j u) (r.set rv j) (by rw [List.length_set];exact hz) s.toks
 by_cases h0:0<=k
 ·have hk:k.toNat=j:=by
   rw [seqIndex_of h0 h4] at h1
   exact Option.some.inj h1
  exact PySem.W.ki_setAt ho h0 (by omega) (by rw [List.size_toArray,<-hl];exact h4) (by rw [hk];exact ⟨_,I',q⟩)
 ·have hk:(k + (its.toArray.size:Int)).toNat=j:=by
   rw [seqIndex_neg (by omega) h3] at h1
   rw [List.size_toArray,<-hl]
   exact Option.some.inj h1
  exact PySem.W.ki_setBack ho (by omega) (by rw [List.size_toArray,<-hl];exact h3) (by omega) (by rw [hk];exact ⟨_,I',q⟩)
theorem slice_bounds (lo hi:Option Int) (n:Nat):(sliceBounds lo hi none n).1=((HT.sIx n 0 lo:Nat):Int)/\(sliceBounds lo hi none n).2.1=((HT.sIx n n hi:Nat):Int)/\(sliceBounds lo hi none n).2.2=1:=by
 refine ⟨?_,?_,rfl⟩
 ·cases lo with
  | none=>simp [sliceBounds,HT.sIx]
  | some i=>
   simp only [sliceBounds,HT.sIx,Option.getD_none,show (1:Int) > 0 by decide,if_true]
   by_cases h:i < 0
   ·simp only [h,if_true] <;> omega
   ·simp only [h,if_false] <;> omega
 ·cases hi with
  | none=>simp [sliceBounds,HT.sIx]
  | some i=>
   simp only [sliceBounds,HT.sIx,Option.getD_none,show (1:Int) > 0 by decide,if_true]
   by_cases h:i < 0
   ·simp only [h,if_true] <;> omega
   ·simp only [h,if_false] <;> omega
theorem slicePick_cut (its:List Value) (lo hi:Option Int):slicePick its.toArray lo hi none=((its.drop (HT.sIx its.length 0 lo)).take (HT.sIx its.length its.length hi - HT.sIx its.length 0 lo)).toArray:=by
 obtain ⟨h1,h2,h3⟩:=slice_bounds lo hi its.toArray.size
 unfold slicePick
 rw [h1,h2,h3]
 simp only [sliceRange_one,pick_run,List.size_toArray] <;> rfl
def rSlL (K:PySem.W.Frag):V->Option Int->Option Int->Hp->VK->Prop:=fun x lo hi H Q=>∃a xs,x=.ref a/\SqL K H a xs/\∀p,H p=none->Q (.ref p) (upd H p (.lst (cutV xs lo hi)))
theorem sl_list:SlR X (rSlL X.K):=by
 intro pins s σ H x v vl vu lo hi sl Q I rx hs pl pu h
 obtain ⟨a,xs,rfl,hx,q⟩:=h
 cases rx
 obtain ⟨its,r,ht,hz⟩:=I.list hx
 have hlen:=r.length
 refine ⟨"list",_,slot_list_getitem.lookup,ht.isList.typeIs,?_⟩
 refine wpAny_getItem_list_slice ht.isList hs pl pu .none (by simp) ?_ (by rw [List.size_toArray] <;> omega)
 rw [slicePick_cut,<-hlen]
 refine ⟨.ref s.heap.objs.size,_,I.laid (t':=s.toks) (o:=.lst (cutV xs lo hi)) (fun b ob q=>Heap.get?_push_of_some _ q) (Nat.le_refl _) ?_,rfl,q _ (I.hok.fresh (Nat.le_refl _))⟩
 exact ⟨Nat.le_trans (cutV_length xs lo hi) hz,_,0,(r.drop (HT.sIx xs.length 0 lo)).take (HT.sIx xs.length xs.length hi - HT.sIx xs.length 0 lo),Heap.get?_push_size _ rfl⟩
def flatV:V->Bool
 | .non=>true
 | .bl _=>true
 | .int _=>true
 | .str _=>true
 | _=>false
def eqV:V->V->Bool
 | .non,.non=>true
 | .bl a,.bl b=>a == b
 | .bl a,.int b=>(if a then 1 else 0) == b
 | .int a,.bl b=>a == (if b then 1 else 0)
 | .int a,.int b=>a == b
 | .str a,.str b=>a == b
 | _,_=>false
theorem eqAt_V {A:Around} {s:Shared} {y x:V} {u v:Value} (ry:RelV y u) (rx:RelV x v) (fy:flatV y=true) (fx:flatV x=true):SeqAt.EqAt A s u v (eqV y x):=by
 cases y with
 | non=>
  cases ry
  cases x with
  | non=>cases rx;exact SeqAt.EqAt.same _
  | bl b=>cases rx;exact SeqAt.EqAt.none_bool b
  | int b=>obtain ⟨t,rfl⟩:=rx;exact SeqAt.EqAt.none_int b t
  | str b=>obtain ⟨t,rfl⟩:=rx;exact SeqAt.EqAt.none_str b t
  | _=>exact absurd (show false=true from fx) Bool.false_ne_true
 | bl a=>
  cases ry
  cases x with
  | non=>cases rx;exact SeqAt.EqAt.bool_none a
  | bl b=>cases rx;exact SeqAt.EqAt.bool_bool a b
  | int b=>obtain ⟨t,rfl⟩:=rx;exact SeqAt.EqAt.bool_int a b t
  | str b=>obtain ⟨t,rfl⟩:=rx;exact SeqAt.EqAt.bool_str a b t
  | _=>exact absurd (show false=true from fx) Bool.false_ne_true
 | int a=>
  obtain ⟨t',rfl⟩:=ry
  cases x with
  | non=>cases rx;exact SeqAt.EqAt.int_none a t'
  | bl b=>cases rx;exact SeqAt.EqAt.int_bool a t' b
  | int b=>obtain ⟨t,rfl⟩:=rx;exact SeqAt.EqAt.int_int a t' b t
  | str b=>obtain ⟨t,rfl⟩:=rx;exact SeqAt.EqAt.int_str a t' b t
  | _=>exact absurd (show false=true from fx) Bool.false_ne_true
 | str a=>
  obtain ⟨t',rfl⟩:=ry
  cases x with
  | non=>cases rx;exact SeqAt.EqAt.str_none a t'
  | bl b=>cases rx;exact SeqAt.EqAt.str_bool a t' b
  | int b=>obtain ⟨t,rfl⟩:=rx;exact SeqAt.EqAt.str_int a t' b t
  | str b=>obtain ⟨t,rfl⟩:=rx;exact SeqAt.EqAt.str_str a t' b t
  | _=>exact absurd (show false=true from fx) Bool.false_ne_true
 | _=>exact absurd (show false=true from fy) Bool.false_ne_true
def eqU (x:V) (u:Value):Bool:=match u with
 | .none=>eqV .non x
 | .bool b=>eqV (.bl b) x
 | .int i _=>eqV (.int i) x
 | .str z _=>eqV (.str z) x
 | _=>false
theorem eqU_of {x y:V} {u:Value} (r:RelV y u) (f:flatV y=true):eqU x u=eqV y x:=by
 cases y with
 | non=>cases r;rfl
 | bl b=>cases r;rfl
 | int i=>obtain ⟨t,rfl⟩:=r;rfl
 | str z=>obtain ⟨t,rfl⟩:=r;rfl
 | _=>exact absurd (show false=true from f) Bool.false_ne_true
theorem any_eqU {x:V}:∀{xs:List V} {us:List Value},Vals xs us->xs.all flatV=true->us.any (eqU x)=xs.any fun y=>eqV y x
 | _,_,.nil,_=>rfl
 | y :: xs,u :: us,.cons r t,f=>by
  rw [List.all_cons,Bool.and_eq_true] at f
  rw [List.any_cons,List.any_cons,eqU_of r f.1,any_eqU t f.2]
theorem mem_eqAt {A:Around} {s:Shared} {x:V} {v:Value} (rx:RelV x v) (fx:flatV x=true):∀{xs:List V} {us:List Value},Vals xs us->xs.all flatV=true->∀u∈us,SeqAt.EqAt A s u v (eqU x u)
 | _,_,.nil,_=>fun u hu=>by cases hu
 | y :: xs,u :: us,.cons r t,f=>fun u' hu=>by
  rw [List.all_cons,Bool.and_eq_true] at f
  rcases List.mem_cons.mp hu with rfl | hu
  ·rw [eqU_of r f.1];exact eqAt_V r rx f.1 fx
  ·exact mem_eqAt rx fx t f.2 u' hu
def inV (x:V) (xs:List V):Bool:=xs.any fun y=>eqV y x
def rIn (K:PySem.W.Frag) (neg:Bool):R2:=fun x y H Q=>∃p xs,y=.ref p/\(SqL K H p xs\/SqT K H p xs)/\flatV x=true/\xs.all flatV=true/\Q (.bl (if neg then !inV x xs else inV x xs)) H
theorem op_in_seq:OpR X (compareOp .In) (rIn X.K false):=by
 intro pins s σ H x y v u Q I rx ry h
 obtain ⟨p,xs,rfl,hq,fx,fs,q⟩:=h
 cases ry
 rcases hq with hq | hq
 ·obtain ⟨its,r,pl,hz⟩:=I.list hq
  refine SeqAt.in_listAt (eqU x) pl.isList (fun w hw=>mem_eqAt rx fx r fs w (by simpa using hw)) ⟨.bl _,H,I,rfl,?_⟩
  rw [show its.toArray.any (eqU x)=its.any (eqU x) by simp,any_eqU r fs]
  exact q
 ·obtain ⟨its,r,pl,hz⟩:=I.tuple hq
  refine SeqAt.in_tupleAt (eqU x) pl (fun w hw=>mem_eqAt rx fx r fs w (by simpa using hw)) ⟨.bl _,H,I,rfl,?_⟩
  rw [show its.toArray.any (eqU x)=its.any (eqU x) by simp,any_eqU r fs]
  exact q
theorem call_len_seq:CallR X (.builtin "len") (fun xs H Q=>∃p ys,xs=[.ref p]/\(SqL X.K H p ys\/SqT X.K H p ys)/\Q (.int ys.length) H):=by
 intro pins s σ H xs us Q I r h
 obtain ⟨p,ys,rfl,hq,q⟩:=h
 obtain ⟨u,rfl,rx⟩:=vals1 r
 cases rx
 have hn:=line63
 rcases hq with hq | hq
 ·obtain ⟨its,r',pl,hz⟩:=I.list hq
  have hlen:=r'.length
  exact Calls.call_len_list pl.isList (by simp only [List.size_toArray] <;> omega) ⟨.int ys.length,H,I.tok _,⟨s.toks + 1,by rw [List.size_toArray,hlen]⟩,q⟩
 ·obtain ⟨its,r',pl,hz⟩:=I.tuple hq
  have hlen:=r'.length
  exact len_tuple pl (by simp only [List.size_toArray] <;> omega) ⟨.int ys.length,H,I.tok _,⟨s.toks + 1,by rw [List.size_toArray,hlen]⟩,q⟩
theorem call_list_of:CallR X (.type "list") (fun xs H Q=>∃p ys,xs=[.ref p]/\(SqL X.K H p ys\/SqT X.K H p ys)/\∀l,H l=none->Q (.ref l) (upd H l (.lst ys))):=by
 intro pins s σ H xs us Q I r h
 obtain ⟨p,ys,rfl,hq,q⟩:=h
 obtain ⟨u,rfl,rx⟩:=vals1 r
 cases rx
 have fin:∀(its:List Value),Vals ys its->ys.length<=sizeLine->∀(h':Heap) (c':Nat),(∀b o',s.heap.get? b=some o'->h'.get? b=some o')->
   h'.get? s.heap.objs.size=some {cls:=.type "list",dict:=none,data:=.seq its.toArray c',slots:=#[]}->EP X pins σ Q (.ref s.heap.objs.size) {s with heap:=h'}:=fun its r' hz h' c' kp e=>
  ⟨.ref s.heap.objs.size,_,I.laid (t':=s.toks) kp (Nat.le_refl _) (show ObjOk X.prog X.w _ h' _ (.lst ys) from ⟨hz,its,c',r',e⟩),rfl,q _ (I.hok.fresh (Nat.le_refl _))⟩
 rcases hq with hq | hq
 ·obtain ⟨its,r',pl,hz⟩:=I.list hq
  have hlen:=r'.length
  obtain ⟨o,ho,hc,n,hd⟩:=pl.isList
  exact call_list_seq p (.inl rfl) ho hc hd (fun h' c' kp e=>fin its r' hz h' c' kp e) (by simp only [List.size_toArray] <;> omega)
 ·obtain ⟨its,r',pl,hz⟩:=I.tuple hq
  have hlen:=r'.length
  obtain ⟨o,ho,hc,n,hd⟩:=pl
  exact call_list_seq p (.inr rfl) ho hc hd (fun h' c' kp e=>fin its r' hz h' c' kp e) (by simp only [List.size_toArray] <;> omega)
def tyV (K:PySem.W.Frag) (T:String) (x:V) (H:Hp):Prop:=match x with
 | .str _=>T = "str"
 | .int _=>T = "int"
 | .ref p=>(T = "list"/\∃xs,SqL K H p xs)\/(T = "tuple"/\∃o,K.lookup p=some o/\o.cls=.type "tuple"/\o.dict=none)\/
   (T = "dict"/\((∃kvs,H p=some (.dK kvs))\/∃kvs,H p=some (.dT kvs)))\/(T = "set"/\∃S n,H p=some (.set S n))
 | _=>False
theorem tyV_is {pins:List (Addr×Obj)} {σ:St} {H:Hp} {s:Shared} {T:String} {x:V} {v:Value} (I:Inv X pins σ H s) (r:RelV x v) (ty:tyV X.K T x H) :
  s.TypeIs v T/\∀a,v=.ref a->∃ob,s.heap.get? a=some ob/\ob.dict=none:=by
 cases x with
 | str z=>
  obtain ⟨t,rfl⟩:=r
  cases (show T = "str" from ty)
  exact ⟨typeIs_str s z t,fun _ e=>nomatch e⟩
 | int i=>
  obtain ⟨t,rfl⟩:=r
  cases (show T = "int" from ty)
  exact ⟨typeIs_int s i t,fun _ e=>nomatch e⟩
 | ref p=>
  cases r
  rcases ty with ⟨rfl,xs,hq⟩ | ⟨rfl,o,hk,hc,hd⟩ | ⟨rfl,hk⟩ | ⟨rfl,S,n,hk⟩
  ·obtain ⟨its,_,pl,_⟩:=I.list hq
   refine ⟨pl.isList.typeIs,fun a e=>?_⟩
   cases e
   obtain ⟨o,n,e,c,hd,_⟩:=pl
   exact ⟨o,e,hd⟩
  ·refine ⟨⟨o,I.kIn p o hk,hc⟩,fun a e=>?_⟩
   cases e
   exact ⟨o,I.kIn _ o hk,hd⟩
  ·have z:∃o,s.heap.get? p=some o/\o.ExactDict:=by
    rcases hk with ⟨kvs,hk⟩ | ⟨kvs,hk⟩
    ·obtain ⟨_,_,_,_,o,_,_,e,ex,_⟩:=I.hok p _ hk
     exact ⟨o,e,ex⟩
    ·obtain ⟨_,_,_,_,o,_,_,e,ex,_⟩:=I.hok p _ hk
     exact ⟨o,e,ex⟩
   obtain ⟨o,e,ex⟩:=z
   refine ⟨⟨o,e,ex.1⟩,fun a e2=>?_⟩
   cases e2
   exact ⟨o,e,ex.2.1⟩
  ·obtain ⟨o,_,_,_,e,ex,_⟩:=I.hok p _ hk
   refine ⟨⟨o,e,ex.1⟩,fun a e2=>?_⟩
   cases e2
   exact ⟨o,e,ex.2.1⟩
 | _=>exact False.elim ty
def tBM0 (K:PySem.W.Frag) (T:String) (r:V->List V->Hp->VK->Prop) (to:TE):TE:=fun σ H Q=>to σ H fun x H1=>tyV K T x H1/\r x [] H1 Q
def tBM (K:PySem.W.Frag) (T:String) (r:V->List V->Hp->VK->Prop) (to:TE) (t:TA):TE:=fun σ H Q=>to σ H fun x H1=>tyV K T x H1/\t σ H1 fun xs H2=>r x xs H2 Q
variable {o e:Expr} {es:List Expr} {to:TE} {t:TA} {name:Str} {apos cpos:Pos} {T id:String} {r:V->List V->Hp->VK->Prop}
theorem pe_bm0 (pa:PlainAttrs T) (slot:Slot T name id) (hty:typeOf (.builtin id)=pure (.type "method_descriptor")) (hm:MtR X id r) (ho:PE X o to)
  (hbase:attributeBase o name X.env (eval o X.env)=eval o X.env:=by rfl) (hline:(apos.endLine == cpos.line)=true:=by rfl):PE X (.Call (.Attribute o name apos) [] [] cpos) (tBM0 X.K T r to):=by
 intro pins s σ H Q I h
 refine wpAny_Call_method0_late hbase hline (thn (ho pins s σ H _ I h) fun v s1 ⟨x,H1,I1,r1,ty,q1⟩=>?_)
 obtain ⟨h1,h2⟩:=tyV_is I1 r1 ty
 exact ⟨T,id,pa,slot,hty,h1,h2,Calls.callWith_builtin rfl (PySem.evalArgs_none (hm pins s1 σ H1 x [] v [] Q I1 r1 .nil q1))⟩
theorem pe_bm (pa:PlainAttrs T) (slot:Slot T name id) (hty:typeOf (.builtin id)=pure (.type "method_descriptor")) (hm:MtR X id r) (ho:PE X o to) (ha:PA X (e :: es) t)
  (hbase:attributeBase o name X.env (eval o X.env)=eval o X.env:=by rfl)
  (hfew:((backTo cpos (starEach (e :: es) X.env)).all (fun x=>!x.1) && (backToKw cpos (keywordEach [] X.env)).all (fun x=>x.1.isSome)
   && decide ((e :: es).length + ([]:List Keyword).length + (if ([]:List Keyword).isEmpty then 0 else 1) < 30))=true:=by rfl)
  (hline:(apos.endLine == cpos.line)=true:=by rfl) (hs:starEach (e :: es) X.env=(false,eval e X.env) :: starEach es X.env:=by rfl) (hplain:(backTo cpos (starEach es X.env)).any (·.1)=false:=by rfl) :
  PE X (.Call (.Attribute o name apos) (e :: es) [] cpos) (tBM X.K T r to t):=by
 intro pins s σ H Q I h
 refine wpAny_Call_method_late hbase hfew hline rfl (thn (ho pins s σ H _ I h) fun v s1 ⟨x,H1,I1,r1,ty,q1⟩=>?_)
 obtain ⟨h1,h2⟩:=tyV_is I1 r1 ty
 refine ⟨T,id,pa,slot,hty,h1,h2,?_⟩
 have hA:=ha cpos pins s1 σ H1 _ I1 q1
 rw [hs] at hA |-
 refine Calls.callWith_builtin (by show (false || (backTo cpos (starEach es X.env)).any (·.1))=false;rw [hplain] <;> rfl) (Calls.evalArgs_plain ?_)
 exact thn hA fun us s2 ⟨vs,H2,I2,r2,q2⟩=>hm pins s2 σ H2 x vs v us Q I2 r1 r2 q2
end
end L2
namespace L2
open PySem PySem.Spec PyProof.Rows
def MtM (X:Cx) (id:String) (r:V->List V->Hp->VK->Prop):Prop:=
 ∀(pins:List (Addr×Obj)) (s:Shared) (σ:St) (H:Hp) (x:V) (xs:List V) (v:Value) (us:List Value) (Q:VK),Inv X pins σ H s->RelV x v->Vals xs us->r x xs H Q->
  wpAny (model X.prog X.w) X.A (call (.builtin id) (v :: us)) (EP X pins σ Q) X.xe s
theorem Vals.one:∀{x:V} {us:List Value},Vals [x] us->∃u,us=[u]/\RelV x u
 | _,_,.cons r .nil=>⟨_,rfl,r⟩
theorem Vals.rep {xs:List V} {us:List Value} (h:Vals xs us):∀k:Nat,Vals (List.replicate k xs).flatten (List.replicate k us).flatten
 | 0=>.nil
 | k + 1=>by
  rw [List.replicate_succ,List.replicate_succ,List.flatten_cons,List.flatten_cons]
  exact Vals.append h (Vals.rep h k)
theorem foldl_rep (its:List Value):∀(k:Nat) (acc:List Value),
  List.foldl (fun x1 x2=>x1 ++ x2) acc.toArray (List.replicate k its.toArray)=(acc ++ (List.replicate k its).flatten).toArray
 | 0,acc=>by simp
 | k + 1,acc=>by
  have e:acc.toArray ++ its.toArray=(acc ++ its).toArray:=by simp
  have e2:(acc ++ its) ++ (List.replicate k its).flatten=acc ++ (List.replicate (k + 1) its).flatten:=by
   rw [List.replicate_succ,List.flatten_cons,List.append_assoc]
  rw [<-e2,<-foldl_rep its k (acc ++ its),<-e,List.replicate_succ,List.foldl_cons]
section
variable {X:Cx} {pins:List (Addr×Obj)} {σ:St} {H:Hp} {s:Shared} {l b:Addr} {xs ys zs:List V}
theorem Inv.lset {its its':List Value} {n:Nat} {f:Array Value->Array Value} {t':Nat} (I:Inv X pins σ H s) (hH:H l=some (.lst xs))
  (e:s.heap.get? l=some {cls:=.type "list",data:=.seq its.toArray n}) (hf:f its.toArray=its'.toArray) (hv:Vals ys its') (hz:ys.length<=sizeLine) :
  Inv X pins σ (upd H l (.lst ys)) {s with heap:=s.heap.update l (Obj.mapSeq f),toks:=t'}:=by
 have q:=PySem.IsL.update e f
 rw [hf] at q
 refine I.write (x:=l) (e:=l) (by rw [hH];exact trivial) (.inl rfl) (fun b' u hb hu=>(Heap.get?_update_other s.heap (Obj.mapSeq f) (Ne.symm hb)).trans hu) ⟨_,q⟩ ?_
 exact ⟨hz,its',_,hv,q⟩
theorem Inv.lnew {its:List Value} {t':Nat} (I:Inv X pins σ H s) (hv:Vals ys its) (hz:ys.length<=sizeLine) :
  Inv X pins σ (upd H s.heap.objs.size (.lst ys)) {s with heap:=s.heap.push {cls:=.type "list",data:=.seq its.toArray},toks:=t'}:=
 I.laid (fun _ _ q=>Heap.get?_push_of_some _ q) (Nat.le_refl _) ⟨hz,its,0,hv,Heap.get?_push_size _ rfl⟩
theorem Inv.fresh (I:Inv X pins σ H s):H s.heap.objs.size=none:=I.hok.fresh (Nat.le_refl _)
theorem Inv.lstM (I:Inv X pins σ H s) (hH:H l=some (.lst xs)):xs.length<=sizeLine/\∃(its:List Value) (n:Nat),Vals xs its/\xs.length=its.length/\s.heap.get? l=some {cls:=.type "list",data:=.seq its.toArray n}:=by
 obtain ⟨z,its,n,r,e⟩:=I.hok l _ hH
 exact ⟨z,its,n,r,r.length,e⟩
theorem notLongL {n:Nat} (h:n<=sizeLine):Builtin.List.listTooLong n=false:=by
 unfold Builtin.List.listTooLong
 exact decide_eq_false (by omega)
end
section
variable {X:Cx}
def rAppend:V->List V->Hp->VK->Prop:=fun x vs H Q=>∃l xs y,x=.ref l/\vs=[y]/\H l=some (.lst xs)/\xs.length < sizeLine/\Q .non (upd H l (.lst (xs ++ [y])))
theorem mt_append:MtM X "list.append" rAppend:=by
 intro pins s σ H x vs v us Q I rx rv h
 obtain ⟨l,xs,y,rfl,rfl,hH,hz,q⟩:=h
 cases rx
 obtain ⟨u,rfl,ru⟩:=rv.one
 obtain ⟨z,its,n,r,hl,e⟩:=I.lstM hH
 refine call_meets F.slot_list_append ⟨_,e,rfl⟩ F.entry_list_append (F.args_list_append_2 _ _) (PySem.list_append l its.toArray n u (by rw [List.size_toArray];omega)) ⟨e,?_⟩
 refine ⟨.non,_,I.lset (its':=its ++ [u]) hH e (by simp) (r.append (.cons ru .nil)) ?_,rfl,q⟩
 rw [List.length_append,List.length_singleton]
 omega
def rExtend:V->List V->Hp->VK->Prop:=fun x vs H Q=>∃l b xs zs,x=.ref l/\vs=[.ref b]/\H l=some (.lst xs)/\H b=some (.lst zs)/\xs.length + zs.length<=sizeLine/\Q .non (upd H l (.lst (xs ++ zs)))
theorem mt_extend:MtM X "list.extend" rExtend:=by
 intro pins s σ H x vs v us Q I rx rv h
 obtain ⟨l,b,xs,zs,rfl,rfl,hH,hB,hz,q⟩:=h
 cases rx
 obtain ⟨u,rfl,ru⟩:=rv.one
 cases ru
 obtain ⟨z,its,n,r,hl,e⟩:=I.lstM hH
 obtain ⟨z2,its2,n2,r2,hl2,e2⟩:=I.lstM hB
 have hsz:its.toArray.size + its2.toArray.size<=sizeLine:=by rw [List.size_toArray,List.size_toArray];omega
 have hlong:¬(!its.toArray.isEmpty && Builtin.List.listTooLong (its.toArray.size + its2.toArray.size))=true:=by
  rw [notLongL hsz,Bool.and_false]
  exact Bool.false_ne_true
 refine call_meets F.slot_list_extend ⟨_,e,rfl⟩ F.entry_list_extend (F.args_list_extend_2 _ _)
  (AutoSeq1.list_extend_list_list_0 l its.toArray n b its2.toArray n2 hlong (by rw [List.size_toArray];omega) (by omega)) ⟨e,e2,?_⟩
 refine ⟨.non,_,I.lset (its':=its ++ its2) hH e (by simp) (r.append r2) ?_,rfl,q⟩
 rw [List.length_append]
 omega
def rCat:R2:=fun x y H Q=>∃l b xs zs,x=.ref l/\y=.ref b/\H l=some (.lst xs)/\H b=some (.lst zs)/\xs.length + zs.length<=sizeLine/\∀p,H p=none->Q (.ref p) (upd H p (.lst (xs ++ zs)))
theorem op_cat:OpR X (binaryOp .Add) rCat:=by
 intro pins s σ H x y v u Q I rx ry h
 obtain ⟨l,b,xs,zs,rfl,rfl,hH,hB,hz,q⟩:=h
 cases rx
 cases ry
 obtain ⟨z,its,n,r,hl,e⟩:=I.lstM hH
 obtain ⟨z2,its2,n2,r2,hl2,e2⟩:=I.lstM hB
 refine PySem.P.add_list e e2 ?_ (by rw [List.size_toArray,List.size_toArray];omega)
 have ea:its.toArray ++ its2.toArray=(its ++ its2).toArray:=by simp
 rw [ea]
 exact ⟨.ref _,_,I.lnew (t':=s.toks) (r.append r2) (by rw [List.length_append];omega),rfl,q _ I.fresh⟩
def rRep:R2:=fun x y H Q=>∃l k xs,x=.ref l/\y=.int k/\H l=some (.lst xs)/\-(2 ^ 63)<=k/\k < 2 ^ 63/\xs.length * k.toNat<=sizeLine/\
 ∀p,H p=none->Q (.ref p) (upd H p (.lst (List.replicate k.toNat xs).flatten))
theorem len_rep {α:Type} (xs:List α) (k:Nat):(List.replicate k xs).flatten.length=k * xs.length:=by
 induction k with
 | zero=>simp
 | succ k ih=>rw [List.replicate_succ,List.flatten_cons,List.length_append,ih,Nat.succ_mul,Nat.add_comm]
theorem op_rep:OpR X (binaryOp .Mult) rRep:=by
 intro pins s σ H x y v u Q I rx ry h
 obtain ⟨l,k,xs,rfl,rfl,hH,h1,h2,hz,q⟩:=h
 cases rx
 obtain ⟨t,rfl⟩:=ry
 obtain ⟨z,its,n,r,hl,e⟩:=I.lstM hH
 have hlen:its.toArray.size * k.toNat<=sizeLine:=by rw [List.size_toArray,<-hl];exact hz
 have hcap:¬its.toArray.size * k.toNat > (2 ^ 63 - 1) / 8:=by
  have:(sizeLine:Nat)<=(2 ^ 63 - 1) / 8:=by decide
  omega
 have hfit:¬(!Builtin.List.listFitsIndex k)=true:=by
  rw [fitsIndex_both h1 h2]
  exact Bool.false_ne_true
 have hlong:¬Builtin.List.listTooLong (its.toArray.size * k.toNat)=true:=by
  rw [notLongL hlen]
  exact Bool.false_ne_true
 have hnew:List.foldl (fun x1 x2=>x1 ++ x2) #[] (List.replicate (if its.toArray.isEmpty=true then 0 else k.toNat) its.toArray)=(List.replicate k.toNat its).flatten.toArray:=by
  have f0:∀m:Nat,List.foldl (fun x1 x2=>x1 ++ x2) #[] (List.replicate m its.toArray)=(List.replicate m its).flatten.toArray:=fun m=>by
   have:=foldl_rep its m []
   rw [List.nil_append] at this
   exact this
  rw [f0]
  cases its with
  | nil=>simp
  | cons a r'=>rw [if_neg (by simp)]
 refine wpAny_binaryOp_repeat_ref (T:="list") (U:="int") (by decide) ⟨_,e,rfl⟩ (fun s'=>typeIs_int s' k t) noFill_list_mul F.fills_int_mul F.slot_int_rmul repeat_list F.slot_int_index.lookup
  (call_meets F.slot_int_rmul (typeIs_int s k t) F.entry_int_rmul (F.args_int_rmul_2 _ _) (int___rmul___int_list k t l its.toArray n)
   ⟨e,rfl,⟨_,e,rfl⟩,call_meets F.slot_list_mul ⟨_,e,rfl⟩ F.entry_list_mul (F.args_list_mul_2 _ _) (AutoListH.list___mul___list_int_3 l its.toArray n k t hfit hcap hlong) ⟨e,?_⟩⟩)
 rw [hnew]
 exact ⟨.ref _,_,I.lnew (t':=s.toks) (r.rep k.toNat) (by rw [len_rep,Nat.mul_comm];exact hz),rfl,q _ I.fresh⟩
end
section
variable {prog:Program} {w:World} {A:Around} {E:Value->Shared->Prop} {s:Shared}
end
section
variable {X:Cx}
end
end L2
namespace L2
open PySem PySem.Spec PyProof.Rows
theorem Vals.ints:∀{ns:List Int} {us:List Value},Vals (ns.map V.int) us->IntsAre us ns
 | [],us,h=>by
  rw [List.map_nil] at h
  cases h
  exact IntsAre.nil
 | n :: ns,us,h=>by
  rw [List.map_cons] at h
  cases h with
  | cons r t=>
   obtain ⟨k,rfl⟩:=r
   exact IntsAre.cons n k (Vals.ints t)
theorem Vals.bls:∀{bs:List Bool} {us:List Value},Vals (bs.map V.bl) us->us=bs.map Value.bool
 | [],us,h=>by
  rw [List.map_nil] at h
  cases h
  rfl
 | b :: bs,us,h=>by
  rw [List.map_cons] at h
  cases h with
  | cons r t=>
   cases r
   rw [Vals.bls t,List.map_cons]
theorem Vals.ref1 {a:Addr} {us:List Value} (r:Vals [V.ref a] us):us=[Value.ref a]:=by
 cases r with
 | cons r t=>
  cases t
  cases r
  rfl
section
variable {prog:Program} {w:World} {A:Around} {E:Value->Shared->Prop} {s:Shared} {l:Addr} {its:List Value} {ns:List Int} {Q:Value->Shared->Prop}
theorem sum_raw (hh:A.handled=none) (hl:s.heap.IsList l its.toArray) (hi:IntsAre its ns)
  (h:∀h' tk t',(∀b o,s.heap.get? b=some o->h'.get? b=some o)->Q (.int ns.sum t') {s with heap:=h',toks:=tk}):wpAny (model prog w) A (call (.builtin "sum") [.ref l]) Q E s:=by
 obtain ⟨xs,e⟩:=hi.allInts.items
 have hn:numsOf (intItems xs).toList=ns:=by rw [<-e];exact hi.numsOf
 rw [nums_intItems] at hn
 rw [e] at hl
 refine PySem.sum_intListG hh hl fun h' tk t' hk=>?_
 have:=h h' tk t' hk
 rw [preSum_eq,List.take_of_length_le (by simp),hn];exact this
theorem max_raw (hh:A.handled=none) (hl:s.heap.IsList l its.toArray) (hi:IntsAre its ns) (hne:0 < ns.length)
  (h:∀h' tk M t',(∀b o,s.heap.get? b=some o->h'.get? b=some o)->M∈ns->(∀a,a∈ns->a<=M)->Q (.int M t') {s with heap:=h',toks:=tk}):wpAny (model prog w) A (call (.builtin "max") [.ref l]) Q E s:=by
 obtain ⟨xs,e⟩:=hi.allInts.items
 have hn:numsOf (intItems xs).toList=ns:=by rw [<-e];exact hi.numsOf
 rw [nums_intItems] at hn
 subst hn
 rw [e] at hl
 have hsz:0 < xs.size:=by simpa using hne
 refine PySem.max_intList hh hl hsz fun v h' tk hv hk=>?_
 obtain ⟨t,rfl⟩:=intItems_at hv
 obtain ⟨h1,h2⟩:=argBest_gt (numAt xs) (xs.size - 1)
 refine h h' tk _ t hk ?_ fun a ha=>?_
 ·rw [numAt_eq];exact PySem.getD_mem (by rw [List.length_map,Array.length_toList];omega)
 ·obtain ⟨j,hj,rfl⟩:=mem_getD ha
  rw [List.length_map,Array.length_toList] at hj
  rw [<-numAt_eq];exact h2 j (by omega)
end
section
variable {X:Cx}
def rSum (K:PySem.W.Frag):List V->Hp->VK->Prop:=fun vs H Q=>∃(a:Addr) (ns:List Int),vs=[V.ref a]/\SqL K H a (ns.map V.int)/\Q (.int ns.sum) H
def rMax (K:PySem.W.Frag):List V->Hp->VK->Prop:=fun vs H Q=>∃(a:Addr) (ns:List Int),vs=[V.ref a]/\SqL K H a (ns.map V.int)/\0 < ns.length/\∀m,m∈ns->(∀y,y∈ns->y<=m)->Q (.int m) H
theorem cr_sum (hc:X.calm=true):CallR X (.builtin "sum") (rSum X.K):=by
 intro pins s σ H vs us Q I r h
 obtain ⟨a,ns,rfl,hs,q⟩:=h
 obtain ⟨its,rv,hl,_⟩:=I.list hs
 rw [Vals.ref1 r]
 exact sum_raw (I.ok.hd hc) hl.isList rv.ints fun h' tk t' hk=>⟨.int _,H,I.kept hk,⟨_,rfl⟩,q⟩
theorem cr_max (hc:X.calm=true):CallR X (.builtin "max") (rMax X.K):=by
 intro pins s σ H vs us Q I r h
 obtain ⟨a,ns,rfl,hs,hne,q⟩:=h
 obtain ⟨its,rv,hl,_⟩:=I.list hs
 rw [Vals.ref1 r]
 exact max_raw (I.ok.hd hc) hl.isList rv.ints hne fun h' tk m t' hk h1 h2=>⟨.int _,H,I.kept hk,⟨_,rfl⟩,q m h1 h2⟩
end
section
variable {X:Cx}
end
section
variable {X:Cx}
end
theorem iter_any {prog:Program} {w:World} {A:Around} {E:Value->Shared->Prop} {s:Shared} {l:Addr} {items:Array Value} {Q:Value->Shared->Prop} (hl:s.heap.IsList l items)
  (h:∀s₂:Shared,s₂={s with heap:=s.heap.push {cls:=.type "list_iterator",data:=.fields #[.ref l,.int 0 0]}}->
   (s₂.heap.IsListIter s.heap.objs.size l 0/\s₂.heap.IsList l items)->l≠s.heap.objs.size->Q (.ref s.heap.objs.size) s₂):wpAny (model prog w) A (pyIter (.ref l)) Q E s:=by
 have hlt:l < s.heap.objs.size:=by obtain ⟨_,e,_⟩:=hl;exact Heap.lt_size e
 exact wpAny_pyIter_list hl (h _ rfl ⟨⟨_,Heap.get?_push_size _ rfl,rfl,rfl⟩,hl.push _⟩ (Nat.ne_of_lt hlt))
theorem truth_bools {prog:Program} {w:World} {A:Around} {bs:List Bool} {its:List Value} (e:its=bs.map Value.bool) :
  TruthOf prog w A (fun i v=>its.toArray[i]? = some v) (fun i=>bs.getD i false):=fun i v s Q E hv hq=>by
 have hv':its[i]? = some v:=by simpa using hv
 rw [e,List.getElem?_map] at hv'
 obtain ⟨b,hb,rfl⟩:=Option.map_eq_some_iff.mp hv'
 have hg:bs.getD i false=b:=by rw [List.getD_eq_getElem?_getD,hb] <;> rfl
 have hq':Q (bs.getD i false) s:=hq
 rw [hg] at hq'
 exact wpAny_truthy_bool hq'
theorem any_range:∀bs:List Bool,(List.range bs.length).any (fun i=>bs.getD i false)=bs.any id
 | []=>rfl
 | b :: bs=>by
  rw [List.length_cons,List.range_succ_eq_map,List.any_cons,List.any_map,List.any_cons,<-any_range bs]
  all_goals rfl
section
variable {X:Cx}
def rAny (K:PySem.W.Frag):List V->Hp->VK->Prop:=fun vs H Q=>∃(a:Addr) (bs:List Bool),vs=[V.ref a]/\SqL K H a (bs.map V.bl)/\Q (.bl (bs.any id)) H
theorem cr_any (hc:X.calm=true):CallR X (.builtin "any") (rAny X.K):=by
 intro pins s σ H vs us Q I r h
 obtain ⟨a,bs,rfl,hs,q⟩:=h
 obtain ⟨its,rv,hl,_⟩:=I.list hs
 rw [Vals.ref1 r]
 have hb:=rv.bls
 refine call_any_walk (iter_any hl.isList fun s₂ e2 st hne=>?_)
 subst e2
 refine ⟨_,_,_,_,_,_,_,rfl,Walks.list (A:=X.A.in1) (I.ok.hd hc) _ a hne its.toArray,st,truth_bools hb,fun h' tk hk=>?_⟩
 refine ⟨.bl _,H,I.kept fun b o eo=>hk b o (fun hmem=>?_) (Heap.get?_push_of_some _ eo),?_,q⟩
 ·rcases List.mem_cons.mp hmem with e1 | hmem
  ·exact absurd (e1 ▸ Heap.lt_size eo) (Nat.lt_irrefl _)
  ·cases hmem
 ·show Value.bool _=Value.bool _
  rw [<-any_range,hb,List.size_toArray,List.length_map]
end
mutual
inductive Dp (K:PySem.W.Frag) (H:Hp):V->PyData->Prop
 | non:Dp K H .non .none
 | bl (b:Bool):Dp K H (.bl b) (.bool b)
 | int (i:Int):Dp K H (.int i) (.int i)
 | str (x:Str):Dp K H (.str x) (.str x)
 | lst {a:Addr} {xs:List V} {ds:List PyData}:SqL K H a xs->DpAll K H xs ds->Dp K H (.ref a) (.list ds)
 | tup {a:Addr} {xs:List V} {ds:List PyData}:SqT K H a xs->DpAll K H xs ds->Dp K H (.ref a) (.tuple ds)
inductive DpAll (K:PySem.W.Frag) (H:Hp):List V->List PyData->Prop
 | nil:DpAll K H [] []
 | cons {v:V} {vs:List V} {d:PyData} {ds:List PyData}:Dp K H v d->DpAll K H vs ds->DpAll K H (v :: vs) (d :: ds)
end
section
variable {X:Cx} {pins:List (Addr×Obj)} {σ:St} {H:Hp} {s:Shared}
mutual
theorem Dp.reads (I:Inv X pins σ H s):∀(d:PyData) (v:V) (u:Value),Dp X.K H v d->RelV v u->∃as,Reads s.heap u d as
 | .none,_,_,h,r=>by
  cases h
  cases r
  exact ⟨_,Reads.none⟩
 | .bool b,_,_,h,r=>by
  cases h
  cases r
  exact ⟨_,Reads.bool b⟩
 | .int i,_,_,h,r=>by
  cases h
  obtain ⟨t,rfl⟩:=r
  exact ⟨_,Reads.int i t⟩
 | .str x,_,_,h,r=>by
  cases h
  obtain ⟨t,rfl⟩:=r
  exact ⟨_,Reads.str x t⟩
 | .list ds,_,_,h,r=>by
  cases h with
  | lst hs ha=>
   cases r
   obtain ⟨its,rv,⟨o,n,ho,hc,_,hd⟩,_⟩:=I.list hs
   obtain ⟨as,hr⟩:=Dp.readsAll I ds _ its ha rv
   exact ⟨_,Reads.list ho hc hd hr⟩
 | .tuple ds,_,_,h,r=>by
  cases h with
  | tup hs ha=>
   cases r
   obtain ⟨its,rv,⟨o,ho,hc,n,hd⟩,_⟩:=I.tuple hs
   obtain ⟨as,hr⟩:=Dp.readsAll I ds _ its ha rv
   exact ⟨_,Reads.tuple ho hc hd hr⟩
 | .dict _,_,_,h,_=>by cases h
theorem Dp.readsAll (I:Inv X pins σ H s):∀(ds:List PyData) (vs:List V) (us:List Value),DpAll X.K H vs ds->Vals vs us->∃as,ReadsAll s.heap us ds as
 | [],_,_,h,r=>by
  cases h
  cases r
  exact ⟨_,ReadsAll.nil⟩
 | d :: ds,_,_,h,r=>by
  cases h with
  | cons h1 h2=>
   cases r with
   | cons r1 r2=>
    obtain ⟨as,q1⟩:=Dp.reads I d _ _ h1 r1
    obtain ⟨bs,q2⟩:=Dp.readsAll I ds _ _ h2 r2
    exact ⟨_,ReadsAll.cons q1 q2⟩
end
end
section
variable {X:Cx}
def rNeD (K:PySem.W.Frag):R2:=fun x y H Q=>∃d e,Dp K H x d/\Dp K H y e/\SeqAt.shaped d=true/\SeqAt.shaped e=true/\Q (.bl (!PyData.eqv d e)) H
theorem op_neD (hu:X.A.units + 64 < cLine):OpR X (compareOp .NotEq) (rNeD X.K):=by
 intro pins s σ H x y v u Q I rx ry h
 obtain ⟨d,e,hd,he,sd,se,q⟩:=h
 obtain ⟨as,r1⟩:=Dp.reads I d x v hd rx
 obtain ⟨bs,r2⟩:=Dp.reads I e y u he ry
 exact SeqAt.compareNe_shaped r1 r2 sd se hu ⟨.bl _,H,I,rfl,q⟩
end
end L2
namespace L2
open PySem PySem.Spec PyProof.Rows
abbrev CellAt (h:Heap) (c:Addr) (v:Option Value):Prop:=h.IsCell c v
def relS (scope sc:Scope):Scope:=
 {scope with names:=scope.names.map fun (n,k)=>if (k == .free && sc.kind == .function && sc.names.lookup n == some .cell) then (n,.cell) else (n,k)}
def cloFrom (cells:List (Str×Addr)):List (Str×NameKind)->List (Str×Addr)->List (Str×Addr)
 | [],acc=>acc
 | (n,k) :: r,acc=>if k == .free then cloFrom cells r ((n,(cells.lookup n).getD 0) :: acc) else cloFrom cells r acc
theorem closure_loop (env:Env) (f:Str×NameKind->List (Str×Addr)->Sem (ForInStep (List (Str×Addr))))
  (hf:∀n k c,f (n,k) c=if k == .free then (do let a <-cellOf env n;pure (.yield ((n,a) :: c))) else pure (.yield c)) :
  ∀(names:List (Str×NameKind)) (acc:List (Str×Addr)),(∀y∈names,y.2=.free->∃c,env.cells.lookup y.1=some c)->forIn names acc f=pure (cloFrom env.cells names acc)
 | [],acc,_=>by rw [List.forIn_nil];rfl
 | (n,k) :: r,acc,h=>by
  rw [List.forIn_cons,hf]
  have ih:=fun acc=>closure_loop env f hf r acc fun y hy=>h y (List.mem_cons_of_mem _ hy)
  unfold cloFrom
  by_cases hk:(k == NameKind.free)=true
  ·rw [if_pos hk,if_pos hk]
   obtain ⟨c,hc⟩:=h (n,k) List.mem_cons_self (by simpa using hk)
   have e:cellOf env n=pure c:=by unfold cellOf;rw [hc]
   rw [e]
   have e2:(env.cells.lookup n).getD 0=c:=by rw [hc];rfl
   rw [e2]
   exact ih _
  ·rw [if_neg hk,if_neg hk]
   exact ih _
theorem closure_ok {scope:Scope} {env:Env} (h:∀y∈scope.names,y.2=.free->∃c,env.cells.lookup y.1=some c):closureFor scope env=pure (cloFrom env.cells scope.names []):=by
 simp only [closureFor]
 rw [closure_loop env _ (fun n k c=>rfl) scope.names [] h]
 rfl
theorem mem_lookup {α:Type}:∀{l:List (Str×α)} {n:Str} {c:α},(n,c)∈l->∃c',l.lookup n=some c'
 | (k,v) :: r,n,c,h=>by
  rw [List.lookup_cons]
  cases hb:n == k with
  | true=>exact ⟨_,rfl⟩
  | false=>
   rcases List.mem_cons.mp h with e | h
   ·cases e;simp at hb
   ·exact mem_lookup h
theorem cloFrom_mem {cells:List (Str×Addr)}:∀{names:List (Str×NameKind)} {acc:List (Str×Addr)} {n:Str} {c:Addr},(n,c)∈cloFrom cells names acc->(n,c)∈acc\/((n,.free)∈names/\c=(cells.lookup n).getD 0)
 | [],_,_,_,h=>.inl h
 | (m,k) :: r,acc,n,c,h=>by
  unfold cloFrom at h
  split at h
  ·rename_i hk
   have hk:k=.free:=by simpa using hk
   rcases cloFrom_mem h with h | ⟨h1,h2⟩
   ·rcases List.mem_cons.mp h with e | h
    ·cases e;exact .inr ⟨hk ▸ List.mem_cons_self,rfl⟩
    ·exact .inl h
   ·exact .inr ⟨List.mem_cons_of_mem _ h1,h2⟩
  ·rcases cloFrom_mem h with h | ⟨h1,h2⟩
   ·exact .inl h
   ·exact .inr ⟨List.mem_cons_of_mem _ h1,h2⟩
theorem cloFrom_acc {cells:List (Str×Addr)}:∀{names:List (Str×NameKind)} {acc:List (Str×Addr)} {p:Str×Addr},p∈acc->p∈cloFrom cells names acc
 | [],_,_,h=>h
 | (m,k) :: r,acc,p,h=>by
  unfold cloFrom
  split
  ·exact cloFrom_acc (List.mem_cons_of_mem _ h)
  ·exact cloFrom_acc h
theorem cloFrom_has {cells:List (Str×Addr)}:∀{names:List (Str×NameKind)} {acc:List (Str×Addr)} {n:Str},(n,.free)∈names->(n,(cells.lookup n).getD 0)∈cloFrom cells names acc
 | (m,k) :: r,acc,n,h=>by
  unfold cloFrom
  rcases List.mem_cons.mp h with e | h
  ·cases e
   exact cloFrom_acc List.mem_cons_self
  ·split
   ·exact cloFrom_has h
   ·exact cloFrom_has h
theorem cells_mem:∀{names:List (Str×NameKind)} {h:Heap} {acc:List (Str×Addr)} {x:Str} {c:Addr},(x,c)∈cellsFrom h.objs.size names acc->
  (x,c)∈acc\/((x,.cell)∈names/\h.objs.size<=c/\CellAt (pushCells h names) c none)
 | [],_,_,_,_,h=>.inl h
 | (n,k) :: r,h,acc,x,c,hm=>by
  unfold cellsFrom at hm
  unfold pushCells
  split at hm
  ·rename_i hk
   rw [if_pos hk]
   have hk:k=.cell:=by simpa using hk
   rw [<-Heap.size_push h {cls:=.type "cell",data:=.cell none}] at hm
   rcases cells_mem hm with hm | ⟨h1,h2,h3⟩
   ·rcases List.mem_cons.mp hm with e | hm
    ·cases e
     exact .inr ⟨hk ▸ List.mem_cons_self,Nat.le_refl _,_,pushCells_keeps r _ _ _ (Heap.get?_push_size _ rfl),rfl⟩
    ·exact .inl hm
   ·rw [Heap.size_push] at h2
    exact .inr ⟨List.mem_cons_of_mem _ h1,Nat.le_of_succ_le h2,h3⟩
  ·rename_i hk
   rw [if_neg hk]
   rcases cells_mem hm with hm | ⟨h1,h2,h3⟩
   ·exact .inl hm
   ·exact .inr ⟨List.mem_cons_of_mem _ h1,h2,h3⟩
theorem cells_acc:∀{names:List (Str×NameKind)} {n:Nat} {acc:List (Str×Addr)} {p:Str×Addr},p∈acc->p∈cellsFrom n names acc
 | [],_,_,_,h=>h
 | (m,k) :: r,n,acc,p,h=>by
  unfold cellsFrom
  split
  ·exact cells_acc (List.mem_cons_of_mem _ h)
  ·exact cells_acc h
theorem cells_has:∀{names:List (Str×NameKind)} {n:Nat} {acc:List (Str×Addr)} {x:Str},(x,.cell)∈names->∃c,(x,c)∈cellsFrom n names acc
 | (m,k) :: r,n,acc,x,h=>by
  unfold cellsFrom
  rcases List.mem_cons.mp h with e | h
  ·cases e
   exact ⟨n,cells_acc List.mem_cons_self⟩
  ·split
   ·exact cells_has h
   ·exact cells_has h
theorem cells_inj:∀{names:List (Str×NameKind)} {h:Heap} {acc:List (Str×Addr)} {x y:Str} {c:Addr},(∀p∈acc,p.2 < h.objs.size)->(∀x y c,(x,c)∈acc->(y,c)∈acc->x=y)->
  (x,c)∈cellsFrom h.objs.size names acc->(y,c)∈cellsFrom h.objs.size names acc->x=y
 | [],_,_,_,_,_,_,hi,h1,h2=>hi _ _ _ h1 h2
 | (n,k) :: r,h,acc,x,y,c,hl,hi,h1,h2=>by
  unfold cellsFrom at h1 h2
  split at h1
  ·rename_i hk
   rw [if_pos hk] at h2
   rw [<-Heap.size_push h {cls:=.type "cell",data:=.cell none}] at h1 h2
   refine cells_inj (h:=h.push _) (fun p hp=>?_) (fun x y c a b=>?_) h1 h2
   ·rw [Heap.size_push]
    rcases List.mem_cons.mp hp with rfl | hp
    ·exact Nat.lt_succ_self _
    ·exact Nat.lt_succ_of_lt (hl p hp)
   ·rcases List.mem_cons.mp a with e | a <;> rcases List.mem_cons.mp b with e' | b
    ·cases e;cases e';rfl
    ·cases e;exact absurd (hl _ b) (Nat.lt_irrefl _)
    ·cases e';exact absurd (hl _ a) (Nat.lt_irrefl _)
    ·exact hi _ _ _ a b
  ·rename_i hk
   rw [if_neg hk] at h2
   exact cells_inj hl hi h1 h2
theorem newEnv_comp {M:Model} {A:Around} {E:Value->Shared->Prop} {s:Shared} {scope:Scope} {globals:Addr} {closure:List (Str×Addr)} {qual:Str} {func:Option Addr} {code:Value} {around:Env} {builtins:Addr} {Q:Env->Shared->Prop}
  (h:Q (newEnv scope s.heap.objs.size globals (cellsFrom (s.heap.objs.size + 1) scope.names closure) qual func code (some around) builtins)
   {s with heap:=pushCells (s.heap.push {cls:=.type "dict",data:=.dict #[]}) scope.names}) :
  wpAny M A (newFunctionEnv scope globals closure [] qual func code (some around) builtins) Q E s:=by
 simp only [newFunctionEnv,Option.isSome_some,if_true]
 refine wpAny_bind (wpAny_alloc ?_)
 refine wpAny_bind (wpAny_layCells _ (fun n k c=>rfl) scope.names closure _ _ ?_)
 rw [show ({s with heap:=s.heap.push {cls:=.type "dict",data:=.dict #[]}}:Shared).heap.objs.size=s.heap.objs.size + 1 from Heap.size_push ..]
 rw [List.forIn_nil]
 exact wpAny_bind (wpAny_pure (wpAny_pure h))
theorem lookup_relS {sc:Scope}:∀{names:List (Str×NameKind)} {x:Str} {k:NameKind},
  (names.map fun (n,k)=>if (k == NameKind.free && sc.kind == .function && sc.names.lookup n == some .cell) then (n,NameKind.cell) else (n,k)).lookup x=some k->
  ∃k',names.lookup x=some k'/\(k=k'\/(k'=.free/\k=.cell))
 | [],_,_,h=>by simp at h
 | (n,k₀) :: r,x,k,h=>by
  have ih:=@lookup_relS sc r x k
  have h':List.lookup x ((if (k₀ == NameKind.free && sc.kind == .function && sc.names.lookup n == some .cell)=true then (n,NameKind.cell) else (n,k₀)) :: (r.map _))=some k:=h
  cases hx:x == n with
  | true=>
   simp only [List.lookup_cons,hx]
   by_cases hc:(k₀ == NameKind.free && sc.kind == .function && sc.names.lookup n == some .cell)=true
   ·rw [if_pos hc] at h'
    simp only [List.lookup_cons,hx] at h'
    cases h'
    simp only [Bool.and_eq_true,beq_iff_eq] at hc
    exact ⟨k₀,rfl,.inr ⟨hc.1.1,rfl⟩⟩
   ·rw [if_neg hc] at h'
    simp only [List.lookup_cons,hx] at h'
    cases h'
    exact ⟨_,rfl,.inl rfl⟩
  | false=>
   simp only [List.lookup_cons,hx]
   by_cases hc:(k₀ == NameKind.free && sc.kind == .function && sc.names.lookup n == some .cell)=true
   ·rw [if_pos hc] at h'
    simp only [List.lookup_cons,hx] at h'
    exact ih h'
   ·rw [if_neg hc] at h'
    simp only [List.lookup_cons,hx] at h'
    exact ih h'
structure BlkOk (N:List Str) (sc scope:Scope) (own:List (Str×Nat)):Prop where
 kind:scope.kind=.function
 uniq:∀y∈scope.names,scope.names.lookup y.1=some y.2
 ix:∀p∈own,N[p.2]? = some p.1
 free:∀y∈scope.names,y.2=.free->sc.names.lookup y.1=some .cell\/sc.names.lookup y.1=some .free
 own:∀y∈scope.names,y.2=.local\/y.2=.cell->y.1∈own.map (·.1)\/y.1∉N
def wipe (σ:St):List Nat->St
 | []=>σ
 | v :: vs=>(wipe σ vs).set v none
theorem wipe_length (σ:St):∀vs:List Nat,(wipe σ vs).length=σ.length
 | []=>rfl
 | v :: vs=>by unfold wipe;rw [List.length_set,wipe_length σ vs]
theorem wipe_some {σ:St} {i:Nat} {x:V}:∀{vs:List Nat},(wipe σ vs)[i]? = some (some x)->σ[i]? = some (some x)/\i∉vs
 | [],h=>⟨h,by simp⟩
 | v :: vs,h=>by
  unfold wipe at h
  by_cases hi:v=i
  ·subst hi
   by_cases hv:v < (wipe σ vs).length
   ·rw [List.getElem?_set_self hv] at h;cases h
   ·rw [List.getElem?_eq_none (by simpa using hv)] at h;cases h
  ·rw [List.getElem?_set_ne hi] at h
   obtain ⟨h1,h2⟩:=wipe_some h
   exact ⟨h1,by simp only [List.mem_cons,not_or];exact ⟨fun e=>hi e.symm,h2⟩⟩
abbrev Cx.blk (X:Cx) (s:Shared) (H:Hp) (scope:Scope) (cenv:Env) (fp:List Addr):Cx:={X with s₀:=s,H₀:=H,env:=cenv,outer:=X.stack,ex:=fp,fn:=fun x=>scope.names.lookup x == some .cell,pn:=[],xe:=fun _ _=>False}
section
variable {X:Cx} {pins:List (Addr×Obj)} {σ:St} {H:Hp} {s:Shared}
theorem block_start {scope:Scope} {own:List (Str×Nat)} {fp:List Addr} (I:Inv X pins σ H s) (ok:BlkOk X.N X.env.scope scope own) (hN:X.N.Nodup) (hfp:∀b∈fp,FpOk X pins H b/\b < s.heap.objs.size) :
  Inv (X.blk s H scope (compEnvC scope (cellsFrom (s.heap.objs.size + 1) scope.names (cloFrom X.env.cells scope.names [])) s.heap.objs.size X.env) fp) [] (wipe σ (own.map (·.2))) H {s with heap:=pushCells (s.heap.push {cls:=.type "dict",data:=.dict #[]}) scope.names}:=by
 have hfree:∀y∈scope.names,y.2=.free->∃c,X.env.cells.lookup y.1=some c:=fun y hy e=>by
  rcases ok.free y hy e with k | k
  ·exact I.ok.has _ (.inl k)
  ·exact I.ok.has _ (.inr k)
 generalize hcenv:compEnvC scope (cellsFrom (s.heap.objs.size + 1) scope.names (cloFrom X.env.cells scope.names [])) s.heap.objs.size X.env=cenv
 have kp:∀b o,s.heap.get? b=some o->(pushCells (s.heap.push {cls:=.type "dict",data:=.dict #[]}) scope.names).get? b=some o:=fun b o e=>pushCells_keeps _ _ _ _ (Heap.get?_push_of_some _ e)
 have hL:cenv.locals=s.heap.objs.size:=by rw [<-hcenv];rfl
 have hcl:cenv.cells=cellsFrom (s.heap.objs.size + 1) scope.names (cloFrom X.env.cells scope.names []):=by rw [<-hcenv];rfl
 have hsc:cenv.scope=relS scope X.env.scope:=by rw [<-hcenv];rfl
 rw [<-Heap.size_push s.heap {cls:=.type "dict",data:=.dict #[]}] at hcl
 have cm:∀{y c},(y,c)∈cloFrom X.env.cells scope.names []->X.env.cells.lookup y=some c/\c < s.heap.objs.size:=fun {y c} hm=>by
  rcases cloFrom_mem hm with hm | ⟨h1,rfl⟩
  ·cases hm
  ·obtain ⟨c,hc⟩:=hfree _ h1 rfl
   rw [hc]
   obtain ⟨w,z⟩:=I.cell _ _ hc
   exact ⟨rfl,z.lt⟩
 have mem:∀{y c},cenv.cells.lookup y=some c->(X.env.cells.lookup y=some c/\c < s.heap.objs.size)\/(s.heap.objs.size + 1<=c/\CellAt (pushCells (s.heap.push {cls:=.type "dict",data:=.dict #[]}) scope.names) c none):=fun {y c} e=>by
  rw [hcl] at e
  rcases cells_mem (PySem.mem_of_lookup e) with hm | ⟨_,h2,h3⟩
  ·exact .inl (cm hm)
  ·rw [Heap.size_push] at h2;exact .inr ⟨h2,h3⟩
 have look:∀{y},scope.names.lookup y=some .free->∃c,cenv.cells.lookup y=some c/\X.env.cells.lookup y=some c:=fun {y} hl=>by
  have hy:(y,NameKind.free)∈scope.names:=PySem.mem_of_lookup hl
  obtain ⟨c',e'⟩:=mem_lookup (cells_acc (names:=scope.names) (n:=(s.heap.push {cls:=.type "dict",data:=.dict #[]}).objs.size) (cloFrom_has (cells:=X.env.cells) (acc:=[]) hy))
  rw [<-hcl] at e'
  refine ⟨c',e',?_⟩
  rw [hcl] at e'
  rcases cells_mem (PySem.mem_of_lookup e') with hm | ⟨h1,_,_⟩
  ·exact (cm hm).1
  ·have:=ok.uniq _ h1
   rw [hl] at this;cases this
 have okB:(X.blk s H scope cenv fp).Ok:=by
  refine ⟨I.ok.mod,by show cenv.scope.kind=_;rw [hsc];exact ok.kind,by show cenv.globals=_;rw [<-hcenv];exact I.ok.glob,by show cenv.builtins=_;rw [<-hcenv];exact I.ok.blt,by show s.heap.objs.size<=cenv.locals;rw [hL];exact Nat.le_refl _,
   fun y z c e1 e2=>?_,fun y hy=>?_,fun y c z e=>?_,I.ok.hd,I.ok.frames,.inl rfl,fun b hb=>⟨?_,fun y c e z=>?_⟩,I.bs,Nat.le_trans I.ok.bsz I.sz,fun b o e hb=>?_,fun b hb z=>?_,I.stack,I.stkFree⟩
  ·have e1:cenv.cells.lookup y=some c:=e1
   have e2:cenv.cells.lookup z=some c:=e2
   rw [hcl] at e1 e2
   refine cells_inj (fun p hp=>?_) (fun y z c a b=>I.ok.inj y z c (cm a).1 (cm b).1) (PySem.mem_of_lookup e1) (PySem.mem_of_lookup e2)
   rw [Heap.size_push]
   exact Nat.lt_succ_of_lt (cm (y:=p.1) (c:=p.2) hp).2
  ·show ∃c,cenv.cells.lookup y=some c
   have key:∀k,cenv.kindOf y=some k->(k=.cell\/k=.free)->∃c,cenv.cells.lookup y=some c:=fun k hk hk'=>by
    unfold Env.kindOf at hk
    rw [hsc] at hk
    obtain ⟨k',e,r⟩:=lookup_relS hk
    have:k'=.cell\/k'=.free:=by
     rcases r with rfl | ⟨rfl,_⟩
     ·exact hk'
     ·exact .inr rfl
    rcases this with rfl | rfl
    ·obtain ⟨c,hm⟩:=cells_has (n:=(s.heap.push {cls:=.type "dict",data:=.dict #[]}).objs.size) (acc:=cloFrom X.env.cells scope.names []) (PySem.mem_of_lookup e)
     obtain ⟨c',e'⟩:=mem_lookup hm
     exact ⟨c',by rw [hcl];exact e'⟩
    ·obtain ⟨c,h1,_⟩:=look e
     exact ⟨c,h1⟩
   rcases hy with hy | hy
   ·exact key _ hy (.inl rfl)
   ·exact key _ hy (.inr rfl)
  ·have z:(scope.names.lookup y == some NameKind.cell)=true:=z
   have z:scope.names.lookup y=some .cell:=by simpa using z
   have e:cenv.cells.lookup y=some c:=e
   rw [hcl] at e
   rcases cells_mem (PySem.mem_of_lookup e) with hm | ⟨_,h2,_⟩
   ·rcases cloFrom_mem hm with hm | ⟨h1,_⟩
    ·cases hm
    ·have q:=ok.uniq _ h1
     rw [z] at q;cases q
   ·rw [Heap.size_push] at h2
    exact Nat.le_of_succ_le h2
  ·show b≠cenv.locals
   rw [hL];exact Nat.ne_of_lt (hfp b hb).2
  ·have e:cenv.cells.lookup y=some c:=e
   rcases mem e with ⟨h1,_⟩ | ⟨h1,_⟩
   ·exact (hfp b hb).1.2.2.2.2.1 y c h1 z
   ·have h2:s.heap.objs.size + 1<=b:=by rw [<-z];exact h1
    exact absurd (Nat.lt_of_lt_of_le (hfp b hb).2 (Nat.le_of_succ_le h2)) (Nat.lt_irrefl _)
  ·rcases (hfp b hb).1.2.2.2.1 with z | z
   ·exact I.ok.noex b o e z
   ·exact absurd (Nat.lt_of_lt_of_le (Heap.lt_size e) (Nat.le_trans I.ok.bsz z)) (Nat.lt_irrefl _)
  ·rcases List.mem_cons.mp (I.stkSub b z) with z | z
   ·exact (hfp b hb).1.2.1 z
   ·exact (hfp b hb).1.2.2.1 z
 refine ⟨okB,rfl,I.bare,Un.kept kp,⟨fun _=>none,?_,fun i y av e1 e2 e3=>?_⟩,fun y c e=>?_,?_,fun y c e=>?_,fun p hp=>?_,I.hok.kept kp,by rw [wipe_length];exact I.len⟩
 ·show Heap.Ns _ cenv.locals _
  rw [hL]
  exact Heap.Ns.keeps (Heap.Ns.new ..) fun b o e=>pushCells_keeps _ _ _ _ e
 ·obtain ⟨e2,hne⟩:=wipe_some e2
  have hfr:scope.names.lookup y=some .free/\(cenv.kindOf y=some .cell\/cenv.kindOf y=some .free):=by
   have key:∀k,cenv.scope.names.lookup y=some k->k=.local\/k=.cell\/k=.free->scope.names.lookup y=some .free/\(cenv.kindOf y=some .cell\/cenv.kindOf y=some .free):=fun k hk hk'=>by
    have hk0:=hk
    rw [hsc] at hk
    obtain ⟨k',e,r⟩:=lookup_relS hk
    have no:¬(k'=.local\/k'=.cell):=fun hh=>by
     rcases ok.own _ (PySem.mem_of_lookup e) hh with e' | e'
     ·obtain ⟨p,hp,hpy⟩:=List.mem_map.mp e'
      have e3:=ok.ix p hp
      have:p.1=y:=hpy
      rw [this] at e3
      exact hne (List.mem_map.mpr ⟨p,hp,nodup_ix hN e3 e1⟩)
     ·exact e' (List.mem_of_getElem? e1)
    rcases r with rfl | ⟨rfl,rfl⟩
    ·rcases hk' with rfl | rfl | rfl
     ·exact absurd (.inl rfl) no
     ·exact absurd (.inr rfl) no
     ·exact ⟨e,.inr hk0⟩
    ·exact ⟨e,.inl hk0⟩
   have e3:Vis cenv.scope y:=e3
   rcases e3 with e3 | e3 | e3
   ·exact key _ e3 (.inl rfl)
   ·exact key _ e3 (.inr (.inl rfl))
   ·exact key _ e3 (.inr (.inr rfl))
  obtain ⟨m,hn,hl⟩:=I.loc
  have hvis:Vis X.env.scope y:=(ok.free _ (PySem.mem_of_lookup hfr.1) rfl).elim (fun k=>.inr (.inl k)) (fun k=>.inr (.inr k))
  obtain ⟨w,r,q⟩:=hl i y av e1 e2 hvis
  refine ⟨w,r,.inr ⟨hfr.2,?_⟩⟩
  obtain ⟨c,h1,h2⟩:=look hfr.1
  rcases q with ⟨k,_⟩ | ⟨_,c',e',z⟩
  ·have k:X.env.scope.names.lookup y=some .local:=k
   rcases ok.free _ (PySem.mem_of_lookup hfr.1) rfl with k' | k' <;> rw [show X.env.scope.names.lookup y=_ from k'] at k <;> cases k
  ·rw [h2] at e';cases e'
   exact ⟨c,h1,z.keeps kp⟩
 ·have e:cenv.cells.lookup y=some c:=e
  rcases mem e with ⟨h1,_⟩ | ⟨_,z⟩
  ·obtain ⟨w,z⟩:=I.cell y c h1
   exact ⟨w,z.keeps kp⟩
  ·exact ⟨_,z⟩
 ·show H cenv.locals=none
  rw [hL];exact I.hok.fresh (Nat.le_refl _)
 ·have e:cenv.cells.lookup y=some c:=e
  rcases mem e with ⟨h1,_⟩ | ⟨h1,_⟩
  ·exact I.freeC y c h1
  ·exact I.hok.fresh (Nat.le_of_succ_le h1)
 ·exact absurd (show p∈([]:List (Addr×Obj)) ++ [] from hp) (by simp)
theorem app_ok {E:Value->Shared->Prop} {D:Addr} {xs:List V} {y:V} {v:Value} {Q:Value->Shared->Prop} (I:Inv X pins σ H s) (hD:H D=some (.lst xs)) (hz:xs.length < sizeLine) (r:RelV y v)
  (h:∀s',Inv X pins σ (upd H D (.lst (xs ++ [y]))) s'->Q .none s'):wpAny (model X.prog X.w) X.A (call (.builtin "list.append") [.ref D,v]) Q E s:=by
 obtain ⟨hz',its,n,ri,e⟩:=I.hok D _ hD
 have hl:=ri.length
 refine append_at (hsz:=by rw [List.size_toArray];omega) e fun h' sb ho'=>?_
 refine h {s with heap:=h'} (I.write (t':=s.toks) (by rw [hD];trivial) (.inl rfl) (fun b u hb q=>(sb.2 b hb).trans q) ⟨_,ho'⟩ ⟨by rw [List.length_append];exact hz,its ++ [v],n + 1,ri.append (.cons r .nil),?_⟩)
 rw [ho']
 simp
def PTs (X:Cx) (ifs:List Expr) (t:TT):Prop:=
 ∀(pins:List (Addr×Obj)) (s:Shared) (σ:St) (H:Hp) (Q:Bool->Hp->Prop),Inv X pins σ H s->t σ H Q->
  wpAny (model X.prog X.w) X.A (forIn ifs true fun c r=>if r=true then do let ok <-isTrue c X.env (eval c X.env);pure (ForInStep.yield ok) else pure (ForInStep.yield r)) (TP X pins σ Q) X.xe s
def tYes:TT:=fun _ H Q=>Q true H
theorem pts_nil:PTs X [] tYes:=fun _ _ _ H _ I h=>wpAny_tests_nil ⟨H,I,h⟩
end
theorem thnF {α:Type} {t:Sem α} {Q Q':α->Shared->Prop} {M:Model} {A:Around} {E:Value->Shared->Prop} {s:Shared} (h:wpAny M A t Q (fun _ _=>False) s) (hQ:∀a s,Q a s->Q' a s):wpAny M A t Q' E s:=wpAny_mono h hQ fun _ _ z=>False.elim z
theorem compLoop_any {prog:Program} {w:World} {A:Around} {R:Result->Shared->Prop} {s:Shared} {elt target iter:Expr} {ifs:List Expr} {scope:Scope} {pos:Pos} {it acc:Value} {env:Env} (I:Nat->Shared->Prop)
  (turn:∀n s,I n s->wpAny (model prog w) A (pyNext it) (fun r s₁=>match r with
   | none=>R (.ok .next) s₁
   | some v=>wpAny (model prog w) A (letOwnedTupleGo target it v) (fun _ s₁'=>wpAny (model prog w) A (assign target env v) (fun _ s₂=>
     wpAny (model prog w) A (forIn ifs true fun c r=>if r=true then do let ok <-isTrue c env (eval c env);pure (ForInStep.yield ok) else pure (ForInStep.yield r)) (fun ok s₃=>
      if ok=true then wpAny (model prog w) A (eval elt env) (fun x s₄=>
       wpAny (model prog w) A (call (.builtin "list.append") [acc,x]) (fun _ s₅=>∃m,m < n/\I m s₅) (notedBy (model prog w) A env fun e s'=>R (.error e) s') s₄) (notedBy (model prog w) A env fun e s'=>R (.error e) s') s₃
      else ∃m,m < n/\I m s₃) (notedBy (model prog w) A env fun e s'=>R (.error e) s') s₂) (notedBy (model prog w) A env fun e s'=>R (.error e) s') s₁') (notedBy (model prog w) A env fun e s'=>R (.error e) s') s₁) (notedBy (model prog w) A env fun e s'=>R (.error e) s') s)
  (n:Nat) (h:I n s) :
  codeAny (model prog w) A (.compLoop (.ListComp elt [⟨target,iter,ifs,0⟩] scope pos) 0 it acc env) R s:=by
 refine codeAny_loop rfl I (fun n s hI=>?_) n h
 show wpAny _ A ((compTurn (.ListComp elt [⟨target,iter,ifs,0⟩] scope pos) 0 it acc env).onRaise (fun x=>do noteFrame x env;theTreesLotGoes x)) _ _ s
 refine wpAny_noted ?_
 rw [compTurn_list]
 refine wpAny_bind (wpAny_standAt (wpAny_bind (wpAny_mono (turn n s hI) (fun r s₁ h₁=>?_) fun _ _ h'=>h')))
 cases r with
 | none=>exact wpAny_pure h₁
 | some v=>
  refine wpAny_bind (wpAny_mono h₁ (fun _ s₁' h₁'=>?_) fun _ _ h'=>h')
  refine wpAny_bind (wpAny_mono h₁' (fun _ s₂ h₂=>wpAny_bind (wpAny_mono h₂ (fun ok s₃ h₃=>?_) fun _ _ h'=>h')) fun _ _ h'=>h')
  cases ok with
  | false=>exact wpAny_pure ⟨rfl,h₃⟩
  | true=>
   exact wpAny_bind (wpAny_bind (wpAny_mono h₃ (fun x s₄ h₄=>wpAny_bind (wpAny_mono h₄ (fun _ s₅ h₅=>wpAny_pure (wpAny_pure ⟨rfl,h₅⟩)) fun _ _ h'=>h')) fun _ _ h'=>h'))
section
variable {X:Cx}
def tLc (wi:TI) (g:TG) (tt:TT) (te:TE) (vs:List Nat):TE:=fun σ H Q=>wi σ H fun J H1=>∀D,H1 D=none->∃W:Nat->Nat->Hp->Prop,(∃m,W 0 m (upd H1 D (.lst [])))/\∀i m H,W i m H->
 (J.stop i H/\Q (.ref D) H)\/(J.go i H/\∃Nx:Hp->Prop,(∀H',Nx H'->∃m',m' < m/\W (i + 1) m' H')/\∀x H',J.yld i H x H'->g x (wipe σ vs) H' fun σ2 H2=>wipe σ2 vs=wipe σ vs/\tt σ2 H2 fun b H3=>
  if b=true then te σ2 H3 fun y H4=>∃acc,H4 D=some (.lst acc)/\acc.length < sizeLine/\Nx (upd H4 D (.lst (acc ++ [y]))) else Nx H3)
theorem lc_core {pins:List (Addr×Obj)} {s:Shared} {σ:St} {H:Hp} {Q:VK} {elt tg iter:Expr} {ifs:List Expr} {scope:Scope} {own:List (Str×Nat)} {pos pos':Pos} {wi:TI} {g:TG} {tt:TT} {te:TE} {use:Option (Value->Sem Unit)} {Qf:Value->Shared->Prop}
  (hc:X.calm=true) (hN:X.N.Nodup) (I:Inv X pins σ H s) (hi:PI X tg iter wi) (ok:BlkOk X.N X.env.scope scope own)
  (hg:∀(s:Shared) (H:Hp) (C:Addr) (cl:List (Str×Addr)) (fp:List Addr),PG (X.blk s H scope (compEnvC scope cl C X.env) fp) tg g) (ht:∀(s:Shared) (H:Hp) (C:Addr) (cl:List (Str×Addr)) (fp:List Addr),PTs (X.blk s H scope (compEnvC scope cl C X.env) fp) ifs tt)
  (he:∀(s:Shared) (H:Hp) (C:Addr) (cl:List (Str×Addr)) (fp:List Addr),PE (X.blk s H scope (compEnvC scope cl C X.env) fp) elt te) (hs:∀x,foldedSetIterable iter X.env x=pure x)
  (h:tLc wi g tt te (own.map (·.2)) σ H Q)
  (hRR:∀D C s' m H',Inv X pins σ H' s'->Q (.ref D) H'->s'.heap.Ns C m->FpOk X pins H' C->compPost (model X.prog X.w) X.A X.xe use Qf (.ref D) C (.ok .next) s') :
  wpAny (model X.prog X.w) X.A (comprehension (.ListComp elt [⟨tg,iter,ifs,0⟩] scope pos) scope X.env pos' (newList []) false (eval iter X.env) use) Qf X.xe s:=by
 have hfree:∀y∈scope.names,y.2=.free->∃c,X.env.cells.lookup y.1=some c:=fun y hy e=>by
  rcases ok.free y hy e with k | k
  ·exact I.ok.has _ (.inl k)
  ·exact I.ok.has _ (.inr k)
 refine wpAny_comprehension_free (use:=use) rfl hs (closure_ok hfree) ok.kind (fun y hy e=>by rw [ok.uniq y hy,e])
  (thn (hi pins s σ H _ I h) fun xv s1 hx=>thn hx fun itv s2 h2=>?_)
 obtain ⟨it,fp,tn,J,H2,e,I2,T,st2,f2,q⟩:=h2
 subst e
 refine wpAny_newObj_type (newEnv_comp ?_) (by show 0<=sizeLine;decide)
 generalize hD:s2.heap.objs.size=D
 have hDn:H2 D=none:=I2.hok.fresh (Nat.le_of_eq hD)
 obtain ⟨W,⟨m0,w0⟩,turn⟩:=q D hDn
 -- the new list
 generalize hs3:({s2 with heap:=s2.heap.push {cls:=.type "list",data:=.seq ([]:List Value).toArray}}:Shared)=s3
 have I3:Inv X pins σ (upd H2 D (.lst [])) s3:=by
  rw [<-hs3]
  refine I2.laid (t':=s2.toks) (fun b o e=>Heap.get?_push_of_some _ e) (Nat.le_of_eq hD) ⟨Nat.zero_le _,[],0,.nil,?_⟩
  rw [<-hD]
  exact Heap.get?_push_size _ rfl
 have h3:s3.heap=s2.heap.push {cls:=.type "list",data:=.seq ([]:List Value).toArray}:=by rw [<-hs3]
 have sz:∀b∈fp,b < s2.heap.objs.size:=fun b hb=>by
  obtain ⟨o,e,_⟩:=T.obj _ _ st2 b hb
  exact Heap.lt_size e
 have f3:∀b∈fp,FpOk X pins (upd H2 D (.lst [])) b/\b < s3.heap.objs.size:=fun b hb=>by
  have hlt:=sz b hb
  refine ⟨⟨?_,(f2 b hb).2⟩,by rw [h3,Heap.size_push];exact Nat.lt_succ_of_lt hlt⟩
  rw [upd_ne (by rw [<-hD];exact Nat.ne_of_lt hlt)]
  exact (f2 b hb).1
 have st3:tn 0 s3.heap:=T.keep _ _ _ st2 fun b _ o e=>by rw [h3];exact Heap.get?_push_of_some _ e
 have I4:=block_start I3 ok hN f3
 have pg:=hg s3 (upd H2 D (.lst [])) s3.heap.objs.size (cellsFrom (s3.heap.objs.size + 1) scope.names (cloFrom X.env.cells scope.names [])) fp
 have pt:=ht s3 (upd H2 D (.lst [])) s3.heap.objs.size (cellsFrom (s3.heap.objs.size + 1) scope.names (cloFrom X.env.cells scope.names [])) fp
 have pe:=he s3 (upd H2 D (.lst [])) s3.heap.objs.size (cellsFrom (s3.heap.objs.size + 1) scope.names (cloFrom X.env.cells scope.names [])) fp
 show codeAny _ _ (.compStart (.ListComp elt [⟨tg,iter,ifs,0⟩] scope pos) 0 (.ref it) (.ref D) (compEnvC scope (cellsFrom (s3.heap.objs.size + 1) scope.names (cloFrom X.env.cells scope.names [])) s3.heap.objs.size X.env)) (compPost (model X.prog X.w) X.A X.xe use Qf (.ref D) s3.heap.objs.size) {s3 with heap:=pushCells (s3.heap.push {cls:=.type "dict",data:=.dict #[]}) scope.names}
 have nfp:∀b∈fp,(upd H2 D (.lst [])) b=none:=fun b hb=>(f3 b hb).1.1
 generalize hce:compEnvC scope (cellsFrom (s3.heap.objs.size + 1) scope.names (cloFrom X.env.cells scope.names [])) s3.heap.objs.size X.env=ce at I4 pg pt pe |-
 have cL:ce.locals=s3.heap.objs.size:=by subst hce;rfl
 generalize hH3:upd H2 D (.lst [])=H3 at I3 I4 pg pt pe w0 nfp f3
 generalize hs4:({s3 with heap:=pushCells (s3.heap.push {cls:=.type "dict",data:=.dict #[]}) scope.names}:Shared)=s4 at I4 |-
 have st4:tn 0 s4.heap:=T.keep _ _ _ st3 fun b _ o e=>by rw [<-hs4];exact pushCells_keeps _ _ _ _ (Heap.get?_push_of_some _ e)
 have stat:∀{σ':St} {H':Hp} {s':Shared},Inv (X.blk s3 H3 scope ce fp) [] σ' H' s'->(∀b∈fp,H' b=none)->∀b∈fp,FpOk (X.blk s3 H3 scope ce fp) [] H' b:=fun {σ' H' s'} I' hn b hb=>
  ⟨hn b hb,(I'.ok.exf b hb).1,I'.ok.exfs b hb,.inl hb,fun x c e=>(I'.ok.exf b hb).2 x c e,fun p hp=>absurd (show p∈([]:List (Addr×Obj)) ++ [] from hp) (by simp)⟩
 have loop:codeAny (model X.prog X.w) X.A (.compLoop (.ListComp elt [⟨tg,iter,ifs,0⟩] scope pos) 0 (.ref it) (.ref D) ce) (compPost (model X.prog X.w) X.A X.xe use Qf (.ref D) s3.heap.objs.size) s4:=by
  refine compLoop_any (fun n s'=>∃i H',Inv (X.blk s3 H3 scope ce fp) [] (wipe σ (own.map (·.2))) H' s'/\tn i s'.heap/\(∀b∈fp,H' b=none)/\W i n H') ?_ m0 ⟨0,H3,I4,st4,nfp,w0⟩
  rintro n s5 ⟨i,H5,I5,st5,n5,w5⟩
  rcases turn i n H5 w5 with ⟨stop,qq⟩ | ⟨go,Nx,hNx,step⟩
  ·have td:=T.done (X.blk s3 H3 scope ce fp) rfl rfl rfl hc i [] s5 _ H5 (fun _ _=>False) I5 (stat I5 n5) st5 stop
   refine thnF td fun r s6 ⟨hr,I6⟩=>?_
   subst hr
   -- back in the def's context
   have I7:Inv X pins σ H5 s6:=I3.call' (ch:=fp) I6.os I6.base I6.hok I6.bare fun b hb=>⟨(f3 b hb).1.2.2.2.1,(f3 b hb).1.2.1,(f3 b hb).1.2.2.2.2.1,(f3 b hb).1.2.2.2.2.2⟩
   have nC:H5 s3.heap.objs.size=none:=by
    have z:H5 ce.locals=none:=I6.free
    rw [cL] at z
    exact z
   obtain ⟨m,hn,_⟩:=I6.loc
   have hn:s6.heap.Ns ce.locals m:=hn
   rw [cL] at hn
   exact hRR D s3.heap.objs.size s6 m H5 I7 qq hn (I3.fpOk (Nat.le_refl _) nC)
  ·have ti:=T.item (X.blk s3 H3 scope ce fp) rfl rfl rfl hc i [] s5 _ H5 (fun _ _=>False) I5 (stat I5 n5) st5 go
   refine thnF ti fun r s6 ⟨u,hr,h6⟩=>?_
   subst hr
   refine thnF h6 fun _ s7 ⟨x,H7,I7,r7,y7,st7,n7⟩=>?_
   have I7':=I7.pinned (stat I7 n7) (T.obj _ _ st7)
   refine thnF (pg _ s7 _ H7 x u _ I7' r7 (step x H7 y7)) fun _ s8 ⟨σ8,H8,I8,hw8,q8⟩=>?_
   refine thnF (pt _ s8 σ8 H8 _ I8 q8) fun b s9 ⟨H9,I9,q9⟩=>?_
   -- the turn's end
   have fin:∀{s':Shared} {H':Hp},Inv (X.blk s3 H3 scope ce fp) ([] ++ pinsAt fp s7.heap) σ8 H' s'->Nx H'->∃m,m < n/\∃i H',Inv (X.blk s3 H3 scope ce fp) [] (wipe σ (own.map (·.2))) H' s'/\tn i s'.heap/\(∀b∈fp,H' b=none)/\W i m H':=fun {s' H'} I' nx=>by
    obtain ⟨m',hm,w'⟩:=hNx H' nx
    have pin':∀b∈fp,∀o,s7.heap.get? b=some o->s'.heap.get? b=some o/\H' b=none:=fun b hb o e=>
     let z:=I'.pin (b,o) (List.mem_append_right _ (List.mem_append_right _ (mem_pinsAt hb e)))
     ⟨z.1,z.2.1⟩
    have hl:(wipe σ (own.map (·.2))).length=σ8.length:=by rw [<-hw8,wipe_length]
    refine ⟨m',hm,i + 1,H',(I'.unpinned (pins:=[])).weak hl (fun j v e=>?_),T.keep _ _ _ st7 fun b hb o e=>(pin' b hb o e).1,fun b hb=>?_,w'⟩
    ·rw [<-hw8] at e
     exact (wipe_some e).1
    ·obtain ⟨o,e,_⟩:=T.obj _ _ st7 b hb
     exact (pin' b hb o e).2
   cases b with
   | false=>
    simp only [Bool.false_eq_true,if_false] at q9 |-
    exact fin I9 q9
   | true=>
    simp only [if_true] at q9 |-
    refine thnF (pe _ s9 σ8 H9 _ I9 q9) fun z s10 ⟨yv,H10,I10,r10,acc,hD10,hz10,nx⟩=>?_
    exact app_ok (X:=X.blk s3 H3 scope ce fp) I10 hD10 hz10 r10 fun s11 I11=>fin I11 nx
 exact codeAny_compStart_list loop (T.self X.A 0 _ _ _ st4 loop)
theorem pe_lc {elt tg iter:Expr} {ifs:List Expr} {scope:Scope} {own:List (Str×Nat)} {pos:Pos} {wi:TI} {g:TG} {tt:TT} {te:TE} (hc:X.calm=true) (hN:X.N.Nodup) (hi:PI X tg iter wi) (ok:BlkOk X.N X.env.scope scope own)
  (hg:∀(s:Shared) (H:Hp) (C:Addr) (cl:List (Str×Addr)) (fp:List Addr),PG (X.blk s H scope (compEnvC scope cl C X.env) fp) tg g) (ht:∀(s:Shared) (H:Hp) (C:Addr) (cl:List (Str×Addr)) (fp:List Addr),PTs (X.blk s H scope (compEnvC scope cl C X.env) fp) ifs tt)
  (he:∀(s:Shared) (H:Hp) (C:Addr) (cl:List (Str×Addr)) (fp:List Addr),PE (X.blk s H scope (compEnvC scope cl C X.env) fp) elt te) (hs:∀x,foldedSetIterable iter X.env x=pure x:=by intro _;rfl) :
  PE X (.ListComp elt [⟨tg,iter,ifs,0⟩] scope pos) (tLc wi g tt te (own.map (·.2))):=by
 intro pins s σ H Q I h
 rw [eval_ListComp]
 refine lc_core hc hN I hi ok hg ht he hs h fun D C s' m H' I' q hn f=>⟨m,hn,fun h'' sb=>?_⟩
 obtain ⟨f0,f1,f2,f3,f4,f5⟩:=f
 exact ⟨.ref D,H',I'.turned (t':=s'.toks) (fun b o hb e=>(sb.2 b hb).trans e) f0 f1 f3 f4 f5,rfl,q⟩
theorem ps_setLc {i:Nat} {y:Str} {py:Pos} {elt tg iter:Expr} {ifs:List Expr} {scope:Scope} {own:List (Str×Nat)} {pos spos:Pos} {wi:TI} {g:TG} {tt:TT} {te:TE} (hc:X.calm=true) (hN:X.N.Nodup) (hy:X.N[i]? = some y) (hyl:X.env.scope.names.lookup y=some .local)
  (hsw:swapsWith (.ListComp elt [⟨tg,iter,ifs,0⟩] scope pos) (some (.Name y py)) spos.line X.env=pure true) (hi:PI X tg iter wi) (ok:BlkOk X.N X.env.scope scope own)
  (hg:∀(s:Shared) (H:Hp) (C:Addr) (cl:List (Str×Addr)) (fp:List Addr),PG (X.blk s H scope (compEnvC scope cl C X.env) fp) tg g) (ht:∀(s:Shared) (H:Hp) (C:Addr) (cl:List (Str×Addr)) (fp:List Addr),PTs (X.blk s H scope (compEnvC scope cl C X.env) fp) ifs tt)
  (he:∀(s:Shared) (H:Hp) (C:Addr) (cl:List (Str×Addr)) (fp:List Addr),PE (X.blk s H scope (compEnvC scope cl C X.env) fp) elt te) (hs:∀x,foldedSetIterable iter X.env x=pure x:=by intro _;rfl) :
  PS X (.Assign [.Name y py] (.ListComp elt [⟨tg,iter,ifs,0⟩] scope pos) spos) (tAsg (tLc wi g tt te (own.map (·.2))) (gName i)):=by
 intro pins s σ H D I h
 rw [exec_Assign_Name_used _ _ _ _ hsw]
 refine wpAny_bind (wpAny_standAt (wpAny_bind ?_))
 show wpAny _ X.A (do let _ <-comprehension (.ListComp elt [⟨tg,iter,ifs,0⟩] scope pos) scope X.env (firstIterPos [⟨tg,iter,ifs,0⟩] pos) (newList []) false (eval iter X.env) (some (assign (.Name y py) X.env))) _ _ s
 have h:tLc wi g tt te (own.map (·.2)) σ H (fun x H1=>gName i x σ H1 D.nx):=h
 refine wpAny_bind (thn (lc_core (Qf:=fun _ s'=>SP X pins D .next s') hc hN I hi ok hg ht he hs h fun L C s' m H' I' q hn f=>?_) fun _ s' hq=>wpAny_pure (wpAny_pure hq))
 show wpAny _ _ (assign (.Name y py) X.env (.ref L)) _ _ _
 refine wpAny_assign_Name (store_ok2 (v:=V.ref L) I' hN hy (.inl hyl) rfl (fun s2 I2 ⟨a,sb,ha⟩=>?_) (.inr hyl))
 obtain ⟨f0,f1,f2,f3,f4,f5⟩:=f
 have haC:C≠a:=by
  rcases ha with z | z
  ·rw [z];exact f1
  ·exact fun e=>f4 y a z e.symm
 refine ⟨m,hn.sameBut sb haC,fun h3 sb3=>?_⟩
 exact ⟨_,H',I2.turned (t':=s2.toks) (fun b o hb e=>(sb3.2 b hb).trans e) f0 f1 f3 f4 f5,q⟩
theorem sw_true {elt:Expr} {gs:List Comprehension} {scope:Scope} {pos py:Pos} {y:Str} {l:Nat} {env:Env} (hk:env.scope.kind=.function) (hy:env.scope.names.lookup y=some .local) (hl:(py.line == pos.line)=true)
  (ha:(scope.names.any fun (n,k)=>n == y && (k == .local || k == .cell))=false):swapsWith (.ListComp elt gs scope pos) (some (.Name y py)) l env=pure true:=by
 have ky:env.kindOf y=some .local:=hy
 have hb:env.blockKind=.function:=by unfold Env.blockKind;rw [hk];rfl
 unfold swapsWith
 simp only [hb,ky,ha,Expr.pos,hl]
 rfl
end
theorem lc_range {lo:Int} {n:Nat} {g:TG} {tt:TT} {te:TE} {vs:List Nat} {σ:St} {H1:Hp} {D:Addr} {Qd:Hp->Prop} (Pv:Nat->Hp->Prop) (h0:Pv 0 (upd H1 D (.lst [])))
  (hs:∀i H,i < n->Pv i H->g (.int (lo + i)) (wipe σ vs) H fun σ2 H2=>wipe σ2 vs=wipe σ vs/\tt σ2 H2 fun b H3=>
   if b=true then te σ2 H3 fun y H4=>∃acc,H4 D=some (.lst acc)/\acc.length < sizeLine/\Pv (i + 1) (upd H4 D (.lst (acc ++ [y]))) else Pv (i + 1) H3) (hd:∀H,Pv n H->Qd H) :
  ∃W:Nat->Nat->Hp->Prop,(∃m,W 0 m (upd H1 D (.lst [])))/\∀i m H,W i m H->
   ((Itr lo n).stop i H/\Qd H)\/((Itr lo n).go i H/\∃Nx:Hp->Prop,(∀H',Nx H'->∃m',m' < m/\W (i + 1) m' H')/\∀x H',(Itr lo n).yld i H x H'->g x (wipe σ vs) H' fun σ2 H2=>wipe σ2 vs=wipe σ vs/\tt σ2 H2 fun b H3=>
    if b=true then te σ2 H3 fun y H4=>∃acc,H4 D=some (.lst acc)/\acc.length < sizeLine/\Nx (upd H4 D (.lst (acc ++ [y]))) else Nx H3):=by
 refine ⟨fun i m H=>m=n - i/\i<=n/\Pv i H,⟨n,by simp,Nat.zero_le _,h0⟩,?_⟩
 rintro i m H ⟨rfl,hi,p⟩
 by_cases hlt:i < n
 ·refine .inr ⟨hlt,Pv (i + 1),fun H' p'=>⟨n - (i + 1),by omega,rfl,hlt,p'⟩,fun x H' y=>?_⟩
  obtain ⟨e,y⟩:=y
  subst e y
  exact hs i _ hlt p
 ·have e:i=n:=by omega
  subst e
  exact .inl ⟨Nat.le_refl _,hd H p⟩
theorem lc_list {K:PySem.W.Frag} {a:Addr} {xs:List V} {g:TG} {tt:TT} {te:TE} {vs:List Nat} {σ:St} {H1:Hp} {D:Addr} {Qd:Hp->Prop} (Pv:Nat->Hp->Prop) (h0:Pv 0 (upd H1 D (.lst []))) (hl:∀i H,i<=xs.length->Pv i H->SqL K H a xs)
  (hs:∀i x H,xs[i]? = some x->Pv i H->g x (wipe σ vs) H fun σ2 H2=>wipe σ2 vs=wipe σ vs/\tt σ2 H2 fun b H3=>
   if b=true then te σ2 H3 fun y H4=>∃acc,H4 D=some (.lst acc)/\acc.length < sizeLine/\Pv (i + 1) (upd H4 D (.lst (acc ++ [y]))) else Pv (i + 1) H3) (hd:∀H,Pv xs.length H->Qd H) :
  ∃W:Nat->Nat->Hp->Prop,(∃m,W 0 m (upd H1 D (.lst [])))/\∀i m H,W i m H->
   ((Itl K a).stop i H/\Qd H)\/((Itl K a).go i H/\∃Nx:Hp->Prop,(∀H',Nx H'->∃m',m' < m/\W (i + 1) m' H')/\∀x H',(Itl K a).yld i H x H'->g x (wipe σ vs) H' fun σ2 H2=>wipe σ2 vs=wipe σ vs/\tt σ2 H2 fun b H3=>
    if b=true then te σ2 H3 fun y H4=>∃acc,H4 D=some (.lst acc)/\acc.length < sizeLine/\Nx (upd H4 D (.lst (acc ++ [y]))) else Nx H3):=by
 refine ⟨fun i m H=>m=xs.length - i/\i<=xs.length/\Pv i H,⟨xs.length,by simp,Nat.zero_le _,h0⟩,?_⟩
 rintro i m H ⟨rfl,hi,p⟩
 have q:=hl i H hi p
 by_cases hlt:i < xs.length
 ·refine .inr ⟨⟨xs,xs[i],q,by simp [hlt]⟩,Pv (i + 1),fun H' p'=>⟨xs.length - (i + 1),by omega,rfl,hlt,p'⟩,fun x H' y=>?_⟩
  obtain ⟨e,y⟩:=y
  subst e
  exact hs i x _ (y xs q) p
 ·have e:i=xs.length:=by omega
  subst e
  exact .inl ⟨⟨xs,q,Nat.le_refl _⟩,hd H p⟩
theorem lc_tup {K:PySem.W.Frag} {a:Addr} {xs:List V} {g:TG} {tt:TT} {te:TE} {vs:List Nat} {σ:St} {H1:Hp} {D:Addr} {Qd:Hp->Prop} (Pv:Nat->Hp->Prop) (h0:Pv 0 (upd H1 D (.lst []))) (hl:∀i H,i<=xs.length->Pv i H->SqT K H a xs)
  (hs:∀i x H,xs[i]? = some x->Pv i H->g x (wipe σ vs) H fun σ2 H2=>wipe σ2 vs=wipe σ vs/\tt σ2 H2 fun b H3=>
   if b=true then te σ2 H3 fun y H4=>∃acc,H4 D=some (.lst acc)/\acc.length < sizeLine/\Pv (i + 1) (upd H4 D (.lst (acc ++ [y]))) else Pv (i + 1) H3) (hd:∀H,Pv xs.length H->Qd H) :
  ∃W:Nat->Nat->Hp->Prop,(∃m,W 0 m (upd H1 D (.lst [])))/\∀i m H,W i m H->
   ((Itt K a).stop i H/\Qd H)\/((Itt K a).go i H/\∃Nx:Hp->Prop,(∀H',Nx H'->∃m',m' < m/\W (i + 1) m' H')/\∀x H',(Itt K a).yld i H x H'->g x (wipe σ vs) H' fun σ2 H2=>wipe σ2 vs=wipe σ vs/\tt σ2 H2 fun b H3=>
    if b=true then te σ2 H3 fun y H4=>∃acc,H4 D=some (.lst acc)/\acc.length < sizeLine/\Nx (upd H4 D (.lst (acc ++ [y]))) else Nx H3):=by
 refine ⟨fun i m H=>m=xs.length - i/\i<=xs.length/\Pv i H,⟨xs.length,by simp,Nat.zero_le _,h0⟩,?_⟩
 rintro i m H ⟨rfl,hi,p⟩
 have q:=hl i H hi p
 by_cases hlt:i < xs.length
 ·refine .inr ⟨⟨xs,xs[i],q,by simp [hlt]⟩,Pv (i + 1),fun H' p'=>⟨xs.length - (i + 1),by omega,rfl,hlt,p'⟩,fun x H' y=>?_⟩
  obtain ⟨e,y⟩:=y
  subst e
  exact hs i x _ (y xs q) p
 ·have e:i=xs.length:=by omega
  subst e
  exact .inl ⟨⟨xs,q,Nat.le_refl _⟩,hd H p⟩
def blkC (N:List Str) (sc scope:Scope) (own:List (Str×Nat)):Bool:=
 (match scope.kind with | .function=>true | _=>false) && (scope.names.all fun y=>decide (scope.names.lookup y.1=some y.2)) && (own.all fun p=>decide (N[p.2]? = some p.1)) &&
  (scope.names.all fun y=>match y.2 with
   | .free=>(match sc.names.lookup y.1 with | some .cell=>true | some .free=>true | _=>false)
   | .local=>decide (y.1∈own.map (·.1)) || decide (y.1∉N)
   | .cell=>decide (y.1∈own.map (·.1)) || decide (y.1∉N)
   | _=>true)
theorem blkOk_by {N:List Str} {sc scope:Scope} {own:List (Str×Nat)} (h:blkC N sc scope own=true):BlkOk N sc scope own:=by
 unfold blkC at h
 simp only [Bool.and_eq_true,List.all_eq_true,decide_eq_true_eq] at h
 obtain ⟨⟨⟨h1,h2⟩,h3⟩,h4⟩:=h
 refine ⟨?_,h2,h3,fun y hy e=>?_,fun y hy e=>?_⟩
 ·split at h1
  ·assumption
  ·cases h1
 ·have q:=h4 y hy
  simp only [e] at q
  split at q <;> first | exact .inl (by assumption) | exact .inr (by assumption) | cases q
 ·have q:=h4 y hy
  rcases e with e | e <;> (simp only [e,Bool.or_eq_true,decide_eq_true_eq] at q;exact q)
end L2
namespace L2
open PySem PySem.Spec PyProof.Rows
section
variable {prog:Program} {w:World} {A:Around} {R:Result->Shared->Prop} {s:Shared} {elt t0 i0 t1 i1:Expr} {ifs0 ifs1:List Expr} {scope:Scope} {pos:Pos} {it acc:Value} {env:Env}
end
section
variable {X:Cx}
end
end L2
namespace L2
open PySem PySem.Spec PyProof.Rows
section
variable {κ:Type} [DecidableEq κ]
end
section
variable {P:Program} {w:World} {H:Hp} {h:Heap} {a:Addr}
end
section
variable {X:Cx} {pins:List (Addr×Obj)} {σ:St} {H:Hp} {s:Shared} {a:Addr} {y v:V} {u r:Value} {o:Option V} {A:Around} {E:Value->Shared->Prop}
end
section
variable {X:Cx} {pins:List (Addr×Obj)} {σ:St} {H:Hp} {s:Shared} {a:Addr} {kvs:List (Key×V)} {k:Key} {u:Value} {A:Around} {E:Value->Shared->Prop}
end
section
variable {X:Cx} {o i e value:Expr} {pos pos' tpos:Pos} {td ty tv:TE}
end
section
variable {X:Cx} {pos:Pos}
end
section
variable {X:Cx} {pins:List (Addr×Obj)} {σ:St} {H:Hp} {s:Shared} {a:Addr} {y d:V} {u r:Value} {o:Option V} {A:Around} {E:Value->Shared->Prop}
end
section
variable {X:Cx} {o e f:Expr} {apos cpos:Pos} {td ty tx:TE}
end
section
variable {X:Cx} {pins:List (Addr×Obj)} {σ:St} {H:Hp} {s:Shared} {a:Addr} {kvs:List (Key×V)} {A:Around} {E:Value->Shared->Prop}
end
section
variable {X:Cx} {pins:List (Addr×Obj)} {σ:St} {H:Hp} {s:Shared} {a:Addr} {y:V} {u:Value} {A:Around} {E:Value->Shared->Prop}
end
end L2
namespace L2
open PySem PySem.Spec PyProof.Rows
section
variable {prog:Program} {w:World} {A:Around} {E:Value->Shared->Prop}
end
section
variable {X:Cx}
end
end L2
namespace L2
open PySem PySem.Spec PyProof.Rows
theorem boot_reversed5:bootBuiltins "reversed" = some (.type "reversed"):=by decide +kernel
section
variable {X:Cx} {pins:List (Addr×Obj)} {σ:St} {H:Hp} {s:Shared} {h':Heap}
theorem Inv.turnedL {t':Nat} {ch:List Addr} (I:Inv X pins σ H s) (k:∀b o,b∉ch->s.heap.get? b=some o->h'.get? b=some o) (hf:∀b∈ch,FpOk X pins H b):Inv X pins σ H {s with heap:=h',toks:=t'}:=by
 have nit:∀b u,H b=some u->b∉ch:=fun b u e z=>by
  have q:=(hf b z).1
  rw [q] at e;cases e
 refine I.step (g':=s.gens) (d':=s.drawn) (ch:=ch) (fun b hb=>⟨(hf b hb).2.2.2.1,(hf b hb).2.1,(hf b hb).2.2.2.2.1,(hf b hb).2.2.2.2.2⟩) (fun b o _ _ hc e _=>k b o hc e) (fun b o _ _ hc e _=>⟨o.slots,k b o hc e⟩)
  (fun _ _ _ _ n=>n) (fun b o hc e=>⟨o,k b o hc e⟩) (fun _ _ e=>e) (fun _ _ _ e=>e) (fun b ps e=>⟨#[],by rw [e];simp⟩) (fun m hm=>?_) (fun b u e=>?_) I.bare
 ·obtain ⟨o,es,ep,ho,r⟩:=hm
  exact ⟨o,es,ep,k _ o (fun z=>(hf _ z).2.1 rfl) ho,r⟩
 ·refine (I.hok b u e).stay (fun c v hc q=>k c v ?_ q) (fun _ q=>q) fun _ _ q=>q
  rcases hc with z | z
  ·rw [z];exact nit b u e
  ·exact nit c _ z
theorem Inv.turnedNew {t':Nat} {ch:List Addr} {T:Addr} {ob:HO} (I:Inv X pins σ H s) (k:∀b o,b∉ch->s.heap.get? b=some o->h'.get? b=some o) (hf:∀b∈ch,FpOk X pins H b) (hT:s.heap.objs.size<=T)
  (new:ObjOk X.prog X.w (upd H T ob) h' T ob):Inv X pins σ (upd H T ob) {s with heap:=h',toks:=t'}:=by
 have hn:H T=none:=I.hok.fresh hT
 have nit:∀b u,H b=some u->b∉ch:=fun b u e z=>by
  have q:=(hf b z).1
  rw [q] at e;cases e
 refine I.step (g':=s.gens) (d':=s.drawn) (ch:=ch) (fun b hb=>⟨(hf b hb).2.2.2.1,(hf b hb).2.1,(hf b hb).2.2.2.2.1,(hf b hb).2.2.2.2.2⟩) (fun b o _ _ hc e _=>k b o hc e) (fun b o _ _ hc e _=>⟨o.slots,k b o hc e⟩)
  (fun b o _ e n=>?_) (fun b o hc e=>⟨o,k b o hc e⟩) (fun b xs e=>?_) (fun b o u e=>?_) (fun b ps e=>⟨#[],?_⟩) (fun m hm=>?_) (fun b u e=>?_) I.bare
 ·rw [upd_ne (Nat.ne_of_lt (Nat.lt_of_lt_of_le (Heap.lt_size e) hT))];exact n
 ·rw [upd_ne (ne_of_none e hn)];exact e
 ·rw [upd_ne (ne_of_none e hn)];exact e
 ·rw [upd_ne (ne_of_none e hn),e];simp
 ·obtain ⟨o,es,ep,ho,r⟩:=hm
  exact ⟨o,es,ep,k _ o (fun z=>(hf _ z).2.1 rfl) ho,r⟩
 ·by_cases hb:b=T
  ·subst hb
   rw [upd_same] at e
   cases e
   exact new
  ·rw [upd_ne hb] at e
   refine (I.hok b u e).stay (fun c v hc q=>k c v ?_ q) (fun c q=>by rw [upd_ne (ne_of_none q hn)];exact q) fun c xs q=>by rw [upd_ne (ne_of_none q hn)];exact q
   rcases hc with z | z
   ·rw [z];exact nit b u e
   ·exact nit c _ z
theorem Inv.lock {d:Addr} {u:HO} (I:Inv X pins σ H s) (h:H d=some u) (mu:Mut (some u)):∃od,Inv X pins σ (upd H d (.frz od u)) s:=by
 have x:=I.hok d u h
 have ex:∃od,s.heap.get? d=some od:=by
  cases u with
  | lst xs=>obtain ⟨_,_,_,_,e⟩:=x;exact ⟨_,e⟩
  | dK kvs=>obtain ⟨_,_,_,_,o,_,_,e,_⟩:=x;exact ⟨o,e⟩
  | dT kvs=>obtain ⟨_,_,_,_,o,_,_,e,_⟩:=x;exact ⟨o,e⟩
  | set S n=>obtain ⟨o,_,_,_,e,_⟩:=x;exact ⟨o,e⟩
  | ins C dx fs=>obtain ⟨_,_,_,e,_⟩:=x;exact ⟨_,e⟩
  | ext φ=>obtain ⟨_,⟨_,e⟩,_⟩:=x;exact ⟨_,e⟩
  | xd fs=>obtain ⟨_,⟨o,_,_,e,_⟩,_⟩:=x;exact ⟨o,e⟩
  | _=>exact False.elim mu
 obtain ⟨od,e⟩:=ex
 have new:ObjOk X.prog X.w (upd H d (.frz od u)) s.heap d (.frz od u):=by
  refine ⟨e,x.stay (fun b v _ q=>q) (fun b q=>?_) fun b xs q=>?_⟩
  ·rw [upd_ne (fun z=>by rw [z,h] at q;cases q;exact mu)];exact q
  ·rw [upd_ne (fun z=>by rw [z,h] at q;cases q;exact mu)];exact q
 exact ⟨od,I.write (x:=d) (e:=d) (t':=s.toks) (h':=s.heap) (by rw [h];exact mu) (.inl rfl) (fun b v _ q=>q) ⟨od,e⟩ new⟩
theorem Inv.nofrz {d:Addr} {u:HO} (I:Inv X pins σ H s) (h:H d=some u) (mu:Mut (some u)):∀o' u',X.H₀ d≠some (.frz o' u'):=fun o' u' e=>by
 have q:=I.base.frzs d o' u' e
 rw [h] at q
 cases q
 exact mu
theorem Inv.unlock {d:Addr} {od:Obj} {u:HO} (I:Inv X pins σ H s) (h:H d=some (.frz od u)) (hn:∀o' u',X.H₀ d≠some (.frz o' u')):Inv X pins σ (upd H d u) s:=by
 have neH:∀b o,H b=some o->(∀o' u',o≠.frz o' u')->b≠d:=fun b o e hne z=>by
  rw [z,h] at e
  cases e
  exact hne _ _ rfl
 have neN:∀b,H b=none->b≠d:=fun b e z=>by rw [z,h] at e;cases e
 refine ⟨I.ok,I.os,I.bare,⟨I.base.keep,I.base.slot,fun b o e n hx=>?_,I.base.there,fun b xs e=>?_,fun b o x e=>?_,fun b ps e=>?_⟩,I.loc,I.cell,?_,fun x c e=>?_,fun p hp=>?_,fun b o e=>?_,I.len⟩
 ·rw [upd_ne (neN b (I.base.free b o e n hx))];exact I.base.free b o e n hx
 ·have q:=I.base.tups b xs e
  rw [upd_ne (neH b _ q (fun _ _ z=>nomatch z))];exact q
 ·have q:=I.base.frzs b o x e
  rw [upd_ne (fun z=>by rw [z] at e;exact hn _ _ e)];exact q
 ·obtain ⟨m,q⟩:=I.base.tbls b ps e
  exact ⟨m,by rw [upd_ne (neH b _ q (fun _ _ z=>nomatch z))];exact q⟩
 ·rw [upd_ne (neN _ I.free)];exact I.free
 ·rw [upd_ne (neN c (I.freeC x c e))];exact I.freeC x c e
 ·obtain ⟨e,n,r⟩:=I.pin p hp
  exact ⟨e,by rw [upd_ne (neN _ n)];exact n,r⟩
 ·by_cases hb:b=d
  ·rw [hb,upd_same] at e
   cases e
   rw [hb]
   obtain ⟨_,x⟩:=I.hok d _ h
   exact x.stay (fun c v _ q=>q) (fun c q=>by rw [upd_ne (neH c _ q (fun _ _ z=>nomatch z))];exact q) fun c xs q=>by rw [upd_ne (neH c _ q (fun _ _ z=>nomatch z))];exact q
  ·rw [upd_ne hb] at e
   exact (I.hok b o e).stay (fun c v _ q=>q) (fun c q=>by rw [upd_ne (neH c _ q (fun _ _ z=>nomatch z))];exact q) fun c xs q=>by rw [upd_ne (neH c _ q (fun _ _ z=>nomatch z))];exact q
end
def tLockE (t:TE):TE:=fun σ H Q=>∃d u,H d=some u/\Mut (some u)/\∀od,t σ (upd H d (.frz od u)) fun v H'=>H' d=some (.frz od u)/\Q v (upd H' d u)
section
variable {X:Cx}
theorem pe_lock {e:Expr} {t:TE} (h:PE X e t):PE X e (tLockE t):=by
 intro pins s σ H Q I hw
 obtain ⟨d,u,hd,mu,hw⟩:=hw
 obtain ⟨od,I1⟩:=I.lock hd mu
 refine thn (h pins s σ _ _ I1 (hw od)) fun v s1 ⟨x,H1,I2,r,e2,q⟩=>?_
 exact ⟨x,_,I2.unlock e2 (I.nofrz hd mu),r,q⟩
theorem pi_one {tg:Expr} {pins:List (Addr×Obj)} {σ:St} {H:Hp} {s:Shared} {R:It->Hp->Prop} {J:It} {tn:Nat->Heap->Prop} {tk:Nat} (I:Inv X pins σ H s) (o:Obj)
  (T:Turn X.prog X.w X.K tg J [s.heap.objs.size] s.heap.objs.size tn) (st:tn 0 (s.heap.push o)) (q:R J H):PIE X pins σ tg R (.ref s.heap.objs.size) {s with heap:=s.heap.push o,toks:=tk}:=by
 refine ⟨s.heap.objs.size,[s.heap.objs.size],tn,J,H,rfl,I.kept fun b ob e=>Heap.get?_push_of_some _ e,T,st,fun b hb=>?_,q⟩
 have e:b=s.heap.objs.size:=by simpa using hb
 subst e
 exact I.fpOk (Nat.le_refl _) (I.hok.fresh (Nat.le_refl _))
end
def Itc (lo c:Int) (n:Nat):It:=⟨fun i _=>i < n,fun i H x H'=>H'=H/\x=.int (lo + (i:Nat) * c),fun i _=>n<=i⟩
theorem turn_rangeC {P:Program} {w:World} {K:PySem.W.Frag} {tg:Expr} (it:Addr) (lo c:Int) (n:Nat):Turn P w K tg (Itc lo c n) [it] it (fun i h=>IsRangeIter h it (lo + (i:Nat) * c) ((n:Int) - (i:Nat)) c) where
 mem:=by simp
 obj:=fun i h st b hb=>by
  have e:b=it:=by simpa using hb
  subst e
  exact ⟨_,st,fun v z=>nomatch z⟩
 keep:=fun i h h' st k=>k it (by simp) _ st
 item:=by
  intro X hP hw hK hc i pins s σ H E I hf st hg
  subst hP hw hK
  obtain ⟨f0,f1,f2,f3,f4,f5⟩:=hf it (by simp)
  have W:=Walks.range (prog:=X.prog) (w:=X.w) (I.ok.hd hc) it lo c n
  refine W.item i s _ _ hg st fun v h' tk hv st' kk=>?_
  obtain ⟨t,rfl⟩:=hv
  have I1:Inv X pins σ H {s with heap:=h',toks:=tk}:=I.turned (fun b o hb e=>kk b o (by simpa using hb) e) f0 f1 f3 f4 f5
  exact ⟨_,rfl,go_of (s:={s with heap:=h',toks:=tk}) (n:="range_iterator") st' rfl rfl (by decide) ⟨.int (lo + (i:Nat) * c),H,I1,⟨t,rfl⟩,⟨rfl,rfl⟩,st',fun b hb=>(hf b hb).1⟩⟩
 done:=by
  intro X hP hw hK hc i pins s σ H E I hf st hg
  subst hP hw hK
  obtain ⟨f0,f1,f2,f3,f4,f5⟩:=hf it (by simp)
  exact wpAny_pyNext_range_end (I.ok.hd hc) st (by have:n<=i:=hg;omega) fun h' eb=>⟨rfl,I.turned (t':=s.toks) (fun b o hb e=>eb b o hb e) f0 f1 f3 f4 f5⟩
 self:=fun A i s Q E st h=>wpAny_pyIter_rangeiter st h
def RgC (i j c:Int) (n:Nat):Prop:=c≠0/\c.natAbs < 1073741824/\Builtin.Range.small i j c=true/\Builtin.Range.rangeSize i j c=n
def iRng3 (ta:TA):TI:=fun σ H R=>ta σ H fun vs H1=>∃(i j c:Int) (n:Nat),vs=[.int i,.int j,.int c]/\RgC i j c n/\R (Itc i c n) H1
section
variable {X:Cx} {tg:Expr}
theorem pi_range3 {a b c:Expr} {ta:TA} {p pos:Pos} (hg:Gl X "range") (hm:X.mg "range" = none) (ha:PA X [a,b,c] ta)
  (hs:starEach [a,b,c] X.env=(false,eval a X.env) :: starEach [b,c] X.env:=by rfl) (hpl:(backTo pos (starEach [b,c] X.env)).any (·.1)=false:=by rfl) :
  PI X tg (.Call (.Name "range" p) [a,b,c] [] pos) (iRng3 ta):=by
 intro pins s σ H R I h
 refine Call_ (ld_blt I hg hm boot_range (PyProof.Rows.callWith_type1 (thn (ha pos pins s σ H _ I h) fun us s1 ⟨vs,H1,I1,r1,q1⟩=>?_) hs hpl))
 obtain ⟨i,j,k,n,e,⟨c0,c1,c2,c3⟩,q⟩:=q1
 subst e
 cases r1 with
 | cons r rr=>
  cases rr with
  | cons r' rr=>
   cases rr with
   | cons r'' rr=>
    cases rr
    obtain ⟨t,rfl⟩:=r
    obtain ⟨t',rfl⟩:=r'
    obtain ⟨t'',rfl⟩:=r''
    refine call_range_3 c0 ?_ (.inl (PyProof.noPylong_small c1))
    refine wpAny_pyIter_range (IsRange.new ..) c2 ?_
    have I2:Inv X pins σ H1 {s1 with heap:=s1.heap.push {cls:=.type "range",data:=.fields #[.int i t,.int j t',.int k t'']}}:=I1.kept (t':=s1.toks) fun b o e=>Heap.get?_push_of_some _ e
    refine pi_one (tk:=s1.toks) I2 _ (turn_rangeC _ i k n) ?_ q
    have e1:i + ((0:Nat):Int) * k=i:=by simp
    have e2:(n:Int) - ((0:Nat):Int)=Builtin.Range.rangeSize i j k:=by rw [c3];simp
    show IsRangeIter _ _ (i + ((0:Nat):Int) * k) ((n:Int) - ((0:Nat):Int)) k
    rw [e1,e2]
    exact Heap.get?_push_size _ rfl
end
theorem for_rangeC {lo c:Int} {n:Nat} {g:TG} {tb:TS} {D:Ends} {σ:St} {H:Hp} (Pv:Nat->St->Hp->Prop) (h0:Pv 0 σ H)
  (hs:∀i σ H,i < n->Pv i σ H->g (.int (lo + (i:Nat) * c)) σ H fun σ2 H2=>tb {D with nx:=Pv (i + 1),ct:=Pv (i + 1),bk:=D.nx} σ2 H2) (hd:∀σ H,Pv n σ H->D.nx σ H) :
  ∃W:Nat->Nat->St->Hp->Prop,(∃m,W 0 m σ H)/\∀i m σ H,W i m σ H->
   ((Itc lo c n).stop i H/\D.nx σ H)\/((Itc lo c n).go i H/\∃N:St->Hp->Prop,(∀σ' H',N σ' H'->∃m',m' < m/\W (i + 1) m' σ' H')/\∀x H',(Itc lo c n).yld i H x H'->g x σ H' fun σ2 H2=>tb {D with nx:=N,ct:=N,bk:=D.nx} σ2 H2):=by
 refine ⟨fun i m σ H=>m=n - i/\i<=n/\Pv i σ H,⟨n,by simp,Nat.zero_le _,h0⟩,?_⟩
 rintro i m σ H ⟨rfl,hi,p⟩
 by_cases hlt:i < n
 ·refine .inr ⟨hlt,Pv (i + 1),fun σ' H' p'=>⟨n - (i + 1),by omega,rfl,hlt,p'⟩,fun x H' y=>?_⟩
  obtain ⟨e,y⟩:=y
  subst e y
  exact hs i σ _ hlt p
 ·have e:i=n:=by omega
  subst e
  exact .inl ⟨Nat.le_refl _,hd σ H p⟩
def Itv (K:PySem.W.Frag) (a:Addr) (n:Nat):It:=
 ⟨fun i H=>i < n/\∃(xs:List V) (x:V),SqL K H a xs/\xs[n - 1 - i]? = some x,fun i H x H'=>H'=H/\∀xs,SqL K H a xs->xs[n - 1 - i]? = some x,fun i _=>n<=i⟩
theorem turn_rev {P:Program} {w:World} {K:PySem.W.Frag} {tg:Expr} (a it:Addr) (n:Nat):Turn P w K tg (Itv K a n) [it] it (fun i h=>i<=n/\h.IsRevIter it a ((n:Int) - 1 - (i:Nat))) where
 mem:=by simp
 obj:=fun i h st b hb=>by
  have e:b=it:=by simpa using hb
  subst e
  obtain ⟨_,o,e,c,d⟩:=st
  exact ⟨o,e,fun v z=>by rw [d] at z;cases z⟩
 keep:=fun i h h' st k=>⟨st.1,st.2.at fun o e=>k it (by simp) o e⟩
 item:=by
  intro X hP hw hK hc i pins s σ H E I hf st hg
  subst hP hw hK
  obtain ⟨hin,xs,x,hq,hx⟩:=hg
  obtain ⟨its,rv,p,hz⟩:=I.list hq
  obtain ⟨u,hu,ru⟩:=rv.get hx
  obtain ⟨f0,f1,f2,f3,f4,f5⟩:=hf it (by simp)
  obtain ⟨_,hit⟩:=st
  have e1:(n:Int) - 1 - ((i:Nat):Int)=((n - 1 - i:Nat):Int):=by omega
  rw [e1] at hit
  refine wpAny_pyNext_rev_item hit p.isList (x:=u) (by simpa using hu) fun h' st' sb=>?_
  have e2:((n - 1 - i:Nat):Int) - 1=(n:Int) - 1 - ((i + 1:Nat):Int):=by omega
  rw [e2] at st'
  have I1:Inv X pins σ H {s with heap:=h'}:=I.turned (t':=s.toks) (fun b o hb e=>(sb.2 b hb).trans e) f0 f1 f3 f4 f5
  obtain ⟨o,e,c,d⟩:=id st'
  exact ⟨u,rfl,go_of (s:={s with heap:=h'}) e c d (by decide) ⟨x,H,I1,ru,⟨rfl,fun ys hy=>by rw [I.list_inj hy hq];exact hx⟩,⟨hin,st'⟩,fun b hb=>(hf b hb).1⟩⟩
 done:=by
  intro X hP hw hK hc i pins s σ H E I hf st hg
  subst hP hw hK
  obtain ⟨f0,f1,f2,f3,f4,f5⟩:=hf it (by simp)
  obtain ⟨hin,hit⟩:=st
  have hge:n<=i:=hg
  have e1:(n:Int) - 1 - ((i:Nat):Int)=-1:=by omega
  rw [e1] at hit
  exact wpAny_pyNext_rev_end (I.ok.hd hc) hit fun h' eb=>⟨rfl,I.turned (t':=s.toks) (fun b o hb e=>eb b o hb e) f0 f1 f3 f4 f5⟩
 self:=fun A i s Q E st h=>wpAny_pyIter_revIter st.2 h
def iRev (K:PySem.W.Frag) (ta:TA):TI:=fun σ H R=>ta σ H fun vs H1=>∃(a:Addr) (xs:List V),vs=[.ref a]/\SqL K H1 a xs/\R (Itv K a xs.length) H1
section
variable {X:Cx} {tg:Expr}
theorem pi_reversed {e:Expr} {ta:TA} {p pos:Pos} (hg:Gl X "reversed") (hm:X.mg "reversed" = none) (ha:PA X [e] ta) (hs:starEach [e] X.env=[(false,eval e X.env)]:=by rfl):PI X tg (.Call (.Name "reversed" p) [e] [] pos) (iRev X.K ta):=by
 intro pins s σ H R I h
 refine Call_ (ld_blt I hg hm boot_reversed5 (PyProof.Rows.callWith_type1 (thn (ha pos pins s σ H _ I h) fun us s1 ⟨vs,H1,I1,r1,q1⟩=>?_) hs rfl))
 obtain ⟨a,xs,e,hq,q⟩:=q1
 subst e
 cases r1 with
 | cons r rr=>
  cases rr
  cases r
  obtain ⟨its,rv,p',hz⟩:=I1.list hq
  have hl:=rv.length
  have e1:((its.toArray.size:Nat):Int) - 1=(xs.length:Int) - 1 - ((0:Nat):Int):=by simp only [List.size_toArray];omega
  refine call_reversed_list p'.isList (wpAny_pyIter_revIter (l:=a) (i:=((its.toArray.size:Nat):Int) - 1) ⟨_,Heap.get?_push_size _ rfl,rfl,rfl⟩ ?_)
  refine pi_one (tk:=s1.toks) I1 _ (turn_rev a _ xs.length) ⟨Nat.zero_le _,?_⟩ q
  rw [<-e1]
  exact ⟨_,Heap.get?_push_size _ rfl,rfl,rfl⟩
end
section
variable {prog:Program} {w:World} {A:Around} {E:Value->Shared->Prop} {s:Shared}
end
section
variable {X:Cx} {pins:List (Addr×Obj)} {σ:St} {H:Hp} {s:Shared} {d:Addr} {o:Obj}
end
section
variable {P:Program} {w:World} {K:PySem.W.Frag} {tg:Expr} {d:Addr} {o:Obj} {es:Array DictEntry} {ep:Nat}
end
section
variable {X:Cx} {tg e:Expr} {td:TE} {apos cpos:Pos}
end
theorem boot_zip5:bootBuiltins "zip" = some (.type "zip"):=by decide +kernel
def Itz (K:PySem.W.Frag) (a b:Addr):It:=
 ⟨fun i H=>∃(xs ys:List V) (x y:V),SqL K H a xs/\SqL K H b ys/\xs[i]? = some x/\ys[i]? = some y,
  fun i H v H'=>∃T x y,v=.ref T/\H T=none/\H'=upd H T (.tup [x,y])/\(∀xs,SqL K H a xs->xs[i]? = some x)/\∀ys,SqL K H b ys->ys[i]? = some y,
  fun i H=>∃xs ys:List V,SqL K H a xs/\SqL K H b ys/\(xs.length<=i\/ys.length<=i)⟩
theorem turn_zip {P:Program} {w:World} {K:PySem.W.Frag} {elts:List Expr} {kk:Nat} {tpos:Pos} {a b z TI TO i1 i2:Addr} (D:ZipApart z TI TO i1 i2 a b) :
  Turn P w K (.Tuple elts kk tpos) (Itz K a b) [z,TI,TO,i1,i2] z (fun i h=>IsZip h z TI TO .none/\IsPair h TI (.ref i1) (.ref i2)/\(∃x y,IsPair h TO x y)/\h.IsListIter i1 a i/\h.IsListIter i2 b i) where
 mem:=by simp
 obj:=fun i h st c hc=>by
  obtain ⟨hz,hTI,⟨x,y,hTO⟩,⟨o1,e1,_,d1⟩,⟨o2,e2,_,d2⟩⟩:=st
  have e':c=z\/c=TI\/c=TO\/c=i1\/c=i2:=by simpa using hc
  rcases e' with q | q | q | q | q
  ·rw [q];exact ⟨_,hz,fun v q=>nomatch q⟩
  ·rw [q];exact ⟨_,hTI,fun v q=>nomatch q⟩
  ·rw [q];exact ⟨_,hTO,fun v q=>nomatch q⟩
  ·rw [q];exact ⟨o1,e1,fun v q=>by rw [d1] at q;cases q⟩
  ·rw [q];exact ⟨o2,e2,fun v q=>by rw [d2] at q;cases q⟩
 keep:=fun i h h' st k=>by
  obtain ⟨hz,hTI,⟨x,y,hTO⟩,h1,h2⟩:=st
  exact ⟨k z (by simp) _ hz,k TI (by simp) _ hTI,⟨x,y,k TO (by simp) _ hTO⟩,h1.at fun o q=>k i1 (by simp) o q,h2.at fun o q=>k i2 (by simp) o q⟩
 item:=by
  intro X hP hw hK hc i pins s σ H E I hf st hg
  subst hP hw hK
  obtain ⟨hz,hTI,⟨x0,y0,hTO⟩,h1,h2⟩:=st
  obtain ⟨xs,ys,x,y,hqx,hqy,hx,hy⟩:=hg
  obtain ⟨its,rv,p,_⟩:=I.list hqx
  obtain ⟨its2,rv2,p2,_⟩:=I.list hqy
  obtain ⟨u,hu,ru⟩:=rv.get hx
  obtain ⟨u2,hu2,ru2⟩:=rv2.get hy
  have hzl:z < s.heap.objs.size:=Heap.lt_size hz
  refine wpAny_pyNext_zip_item D hz hTI hTO h1 h2 p.isList p2.isList (x:=u) (y:=u2) (by simpa using hu) (by simpa using hu2) fun h' z' TO' h1' h2' hT hsz hk=>?_
  refine ⟨_,rfl,wpAny_letOwnedTupleGo_zip (s:={s with heap:=h'}) z' fun h'' z'' sb=>?_⟩
  have hT2:h''.get? s.heap.objs.size=some {cls:=.type "tuple",data:=.seq #[u,u2]}:=(sb.2 _ (Nat.ne_of_gt hzl)).trans hT
  have new:ObjOk X.prog X.w (upd H s.heap.objs.size (.tup [x,y])) h'' s.heap.objs.size (.tup [x,y]):=
   ⟨by show 2<=sizeLine;decide,[u,u2],.cons ru (.cons ru2 .nil),⟨_,hT2,rfl,_,rfl⟩⟩
  have I1:Inv X pins σ (upd H s.heap.objs.size (.tup [x,y])) {s with heap:=h''}:=
   I.turnedNew (t':=s.toks) (ch:=[z,TI,TO,i1,i2]) (fun c o hb q=>(sb.2 c (fun q'=>hb (by simp [q']))).trans (hk c o (fun q'=>hb (by simp [q'])) (fun q'=>hb (by simp [q'])) (fun q'=>hb (by simp [q'])) (fun q'=>hb (by simp [q'])) q)) hf (Nat.le_refl _) new
  refine ⟨.ref s.heap.objs.size,_,I1,rfl,⟨_,x,y,rfl,I.hok.fresh (Nat.le_refl _),rfl,fun l hl=>by rw [I.list_inj hl hqx];exact hx,fun l hl=>by rw [I.list_inj hl hqy];exact hy⟩,⟨z'',?_,⟨u,u2,?_⟩,?_,?_⟩,fun c hcm=>?_⟩
  ·exact (sb.2 _ D.TIz).trans (hk _ _ D.TIz D.TITO D.TIi1 D.TIi2 hTI)
  ·exact (sb.2 _ D.TOz).trans TO'
  ·exact h1'.at fun o q=>(sb.2 _ D.i1z).trans q
  ·exact h2'.at fun o q=>(sb.2 _ D.i2z).trans q
  ·have hlt:c < s.heap.objs.size:=by
    have e':c=z\/c=TI\/c=TO\/c=i1\/c=i2:=by simpa using hcm
    rcases e' with q | q | q | q | q
    ·rw [q];exact hzl
    ·rw [q];exact Heap.lt_size hTI
    ·rw [q];exact Heap.lt_size hTO
    ·rw [q];obtain ⟨_,e1,_⟩:=h1;exact Heap.lt_size e1
    ·rw [q];obtain ⟨_,e2,_⟩:=h2;exact Heap.lt_size e2
   rw [upd_ne (Nat.ne_of_lt hlt)]
   exact (hf c hcm).1
 done:=by
  intro X hP hw hK hc i pins s σ H E I hf st hg
  subst hP hw hK
  obtain ⟨hz,hTI,⟨x0,y0,hTO⟩,h1,h2⟩:=st
  obtain ⟨xs,ys,hqx,hqy,hend⟩:=hg
  obtain ⟨its,rv,p,_⟩:=I.list hqx
  obtain ⟨its2,rv2,p2,_⟩:=I.list hqy
  have l1:=rv.length
  have l2:=rv2.length
  have he:its.toArray[i]? = none\/its2.toArray[i]? = none:=by
   rcases hend with q | q
   ·exact .inl (by simp;omega)
   ·exact .inr (by simp;omega)
  exact wpAny_pyNext_zip_end (I.ok.hd hc) D hz hTI hTO h1 h2 p.isList p2.isList he fun h' hk=>⟨rfl,I.turnedL (t':=s.toks) (ch:=[z,TI,TO,i1,i2]) (fun c o hb q=>
   hk c o (fun q'=>hb (by simp [q'])) (fun q'=>hb (by simp [q'])) (fun q'=>hb (by simp [q'])) (fun q'=>hb (by simp [q'])) q) hf⟩
 self:=fun A i s Q E st h=>wpAny_pyIter_zip st.1 h
def iZip (K:PySem.W.Frag) (ta:TA):TI:=fun σ H R=>ta σ H fun vs H1=>∃a b xs ys,vs=[.ref a,.ref b]/\SqL K H1 a xs/\SqL K H1 b ys/\R (Itz K a b) H1
theorem pi_zip {X:Cx} {e e2:Expr} {ta:TA} {p pos tpos:Pos} {elts:List Expr} {kk:Nat} (hg:Gl X "zip") (hm:X.mg "zip" = none) (ha:PA X [e,e2] ta)
  (hs:starEach [e,e2] X.env=(false,eval e X.env) :: starEach [e2] X.env:=by rfl) (hpl:(backTo pos (starEach [e2] X.env)).any (·.1)=false:=by rfl) :
  PI X (.Tuple elts kk tpos) (.Call (.Name "zip" p) [e,e2] [] pos) (iZip X.K ta):=by
 intro pins s σ H R I h
 refine Call_ (ld_blt I hg hm boot_zip5 (PyProof.Rows.callWith_type1 (thn (ha pos pins s σ H _ I h) fun us s1 ⟨vs,H1,I1,r1,q1⟩=>?_) hs hpl))
 obtain ⟨a,b,xs,ys,ex,hqx,hqy,q⟩:=q1
 subst ex
 cases r1 with
 | cons r rr=>
  cases rr with
  | cons r' rr=>
   cases rr
   cases r
   cases r'
   obtain ⟨its,rv,p1,_⟩:=I1.list hqx
   obtain ⟨its2,rv2,p2,_⟩:=I1.list hqy
   have la:a < s1.heap.objs.size:=p1.lt
   have lb:b < s1.heap.objs.size:=p2.lt
   refine call_zip_2 p1.isList p2.isList fun h' hz hTI hTO h1 h2 hsz hk=>wpAny_pyIter_zip hz ?_
   have I2:Inv X pins σ H1 {s1 with heap:=h'}:=I1.kept (t':=s1.toks) hk
   refine ⟨s1.heap.objs.size + 4,[s1.heap.objs.size + 4,s1.heap.objs.size + 2,s1.heap.objs.size + 3,s1.heap.objs.size,s1.heap.objs.size + 1],_,_,H1,rfl,I2,turn_zip (PySem.W.ktu_apart s1.heap.objs.size a b la lb),⟨hz,hTI,⟨_,_,hTO⟩,h1,h2⟩,fun c hcm=>?_,q⟩
   have e':c=s1.heap.objs.size + 4\/c=s1.heap.objs.size + 2\/c=s1.heap.objs.size + 3\/c=s1.heap.objs.size\/c=s1.heap.objs.size + 1:=by simpa using hcm
   have hle:s1.heap.objs.size<=c:=by
    rcases e' with z | z | z | z | z
    ·rw [z];exact Nat.le_add_right _ _
    ·rw [z];exact Nat.le_add_right _ _
    ·rw [z];exact Nat.le_add_right _ _
    ·rw [z];exact Nat.le_refl _
    ·rw [z];exact Nat.le_add_right _ _
   exact I1.fpOk hle (I1.hok.fresh hle)
end L2
section
namespace Bits
open PySem PyProof.Rows
end Bits
end
section
namespace TL
open PySem PySem.Builtin PySem.Builtin.Str PySem.StrLaws
end TL
end
namespace L2
open PySem PySem.Spec PyProof.Rows
section
variable {X:Cx} {pins:List (Addr×Obj)} {σ:St} {H:Hp} {s:Shared} {Q:VK}
end
section
variable {X:Cx}
end
section
variable {X:Cx} {o e:Expr} {to te:TE}
end
end L2
namespace L2
open PySem PySem.Spec PyProof.Rows
section
variable {X:Cx}
end
end L2
namespace Att
open PySem PySem.W PySem.Calls PyProof.Rows
section
variable {prog:Program} {w:World} {A:Around} {E:Value->Shared->Prop} {s:Shared} {K:Frag}
def noObjs (h:Heap):Heap:={h with objs:=#[]}
theorem noObjs_get (h:Heap) (b:Addr):(noObjs h).get? b=none:=by
 cases e:(noObjs h).get? b with
 | none=>rfl
 | some o=>exact absurd (Heap.lt_size e) (Nat.not_lt_zero _)
def ledger (h:Heap) (L d:Addr):List (Addr×Obj):=(List.range h.objs.size).filterMap fun a=>if a=L\/a=d then none else (h.get? a).map fun o=>(a,o)
theorem mem_ledger {h:Heap} {L d a:Addr} {o:Obj}:(a,o)∈ledger h L d↔a≠L/\a≠d/\h.get? a=some o:=by
 unfold ledger
 rw [List.mem_filterMap]
 constructor
 ·rintro ⟨b,_,e⟩
  split at e
  ·cases e
  ·rename_i hb
   obtain ⟨o',ho,e'⟩:=Option.map_eq_some_iff.mp e
   cases e'
   exact ⟨fun q=>hb (.inl q),fun q=>hb (.inr q),ho⟩
 ·rintro ⟨n1,n2,ho⟩
  refine ⟨a,List.mem_range.mpr (Heap.lt_size ho),?_⟩
  rw [if_neg (show ¬(a=L\/a=d) from fun q=>q.elim n1 n2),ho] <;> rfl
theorem fr_all {h:Heap} {L:Addr} {m:Str->Option Value} (n:h.Ns L m):Fr (noObjs h) L h m:=
 ⟨n,fun b o e=>(by rw [noObjs_get] at e;cases e),Nat.zero_le _⟩
end
end Att
namespace L2
open PySem PySem.Spec PyProof.Rows
theorem vals_ints:∀{vs:List Value} {ns:List Int},IntsAre vs ns->Vals (ns.map V.int) vs
 | _,_,.nil=>.nil
 | _,_,.cons n t h=>.cons ⟨t,rfl⟩ (vals_ints h)
end L2
namespace L2
open PySem PySem.Spec PyProof.Rows
end L2
namespace L2
open PySem PySem.Spec PyProof.Rows
def inClass (s:Stmt) (j:Nat):Stmt:=match s with
 | .ClassDef _ _ _ body _ _ _ _ _ _ _=>body.getD j (.Pass ⟨0,0,0,0⟩)
 | _=>.Pass ⟨0,0,0,0⟩
def defArgs (s:Stmt):Arguments:=match s with
 | .FunctionDef _ a _ _ _ _ _ _ _ _=>a
 | _=>{posonlyargs:=[],args:=[],vararg:=none,kwonlyargs:=[],kw_defaults:=[],kwarg:=none,defaults:=[]}
def defBody (s:Stmt):List Stmt:=match s with
 | .FunctionDef _ _ b _ _ _ _ _ _ _=>b
 | _=>[]
def defScope (s:Stmt):Scope:=match s with
 | .FunctionDef _ _ _ _ _ _ sc _ _ _=>sc
 | _=>{kind:=.function,names:=[],isGenerator:=false,isCoroutine:=false}
abbrev CX0:CXT:=fun _ _ _ _ _ _=>False
abbrev E0:XK:=fun _ _ _=>False
theorem pass0 {X:Cx}:Passes CX0 X E0:=fun _ _ _ _ _ _ _ h=>h.elim
structure Fun (K:PySem.W.Frag) (x qual:Str) (st:Stmt) (f:Addr) (fd:FuncData):Prop where
 ex:∃(oc:Value) (od:Option Addr) (kV doc pm:Value) (an:Option Addr) (cdv ct:Value) (osl:Array (Option Value)),
  fd=PySem.W.fnOf x qual (defArgs st) (defBody st) (defScope st) .none kV doc pm an cdv ct/\K.lookup f=some ⟨oc,od,.func fd,osl⟩/\PySem.W.codeIn K cdv qual=true
 kp:PySem.W.keepIn K (.ref f)=true
section
variable {P:Program} {w:World} {K:PySem.W.Frag} {mg:Str->Option Value} {base:Heap}
theorem Fun.ok {x qual:Str} {st:Stmt} {f:Addr} {fd:FuncData} {N ps:List Str} {k:Nat} {sp:Sp} (F:Fun K x qual st f fd) (S:FnScope N ps (defScope st)) (len:∀vs H Q E,sp vs H Q E->vs.length=ps.length)
  (hbody:∀(cdv:Value) (A:Around) (outer:List Env) (s:Shared) (H:Hp) (vs:List V) (Q:VK) (E:XK),Room k (A.deeper (envOfC qual (defScope st) s.heap.objs.size f cdv))->sp vs H Q E->
   ∃t,PSs (cxOf CX0 P w K mg base N qual (defScope st) f cdv A outer s H E).nox (defBody st) t/\t {nx:=fun _ H'=>Q .non H',rt:=Q} (start N vs) H):FnOk P w K mg base CX0 (k + 1) f fd ps sp:=by
 obtain ⟨oc,od,kV,doc,pm,an,cdv,ct,osl,rfl,lk,hcd⟩:=F.ex
 refine fn_of lk hcd S len fun A outer s H vs Q E hr hsp=>?_
 obtain ⟨t,h,q⟩:=hbody cdv A outer s H vs Q E hr hsp
 exact ⟨t,h.nox,q⟩
theorem Fun.binds {x qual:Str} {st:Stmt} {f:Addr} {fd:FuncData} {ps:List Str} (F:Fun K x qual st f fd)
  (h:∀(kV doc pm:Value) (an:Option Addr) (cdv ct:Value) (us:List Value),us.length=ps.length->bindArgs (PySem.W.fnOf x qual (defArgs st) (defBody st) (defScope st) .none kV doc pm an cdv ct) ⟨us,[]⟩=pure (ps.zip us)):Binds K fd ps []:=by
 obtain ⟨oc,od,kV,doc,pm,an,cdv,ct,osl,rfl,lk,hcd⟩:=F.ex
 exact .all (h kV doc pm an cdv ct)
theorem fun_mk {x qual:Str} {st:Stmt} {f:Addr} {oc:Value} {od an:Option Addr} {osl:Array (Option Value)} {kV doc pm cdv ct:Value} (l:K.lookup f=some ⟨oc,od,.func (PySem.W.fnOf x qual (defArgs st) (defBody st) (defScope st) .none kV doc pm an cdv ct),osl⟩)
  (c:PySem.W.codeIn K cdv qual=true) (k:PySem.W.keepIn K (.ref f)=true):Fun K x qual st f (PySem.W.fnOf x qual (defArgs st) (defBody st) (defScope st) .none kV doc pm an cdv ct):=⟨⟨oc,od,kV,doc,pm,an,cdv,ct,osl,rfl,l,c⟩,k⟩
end
theorem small1000 {n:Nat} (h:n<=1000):n < sizeLine:=Nat.lt_of_le_of_lt h (by decide)
section
variable {X:Cx}
theorem pv (i:Nat) {x:Str} {pos:Pos} (hN:X.N[i]? = some x:=by rfl) (hv:Vis X.env.scope x:=by first | exact Or.inl rfl | exact Or.inr (Or.inl rfl) | exact Or.inr (Or.inr rfl)) (hd:(x == ("__debug__" : Str))=false:=by decide)
  (hcd:(x == ("__classdict__" : Str))=false:=by decide):PE X (.Name x pos) (tVar i):=pe_var hN hv hd hcd
end
theorem iteF {A B:Prop} (h:B):if false=true then A else B:=by
 rw [if_neg Bool.false_ne_true]
 exact h
theorem iteT {A B:Prop} (h:A):if true=true then A else B:=by
 rw [if_pos rfl]
 exact h
theorem ite2 {c A B:Prop} [Decidable c] (h1:c->A) (h2:¬c->B):if c then A else B:=by
 by_cases h:c
 ·rw [if_pos h]
  exact h1 h
 ·rw [if_neg h]
  exact h2 h
theorem iteNS {c A B:Prop} [Decidable c] (hc:c) (h:B):if (!decide c)=true then A else B:=by
 rw [decide_eq_true hc]
 exact iteF h
def Same (H H':Hp):Prop:=∀b o,H b=some o->H' b=some o
theorem Same.refl (H:Hp):Same H H:=fun _ _ h=>h
theorem Same.trans {H H1 H2:Hp} (a:Same H H1) (b:Same H1 H2):Same H H2:=fun c o h=>b c o (a c o h)
theorem Same.free {H H':Hp} (e:Same H H') {l:Addr} (h:H' l=Option.none):H l=Option.none:=by
 cases q:H l with
 | none=>rfl
 | some o=>
  rw [e l o q] at h
  cases h
theorem Same.seq {K:PySem.W.Frag} {H H':Hp} {a:Addr} {xs:List V} (e:Same H H') (h:SqL K H a xs):SqL K H' a xs:=by
 rcases h with (h | ⟨o,h⟩) | h
 ·exact .inl (.inl (e _ _ h))
 ·exact .inl (.inr ⟨o,e _ _ h⟩)
 ·exact .inr h
section
variable {κ:Type} [DecidableEq κ]
end
theorem at_of {xs:List V} {z:Int} {j:Nat} {v:V} (e:z=(j:Int)) (h:xs[j]? = some v):atI xs z=some v:=by
 rw [e]
 exact atI_nat h
theorem nd_ix {α:Type} {l:List α} (hN:l.Nodup) {i j:Nat} {x:α} (a:l[i]? = some x) (b:l[j]? = some x):i=j:=by
 obtain ⟨h1,e1⟩:=List.getElem?_eq_some_iff.mp a
 obtain ⟨h2,e2⟩:=List.getElem?_eq_some_iff.mp b
 exact (List.getElem_inj hN).mp (e1.trans e2.symm)
end L2
namespace L2
open PySem PySem.Spec PyProof.Rows
abbrev Keeps (h h':Heap):Prop:=∀b o,h.get? b=some o->h'.get? b=some o
def SkEnd (k:Int) (s₁:Shared) (v:Value) (s₂:Shared):Prop:=∃h' tk t',s₂={s₁ with heap:=h',toks:=tk}/\v=.int k t'/\Keeps s₁.heap h'
structure KeepL (L:Addr) (m:Str->Option Value) (h h':Heap):Prop where
 k:∀b o,b≠L->h.get? b=some o->h'.get? b=some o
 ns:h'.Ns L m
theorem collect_range {prog:Program} {w:World} {A:Around} {E:Value->Shared->Prop} {s:Shared} {r:Addr} {n:Nat} {t u v:Tok} {R:List Value->Shared->Prop} (hh:A.handled=none) (hr:IsRange s.heap r 0 n 1 t u v) (hn:n<=5000)
  (h:∀(h':Heap) (tk:Nat) (acc:Array Value),Keeps s.heap h'->s.heap.objs.size < h'.objs.size->ItemsOf (fun i v=>∃t,v=.int (i:Int) t) acc n->R acc.toList {s with heap:=h',toks:=tk}) :
  wpAny (model prog w) A (collect (.ref r)) R E s:=by
 unfold collect
 refine wpAny_bind (wpAny_runValue (codeAny_builtin entry_proto_collect' ?_))
 rw [Around.under_plainId PySem.F.plain_proto_collect _]
 show wpAny _ A.in1 (newList [] >>= fun l=>again (.builtin "list.__iadd__" ⟨[l,.ref r],[]⟩)) _ _ s
 refine wpAny_bind (wpAny_newObj_type ?_)
 refine wpAny_pure ⟨plainId_quiet PySem.F.plain_list_iadd _,codeAny_builtin entry_list_iadd' ?_⟩
 rw [Around.under_plainId PySem.F.plain_list_iadd _]
 have hS₁:(s.heap.push {cls:=.type "list",data:=.seq ([]:List Value).toArray}).get? s.heap.objs.size=some {cls:=.type "list",data:=.seq #[]}:=Heap.get?_push_size _ rfl
 show wpAny _ A.in1 (Builtin.List.listExtendWith (.ref s.heap.objs.size) (.ref r) (.ref s.heap.objs.size)) _ _ _
 have hsm:Builtin.Range.small 0 n 1=true:=small_one (by omega) (by omega) (by omega) (by omega)
 have hrs:Builtin.Range.rangeSize 0 n 1=n:=by
  rw [rangeSize_one]
  split <;> omega
 have key:=wpAny_extend_range (prog:=prog) (w:=w) (A:=A) (s:={s with heap:=s.heap.push {cls:=.type "list",data:=.seq ([]:List Value).toArray}}) (n:=n)
  (R:=fun (q:Result) (s':Shared)=>∃(h':Heap) (tk:Nat) (acc':Array Value) (c':Nat),q=.ok (.ret (.ref s.heap.objs.size))/\s'={s with heap:=h',toks:=tk}/\
   Keeps s.heap h'/\h'.get? s.heap.objs.size=some {cls:=.type "list",dict:=none,data:=.seq acc' c',slots:=#[]}/\ItemsOf (fun i v=>∃t,v=.int (0 + i * 1) t) acc' n)
  hh (Heap.get?_push_of_some _ hr) hsm hrs (by omega) s.heap.objs.size (.ref s.heap.objs.size) 0 hS₁
  (fun h' tk acc' c' hk hS' hI=>⟨h',tk,acc',c',rfl,rfl,fun b o e=>hk b o (Nat.ne_of_lt (Heap.lt_size e)) (Heap.get?_push_of_some _ e),hS',hI⟩)
 have fin:∀{acc':Array Value},ItemsOf (fun i v=>∃t,v=.int (0 + i * 1) t) acc' n->ItemsOf (fun i v=>∃t,v=.int (i:Int) t) acc' n:=fun hI=>⟨hI.1,fun j v hj=>by
  obtain ⟨t,e⟩:=hI.2 j v hj
  have e2:(0:Int) + (j:Int) * 1=(j:Int):=by omega
  rw [e2] at e
  exact ⟨t,e⟩⟩
 refine wpAny_mono key (fun fi s' x=>?_) fun e s' x=>?_
 ·cases fi with
  | done f=>
   obtain ⟨h',tk,acc',c',e,rfl,hk,hS',hI⟩:=x
   cases e
   show wpAny _ A (load s.heap.objs.size >>= _) _ _ _
   refine wpAny_bind (wpAny_load hS' ?_)
   exact wpAny_pure (h h' tk acc' hk (Heap.lt_size hS') (fin hI))
  | again c₁=>
   refine ⟨x.1,codeAny_mono x.2 fun q s₂ y=>?_⟩
   obtain ⟨h',tk,acc',c',rfl,rfl,hk,hS',hI⟩:=y
   show wpAny _ A (load s.heap.objs.size >>= _) _ _ _
   refine wpAny_bind (wpAny_load hS' ?_)
   exact wpAny_pure (h h' tk acc' hk (Heap.lt_size hS') (fin hI))
 ·obtain ⟨_,_,_,_,e',_⟩:=x
  cases e'
def Byk (g:Nat->Int) (l:List Nat):Prop:=l.Pairwise fun x y=>g x < g y\/(g x=g y/\x < y)
theorem ints_item {item:Nat->Value}:∀{l:List Nat},(∀i∈l,∃t,item i=.int (i:Int) t)->IntsAre (l.map item) (l.map fun (z:Nat)=>(z:Int))
 | [],_=>.nil
 | i :: l,h=>by
  obtain ⟨t,e⟩:=h i List.mem_cons_self
  rw [List.map_cons,List.map_cons,e]
  exact .cons _ t (ints_item fun j hj=>h j (List.mem_cons_of_mem _ hj))
theorem kout_range {n:Nat} {g:Nat->Int} {acc:Array Value} {out:List Value} (hI:ItemsOf (fun i v=>∃t,v=.int (i:Int) t) acc n) (ko:KskOutSt false ((List.range n).map g) acc.toList out) :
  ∃ns:List Nat,IntsAre out (ns.map fun (z:Nat)=>(z:Int))/\ns.Perm (List.range n)/\Byk g ns:=by
 obtain ⟨ps,hp,ho,hs,hst⟩:=ko
 let item:Nat->Value:=fun i=>acc.getD i .none
 let num:Value->Nat:=fun v=>(numOf v).toNat
 let F:Nat->Int×Value:=fun i=>(g i,item i)
 have hit:∀i,i < n->∃t,item i=.int (i:Int) t:=fun i hi=>by
  have hi':i < acc.size:=by rw [hI.1];exact hi
  obtain ⟨t,e⟩:=hI.2 i acc[i] (by simp [hi'])
  exact ⟨t,by show acc.getD i .none=_;rw [<-e];simp [Array.getD,hi']⟩
 have hnum:∀i,i < n->num (item i)=i:=fun i hi=>by
  obtain ⟨t,e⟩:=hit i hi
  show (numOf (item i)).toNat=i
  rw [e]
  rfl
 have hvs:acc.toList=(List.range n).map item:=by
  refine List.ext_getElem? fun i=>?_
  rw [List.getElem?_map,Array.getElem?_toList]
  by_cases hi:i < n
  ·have hi':i < acc.size:=by rw [hI.1];exact hi
   rw [List.getElem?_range hi]
   show acc[i]? = some (acc.getD i .none)
   simp [Array.getD,hi']
  ·rw [List.getElem?_eq_none (by rw [List.length_range];omega)]
   have hi':¬i < acc.size:=by rw [hI.1];exact hi
   simp
   omega
 have hz:((List.range n).map g).zip acc.toList=(List.range n).map F:=by rw [hvs,List.zip_map']
 rw [hz] at hp hst
 have hF:∀p∈ps,num p.2 < n/\p=F (num p.2):=fun p h=>by
  obtain ⟨i,hi,rfl⟩:=List.mem_map.mp (hp.mem_iff.mp h)
  have hi:=List.mem_range.mp hi
  have e:num (F i).2=i:=hnum i hi
  rw [e]
  exact ⟨hi,rfl⟩
 obtain ⟨ns,hns⟩:∃ns:List Nat,ns=ps.map fun p=>num p.2:=⟨_,rfl⟩
 have hps:ps=ns.map F:=by
  rw [hns,List.map_map]
  conv=>lhs;rw [<-List.map_id ps]
  exact List.map_congr_left fun p h=>(hF p h).2
 have hperm:ns.Perm (List.range n):=by
  have:=hp.map fun p=>num p.2
  rw [List.map_map] at this
  have e:(List.range n).map ((fun (p:Int×Value)=>num p.2) ∘ F)=List.range n:=by
   conv=>rhs;rw [<-List.map_id (List.range n)]
   exact List.map_congr_left fun i hi=>hnum i (List.mem_range.mp hi)
  rw [e,<-hns] at this
  exact this
 have hlt:∀i∈ns,i < n:=fun i hi=>List.mem_range.mp (hperm.mem_iff.mp hi)
 refine ⟨ns,?_,hperm,?_⟩
 ·have e:out=ns.map item:=by
   rw [ho,hps,List.map_map]
   rfl
  rw [e]
  exact ints_item fun i hi=>hit i (hlt i hi)
 ·have h1:ns.Pairwise fun x y=>g x<=g y:=by
   rw [hps,List.pairwise_map] at hs
   exact hs.imp fun h=>h
  have h2:∀c:Int,ns.filter (fun x=>g x == c)=(List.range n).filter (fun x=>g x == c):=fun c=>by
   have:=hst c
   rw [hps,List.filter_map,List.filter_map] at this
   have:=congrArg (List.map fun (p:Int×Value)=>num p.2) this
   rw [List.map_map,List.map_map] at this
   have e:∀l:List Nat,(∀i∈l,i < n)->l.map ((fun (p:Int×Value)=>num p.2) ∘ F)=l:=fun l hl=>by
    conv=>rhs;rw [<-List.map_id l]
    exact List.map_congr_left fun i hi=>hnum i (hl i hi)
   rw [e _ fun i hi=>hlt i (List.mem_filter.mp hi).1,e _ fun i hi=>List.mem_range.mp (List.mem_filter.mp hi).1] at this
   exact this
  have h3:∀c:Int,ns.Pairwise fun x y=>(g x == c)=true->(g y == c)=true->x < y:=fun c=>by
   have:(ns.filter (fun x=>g x == c)).Pairwise (fun x y=>x < y):=by
    rw [h2 c]
    exact (List.pairwise_lt_range).filter _
   exact List.pairwise_filter.mp this
  unfold Byk
  rw [List.pairwise_iff_getElem] at h1 |-
  intro i j hi hj hij
  have q1:=h1 i j hi hj hij
  have q2:=List.pairwise_iff_getElem.mp (h3 (g ns[j])) i j hi hj hij
  by_cases hlt:g ns[i] < g ns[j]
  ·exact .inl hlt
  ·have e:g ns[i]=g ns[j]:=by omega
   exact .inr ⟨e,q2 (by rw [e];simp) (by simp)⟩
theorem sorted_range {prog:Program} {w:World} {A:Around} {E:Value->Shared->Prop} {s:Shared} {r f L:Addr} {m:Str->Option Value} {n:Nat} {t u v:Tok} {Q:Value->Shared->Prop} (g:Nat->Int) (hh:A.handled=none) (hr:IsRange s.heap r 0 n 1 t u v) (hn:n<=5000) (hL:s.heap.Ns L m)
  (turn:∀(i:Nat) (t:Tok),i < n->∀(h:Heap) (tk:Nat),KeepL L m s.heap h->
   wpAny (model prog w) A.in1.in1 (call (.ref f) [.int (i:Int) t]) (SkEnd (g i) {s with heap:=h,toks:=tk}) (fun _ _=>False) {s with heap:=h,toks:=tk})
  (done:∀(D:Addr) (h':Heap) (tk:Nat) (its:List Value) (ns:List Nat) (c:Nat),KeepL L m s.heap h'->s.heap.objs.size<=D->h'.get? D=some (seqObj "list" its.toArray c)->IntsAre its (ns.map fun (z:Nat)=>(z:Int))->ns.Perm (List.range n)->Byk g ns->Q (.ref D) {s with heap:=h',toks:=tk}) :
  wpAny (model prog w) A (call (.builtin "sorted") [.ref r] [(Str.ofString "key",.ref f)]) Q E s:=by
 have hsl:5000<=sizeLine:=by decide
 refine call_function_entry_kw kind_sorted plain_sorted entry_sorted (ksk_s1 _ _) (wpAny_bind (m:=checkCount "sorted" 1 1 _) (wpAny_pure (wpAny_bind (collect_range hh hr hn fun h1 tk1 acc K1 hs0 hI=>?_))))
 have hal:acc.toList.length=n:=by rw [Array.length_toList];exact hI.1
 refine wpAny_bind (wpAny_newList ?_ (by omega))
 have hs1:s.heap.objs.size<=h1.objs.size:=Nat.le_of_lt hs0
 have hoL:(h1.push (seqObj "list" acc.toList.toArray 0)).get? h1.objs.size=some (seqObj "list" acc.toList.toArray 0):=Heap.get?_push_size _ rfl
 have K2:Keeps s.heap (h1.push (seqObj "list" acc.toList.toArray 0)):=fun b o q=>Heap.get?_push_of_some _ (K1 b o q)
 have hL2:(h1.push (seqObj "list" acc.toList.toArray 0)).Ns L m:=hL.keeps K2
 have hLs:L < s.heap.objs.size:=hL.lt
 have of:∀{h:Heap} {own:List (Addr×Obj)},Fr (Att.noObjs (h1.push (seqObj "list" acc.toList.toArray 0))) L h m->News (Att.noObjs (h1.push (seqObj "list" acc.toList.toArray 0))) L h (Att.ledger (h1.push (seqObj "list" acc.toList.toArray 0)) L h1.objs.size ++ own)->KeepL L m s.heap h:=fun {h own} F N=>
  ⟨fun b o nb q=>(N (b,o) (List.mem_append_left _ (Att.mem_ledger.mpr ⟨nb,Nat.ne_of_lt (Nat.lt_of_lt_of_le (Heap.lt_size q) hs1),K2 b o q⟩))).1,F.ns⟩
 refine wpAny_bind (wpAny_holding (wpAny_call_entry_kw slot_list_sort ⟨_,hoL,rfl⟩ entry_list_sort ?body (ksk_l1 _ _)))
 case body=>
  show wpAny (model prog w) A.in1.in1 (Builtin.«list.sort» ⟨[.ref h1.objs.size],[(Str.ofString "key",.ref f)]⟩) _ _ _
  rw [ksk_t1]
  refine ksk_sortSt (s:={s with heap:=h1.push (seqObj "list" acc.toList.toArray 0),toks:=tk1}) (news:=Att.ledger (h1.push (seqObj "list" acc.toList.toArray 0)) L h1.objs.size) (kz:=(List.range n).map g) (vs:=acc.toList) (Att.fr_all hL2) (fun p hp=>?_) hoL (Nat.ne_of_gt (Nat.lt_of_lt_of_le hLs hs1)) (Att.noObjs_get _ _) (fun p hp=>(Att.mem_ledger.mp hp).2.1) (by rw [List.length_map,List.length_range,hal]) (by omega) ?_ ?_
  ·obtain ⟨n1,_,e⟩:=Att.mem_ledger.mp hp
   exact ⟨e,n1,Att.noObjs_get _ _⟩
  ·intro i x k hx hk h tk own F N
   rw [List.getElem?_map] at hk
   have hi:i < n:=by have:=(List.getElem?_eq_some_iff.mp hx).1;omega
   rw [List.getElem?_range hi] at hk
   cases hk
   obtain ⟨t',rfl⟩:=hI.2 i x (by simpa using hx)
   refine wpAny_mono (turn i t' hi h tk (of F N)) (fun v2 s2 hq=>?_) fun _ _ z=>z
   obtain ⟨h',tk',t2,rfl,rfl,K3⟩:=hq
   exact ⟨h',tk',t2,rfl,rfl,F.kept K3,N.grown K3⟩
  ·intro h' tk out c F N ko
   refine ⟨_,rfl,wpAny_pure ⟨_,rfl,?_⟩⟩
   obtain ⟨ns,q1,q2,q3⟩:=kout_range hI ko
   have kp:KeepL L m s.heap h':=⟨fun b o nb q=>(N (b,o) (List.mem_cons_of_mem _ (Att.mem_ledger.mpr ⟨nb,Nat.ne_of_lt (Nat.lt_of_lt_of_le (Heap.lt_size q) hs1),K2 b o q⟩))).1,F.ns⟩
   exact done h1.objs.size h' tk out.toList ns c kp hs1 (N _ List.mem_cons_self).1 q1 q2 q3
end L2
namespace L2
open PySem PySem.Spec PyProof.Rows
abbrev lamPar (p0:Pos):Arguments:={posonlyargs:=[],args:=[{arg:="word",annotation:=none,pos:=p0:PySem.Arg}],vararg:=none,kwonlyargs:=[],kw_defaults:=[],kwarg:=none,defaults:=[]}
abbrev lamBody (p1 p2 p3 p4:Pos):Expr:=.UnaryOp .USub (.Subscript (.Name "scores" p1) (.Name "word" p2) p3) p4
abbrev lamScope:Scope:={kind:=.function,names:=[("word",.local),("scores",.free)],isGenerator:=false,isCoroutine:=false,more:=[]}
abbrev lamObj (qual:Str) (p0 p1 p2 p3 p4:Pos) (cc:Addr) (pm:Value) (c':Addr) (ctv:Value):Obj:=PySem.W.kla_obj "<lambda>" qual (lamPar p0) (lamBody p1 p2 p3 p4) lamScope [("scores",cc)] pm c' ctv
section
variable {prog:Program} {w:World} {A:Around} {E:Value->Shared->Prop} {s:Shared} {f c' cc a:Addr} {qual:Str} {p0 p1 p2 p3 p4:Pos} {pm ctv:Value} {its:Array Value} {j:Nat} {z:Int} {tz t:Tok}
theorem lam_turn (hroom:A.depth < recursionLimit) (lim:s.heap.NoLimit) (ho:s.heap.get? f=some (lamObj qual p0 p1 p2 p3 p4 cc pm c' ctv)) (hcd:s.heap.CodeRec (.ref c') qual) (hc:s.heap.IsCell cc (some (.ref a))) (hl:s.heap.IsList a its) (hx:(its[j]?:Option Value)=some (Value.int z tz)) (hj:j < 2 ^ 62) :
  wpAny (model prog w) A (call (.ref f) [.int (j:Int) t]) (SkEnd (-z) s) (fun _ _=>False) s:=by
 refine wpAny_call (PySem.W.kla_callFunE hroom ho rfl rfl rfl rfl hcd ?_)
 have hb:bindArgs (PySem.W.kla_fn "<lambda>" qual (lamPar p0) (lamBody p1 p2 p3 p4) lamScope [("scores",cc)] pm (.ref c') ctv) ⟨[.int (j:Int) t],[]⟩=pure ([("word",Value.int (j:Int) t)]:List (Str×Value)):=rfl
 rw [hb]
 refine wpAny_pure (wpAny_newFunctionEnv (show ∀x∈lamScope.names,x.2≠.cell by decide) (fun y hy=>by rw [List.mem_singleton.mp hy];exact (show lamScope.names.lookup ("word" : Str)=some .local by decide)) (fun h₁ hns hsb=>⟨lim.fresh _ hsb,?_⟩) rfl)
 have hk:Keeps s.heap h₁:=fun b o e=>hsb.extBut b o (Nat.ne_of_lt (Heap.lt_size e)) (Heap.get?_push_of_some _ e)
 show codeAny _ _ (.expr (lamBody p1 p2 p3 p4) (PySem.W.envX qual lamScope s.heap.objs.size f (.ref c') [("scores",cc)])) _ _
 refine PySem.W.kla_codeExpr (UnaryOp_ (Subscript_ (wpAny_Name (wpAny_loadName_free rfl rfl rfl (hc.keeps hk) ?_ (by decide)) (by decide))))
 refine wpAny_Name (wpAny_loadName_local (v:=.int (j:Int) t) rfl rfl hns rfl ?_) (by decide)
 obtain ⟨oa,ha,hac,na,had⟩:=hl
 refine item_listR (x:=.int z tz) ⟨oa,hk _ _ ha,hac,na,had⟩ (by omega) (by omega) (by simpa using hx) ?_ rfl
 exact P.neg_int ⟨h₁,_,_,rfl,rfl,hk⟩
end
def CodeO (qual:Str) (oc:Obj):Prop:=∃vs tq,oc.data=.fields vs/\vs[1]? = some (.str qual tq)
def CodeAt (qual:Str) (H:Hp) (P c':Addr):Prop:=∃oc,H c'=some (.frz oc (.own P))/\CodeO qual oc
def TabOk (qual:Str) (lp:Pos) (H:Hp) (P:Addr):Prop:=H P=some (.tbl #[])\/∃c',H P=some (.tbl #[rawInt lp.line,rawInt lp.col,.ref c'])/\CodeAt qual H P c'
def BMod (mg:Str->Option Value) (h:Heap):Prop:=∃bm ob,mg "__builtins__" = some (.ref bm)/\bm≠builtinsNs/\h.get? bm=some ob/\ob.cls=.type "module"/\ob.dict=some builtinsNs/\ob.data=.plain
def But (P:Addr) (H H':Hp):Prop:=∀b o,b≠P->H b=some o->H' b=some o
theorem But.of {P:Addr} {H H':Hp} (s:Same H H'):But P H H':=fun b o _ e=>s b o e
theorem But.trans {P:Addr} {H H1 H2:Hp} (a:But P H H1) (b:But P H1 H2):But P H H2:=fun c o n e=>b c o n (a c o n e)
theorem TabOk.some {qual:Str} {lp:Pos} {H:Hp} {P:Addr} (h:TabOk qual lp H P):∃ps,H P=some (.tbl ps):=by
 rcases h with h | ⟨c',h,_⟩
 ·exact ⟨_,h⟩
 ·exact ⟨_,h⟩
theorem TabOk.mono {qual:Str} {lp:Pos} {H H':Hp} {P:Addr} (h:TabOk qual lp H P) (s:Same H H'):TabOk qual lp H' P:=by
 rcases h with h | ⟨c',h,oc,h1,h2⟩
 ·exact .inl (s _ _ h)
 ·exact .inr ⟨c',s _ _ h,oc,s _ _ h1,h2⟩
theorem But.free {qual:Str} {lp:Pos} {P:Addr} {H H':Hp} (s:But P H H') (t:TabOk qual lp H' P) {b:Addr} (e:H' b=none):H b=none:=by
 cases q:H b with
 | none=>rfl
 | some o=>
  by_cases hb:b=P
  ·obtain ⟨ps,h⟩:=t.some
   rw [hb,h] at e
   cases e
  ·rw [s b o hb q] at e
   cases e
section
variable {X:Cx} {pins:List (Addr×Obj)} {σ:St} {H:Hp} {s:Shared}
theorem Inv.tabs {H':Hp} {h':Heap} {t':Nat} {P:Addr} {ps more:Array Value} (I:Inv X pins σ H s) (hP:H P=some (.tbl ps)) (k:∀b u,b≠P->s.heap.get? b=some u->h'.get? b=some u) (hPn:h'.get? P=some (PySem.W.tabObj (ps ++ more)))
  (sm:But P H H') (hP':H' P=some (.tbl (ps ++ more))) (nw:∀b u,H' b=some u->H b=none->s.heap.get? b=none/\ObjOk X.prog X.w H' h' b u):Inv X pins σ H' {s with heap:=h',toks:=t'}:=by
 have ne:∀{b u},H b=some u->u≠.tbl ps->b≠P:=fun {b u} e n z=>by
  rw [z,hP] at e
  exact n (Option.some.inj e).symm
 have un:Un X.fs [] H H' s.heap h':=by
  refine {keep:=?_,slot:=?_,free:=?_,there:=?_,tups:=?_,frzs:=?_,tbls:=?_}
  ·exact fun b u q n _ _=>k b u (fun z=>by rw [z,hP] at n;cases n) q
  ·exact fun b u q n _ _=>⟨u.slots,k b u (fun z=>by rw [z,hP] at n;cases n) q⟩
  ·intro b u q n _
   cases e:H' b with
   | none=>rfl
   | some v=>
    have:=(nw b v e n).1
    rw [q] at this
    cases this
  ·intro b u q _
   by_cases hb:b=P
   ·exact ⟨_,by rw [hb];exact hPn⟩
   ·exact ⟨u,k b u hb q⟩
  ·exact fun b xs q=>sm b _ (ne q (fun z=>by cases z)) q
  ·exact fun b o xs q=>sm b _ (ne q (fun z=>by cases z)) q
  ·intro b qs q
   by_cases hb:b=P
   ·rw [hb,hP] at q
    cases q
    exact ⟨more,by rw [hb];exact hP'⟩
   ·exact ⟨#[],by rw [sm b _ hb q];simp⟩
 refine I.un un fun b u e=>?_
 cases q:H b with
 | none=>exact (nw b u e q).2
 | some v=>
  by_cases hb:b=P
  ·rw [hb,hP'] at e
   cases e
   rw [hb]
   exact hPn
  ·rw [sm b v hb q] at e
   cases e
   refine (I.hok b _ q).stay (fun c x hc r=>k c x ?_ r) (fun c r=>sm c _ (ne r (fun z=>by cases z)) r) fun c xs r=>sm c _ (ne r (fun z=>by cases z)) r
   rcases hc with rfl | hc
   ·exact hb
   ·exact ne hc (fun z=>by cases z)
variable {p0 p1 p2 p3 p4 lp kp:Pos} {c P cc:Addr} {qual:Str}
def LamAt (qual:Str) (p0 p1 p2 p3 p4:Pos) (cc P:Addr) (H:Hp) (f:Addr):Prop:=∃pm c' ctv,H f=some (.frz (lamObj qual p0 p1 p2 p3 p4 cc pm c' ctv) (.own P))/\CodeAt qual H P c'
def tLam (qual:Str) (p0 p1 p2 p3 p4 lp:Pos) (cc P:Addr):TE:=fun _ H Q=>TabOk qual lp H P/\∀f H',H f=none->But P H H'->TabOk qual lp H' P->LamAt qual p0 p1 p2 p3 p4 cc P H' f->Q (.ref f) H'
theorem pe_lam (hcode:X.env.code=.ref c) (hC:∀h:Heap,X.K.In h->PySem.W.CodeHd h c P) (hB:BMod X.mg X.base) (hq:X.env.qual ++ "<lambda>" = qual) (hcl:closureFor lamScope X.env=pure ([("scores",cc)]:List (Str×Addr))) :
  PE X (.Lambda (lamPar p0) (lamBody p1 p2 p3 p4) lamScope lp) (tLam qual p0 p1 p2 p3 p4 lp cc P):=by
 intro pins s σ H Q I h
 obtain ⟨tab,q⟩:=h
 refine PySem.W.kla_eval rfl ?_
 rw [hq]
 have hns:s.heap.Ns mainGlobals X.mg:=I.mod.glob.keeps I.bk
 obtain ⟨ps0,hP0⟩:=tab.some
 obtain ⟨bm,ob,b1,b2,b3,b4,b5,b6⟩:=hB
 have gP:mainGlobals≠P:=fun z=>by
  obtain ⟨o,es,ep,e,_⟩:=I.mod.glob
  have:=(I.bs _ _ e).2
  rw [z,hP0] at this
  cases this
 have bP:bm≠P:=fun z=>by
  have:=(I.bs _ _ b3).2
  rw [z,hP0] at this
  cases this
 have bG:bm≠mainGlobals:=fun z=>by
  obtain ⟨o,es,ep,e,hd,_⟩:=I.mod.glob
  rw [z,e] at b3
  cases b3
  rw [hd] at b6
  cases b6
 have BA:s.heap.BuiltinsAt X.mg P:=⟨bm,ob,b1,b2,bG,bP,I.bk _ _ b3,b4,b5,b6⟩
 have CH:=hC _ I.kIn
 rcases tab with hP | ⟨c1,hP,oc,hc1,hco⟩
 ·have hPh:s.heap.get? P=some (PySem.W.tabObj #[]):=I.hok P _ hP
  refine PySem.W.kla_makeFunction hcl I.ok.glob hns hcode CH hPh trivial rfl gP BA fun c' ctv h' tk hx hge hlt hrec htb=>?_
  obtain ⟨c2,oc,vs,tq,e2,hoc,hd,hv⟩:=hrec
  cases e2
  have nc:H c'=none:=I.hok.fresh hge
  have nf:H h'.objs.size=none:=I.hok.fresh (Nat.le_trans hge (Nat.le_of_lt hlt))
  have ncf:c'≠h'.objs.size:=Nat.ne_of_lt hlt
  have nPc:P≠c':=ne_of_none hP nc
  have nPf:P≠h'.objs.size:=ne_of_none hP nf
  refine ⟨.ref h'.objs.size,upd (upd (upd H P (.tbl (#[] ++ #[rawInt lp.line,rawInt lp.col,.ref c']))) c' (.frz oc (.own P))) h'.objs.size (.frz (lamObj qual p0 p1 p2 p3 p4 cc ((X.mg "__name__").getD .none) c' ctv) (.own P)),?_,rfl,?_⟩
  ·refine I.tabs (t':=tk) hP (fun b u hb e=>Heap.get?_push_of_some _ (hx b u hb e)) (Heap.get?_push_of_some _ htb) (fun b o hb e=>?_) ?_ fun b u e n=>?_
   ·rw [upd_ne (ne_of_none e nf),upd_ne (ne_of_none e nc),upd_ne hb];exact e
   ·rw [upd_ne nPf,upd_ne nPc,upd_same]
   ·by_cases hb:b=h'.objs.size
    ·subst hb
     rw [upd_same] at e
     cases e
     exact ⟨Heap.get?_none_of_le (Nat.le_trans hge (Nat.le_of_lt hlt)),Heap.get?_push_size _ rfl,_,Heap.get?_push_size _ rfl⟩
    ·rw [upd_ne hb] at e
     by_cases hb2:b=c'
     ·subst hb2
      rw [upd_same] at e
      cases e
      exact ⟨Heap.get?_none_of_le hge,Heap.get?_push_of_some _ hoc,_,Heap.get?_push_of_some _ hoc⟩
     ·rw [upd_ne hb2] at e
      by_cases hb3:b=P
      ·rw [hb3,hP] at n
       cases n
      ·rw [upd_ne hb3,n] at e
       cases e
  ·have hc':CodeAt qual (upd (upd (upd H P (.tbl (#[] ++ #[rawInt lp.line,rawInt lp.col,.ref c']))) c' (.frz oc (.own P))) h'.objs.size (.frz (lamObj qual p0 p1 p2 p3 p4 cc ((X.mg "__name__").getD .none) c' ctv) (.own P))) P c':=
    ⟨oc,by rw [upd_ne ncf,upd_same],vs,tq,hd,hv⟩
   refine q _ _ nf (fun b o hb e=>?_) (.inr ⟨c',?_,hc'⟩) ⟨_,c',ctv,upd_same,hc'⟩
   ·rw [upd_ne (ne_of_none e nf),upd_ne (ne_of_none e nc),upd_ne hb];exact e
   ·rw [upd_ne nPf,upd_ne nPc,upd_same];rfl
 ·have hPh:s.heap.get? P=some (PySem.W.tabObj #[rawInt lp.line,rawInt lp.col,.ref c1]):=I.hok P _ hP
  have hf:codeAmong lp [rawInt lp.line,rawInt lp.col,.ref c1]=some (.ref c1):=by simp [codeAmong,rawInt]
  refine PySem.W.kla_makeFunctionHit hcl I.ok.glob hns hcode CH hPh trivial hf BA fun ctv h' tk hk hsz=>?_
  have nf:H h'.objs.size=none:=I.hok.fresh hsz
  refine ⟨.ref h'.objs.size,upd H h'.objs.size (.frz (lamObj qual p0 p1 p2 p3 p4 cc ((X.mg "__name__").getD .none) c1 ctv) (.own P)),?_,rfl,?_⟩
  ·exact I.laid (fun b u e=>Heap.get?_push_of_some _ (hk b u e)) hsz ⟨Heap.get?_push_size _ rfl,_,Heap.get?_push_size _ rfl⟩
  ·have sm:Same H (upd H h'.objs.size (.frz (lamObj qual p0 p1 p2 p3 p4 cc ((X.mg "__name__").getD .none) c1 ctv) (.own P))):=fun b o e=>by rw [upd_ne (ne_of_none e nf)];exact e
   exact q _ _ nf (But.of sm) (TabOk.mono (.inr ⟨c1,hP,oc,hc1,hco⟩) sm) ⟨_,c1,ctv,upd_same,oc,sm _ _ hc1,hco⟩
def rRng:List V->Hp->VK->Prop:=fun vs H Q=>∃n:Nat,vs=[.int (n:Int)]/\∀r,H r=none->Q (.ref r) (upd H r (.rng 0 n))
theorem call_rng:CallR X (.type "range") rRng:=by
 intro pins s σ H vs us Q I r h
 obtain ⟨n,rfl,q⟩:=h
 obtain ⟨u,rfl,ru⟩:=vals1 r
 obtain ⟨t,rfl⟩:=ru
 refine call_range_1 ?_
 have hf:H s.heap.objs.size=none:=I.hok.fresh (Nat.le_refl _)
 exact ⟨.ref s.heap.objs.size,_,I.laid (o:=.rng 0 n) (fun b u e=>Heap.get?_push_of_some _ e) (Nat.le_refl _) (by exact ⟨_,_,_,Heap.get?_push_size _ rfl⟩),rfl,q _ hf⟩
def PostO (K:PySem.W.Frag) (qual:Str) (lp:Pos) (P:Addr) (i:Nat) (σ:St) (Q:VK) (vs:List V) (H:Hp):Prop:=∃(r:Addr) (n:Nat) (a:Addr) (zs:List Int),vs=[.ref r]/\H r=some (.rng 0 n)/\n<=5000/\σ[i]? = some (some (.ref a))/\SqL K H a (zs.map V.int)/\zs.length=n/\TabOk qual lp H P/\
 ∀D H' ns,H D=none->But P H H'->TabOk qual lp H' P->H' D=some (.lst (ns.map fun (z:Nat)=>V.int (z:Int)))->ns.Perm (List.range n)->Byk (fun x=>-(zs.getD x 0)) ns->Q (.ref D) H'
def tOrd (K:PySem.W.Frag) (qual:Str) (lp:Pos) (P:Addr) (i:Nat) (te:TE):TE:=fun σ H Q=>tCons (tCB rRng (tCons te tNil)) tNil σ H (PostO K qual lp P i σ Q)
theorem pe_ord {i:Nat} {e:Expr} {te:TE} {p q rp pos:Pos} (hcalm:X.calm=true) (hr:Room 1 X.A) (hgs:Gl X "sorted") (hms:X.mg "sorted" = none) (hgr:Gl X "range") (hmr:X.mg "range" = none) (hN:X.N[i]? = some "scores") (hkc:X.env.kindOf "scores" = some .cell) (hvis:Vis X.env.scope "scores") (hcc:X.env.cells.lookup ("scores" : Str)=some cc)
  (hcode:X.env.code=.ref c) (hC:∀h:Heap,X.K.In h->PySem.W.CodeHd h c P) (hB:BMod X.mg X.base) (hq:X.env.qual ++ "<lambda>" = qual) (hcl:closureFor lamScope X.env=pure ([("scores",cc)]:List (Str×Addr))) (ha:PE X e te)
  (h1:starEach [e] X.env=[(false,eval e X.env)]:=by rfl) (h2:starEach [Expr.Call (.Name "range" q) [e] [] rp] X.env=[(false,eval (Expr.Call (.Name "range" q) [e] [] rp) X.env)]:=by rfl) :
  PE X (.Call (.Name "sorted" p) [.Call (.Name "range" q) [e] [] rp] [⟨some "key",.Lambda (lamPar p0) (lamBody p1 p2 p3 p4) lamScope lp,kp⟩] pos) (tOrd X.K qual lp P i te):=by
 intro pins s σ H Q I h
 refine wpAny_Call_Name_kw (ld_blt I hgs hms boot_sorted ?_)
 have he2:backTo pos (starEach [Expr.Call (.Name "range" q) [e] [] rp] X.env)=(false,eval (Expr.Call (.Name "range" q) [e] [] rp) X.env) :: backTo pos (starEach [] X.env):=by rw [h2];rfl
 refine callWith_kw (env:=X.env) ?_ he2 (by rw [h2];rfl) rfl rfl
 have hrg:PE X (.Call (.Name "range" q) [e] [] rp) (tCB rRng (tCons te tNil)):=pe_callTy call_rng hgr hmr boot_range (pa_cons ha pa_nil (by rw [h1];rfl)) (by decide) (by decide) (by rw [h1];rfl) rfl
 refine thn (pa_cons hrg pa_nil (by rw [h2];rfl) pos pins s σ H _ I h) fun us s1 ⟨vs,H1,I1,rv,r,n,a,zs,e0,hrn,hn,hσ,hz,hzl,htab,q1⟩=>?_
 subst e0
 obtain ⟨u,rfl,ru⟩:=vals1 rv
 obtain rfl:u=Value.ref r:=ru
 refine thn (pk_cons (pe_lam hcode hC hB hq hcl) pk_nil pos pins s1 σ H1 (fun ws H2=>∃f,ws=[.ref f]/\But P H1 H2/\TabOk qual lp H2 P/\LamAt qual p0 p1 p2 p3 p4 cc P H2 f) I1 ⟨htab,fun f H2 _ b t l=>⟨f,rfl,b,t,l⟩⟩) fun ws s2 ⟨zs',H2,I2,rw',f,e0,hbt,htab2,pm,c',ctv,hf,oc,hc',vsc,tq,hd,hv⟩=>?_
 subst e0
 obtain ⟨uf,rfl,ruf⟩:=vals1 rw'
 obtain rfl:uf=Value.ref f:=ruf
 have notP:∀{b:Addr} {o:HO},H1 b=some o->(∀ps,o≠.tbl ps)->b≠P:=fun {b o} e n z=>by
  obtain ⟨ps,hp⟩:=htab.some
  rw [z,hp] at e
  exact n ps (Option.some.inj e).symm
 have hr2:H2 r=some (.rng 0 n):=hbt _ _ (notP hrn fun _ z=>by cases z) hrn
 obtain ⟨tr,ur,vr,hrh⟩:=(show ObjOk X.prog X.w H2 s2.heap r (.rng 0 n) from I2.hok r _ hr2)
 have hz2:SqL X.K H2 a (zs.map V.int):=by
  rcases hz with (z | ⟨o,z⟩) | z
  ·exact .inl (.inl (hbt _ _ (notP z fun _ z=>by cases z) z))
  ·exact .inl (.inr ⟨o,hbt _ _ (notP z fun _ z=>by cases z) z⟩)
  ·exact .inr z
 obtain ⟨fh,_⟩:=(show ObjOk X.prog X.w H2 s2.heap f (.frz _ (.own P)) from I2.hok f _ hf)
 obtain ⟨ch,_⟩:=(show ObjOk X.prog X.w H2 s2.heap c' (.frz _ (.own P)) from I2.hok c' _ hc')
 have hcell:s2.heap.IsCell cc (some (.ref a)):=by
  obtain ⟨m,hm,hl⟩:=I2.loc
  obtain ⟨u,ru,lk⟩:=hl i "scores" (.ref a) hN hσ hvis
  obtain rfl:u=Value.ref a:=ru
  rcases lk with ⟨k,_⟩ | ⟨_,c0,e0,hc0⟩
  ·rw [hkc] at k
   cases k
  ·rw [hcc] at e0
   cases e0
   exact hc0
 obtain ⟨its,rv2,pl,hsz⟩:=I2.list hz2
 obtain ⟨mL,hmL,_⟩:=id I2.loc
 have neL:∀{b o},H2 b=some o->b≠X.env.locals:=fun e z=>by rw [z,I2.free] at e;cases e
 refine sorted_range (fun x=>-(zs.getD x 0)) (I2.ok.hd hcalm) hrh hn hmL (fun j t hj h tk Kh=>?_) fun D h' tk its' ns c0 Kh hD hobj hints hperm hbyk=>?_
 ·obtain ⟨z,hzj⟩:∃z,zs[j]? = some z:=⟨zs[j]'(by omega),by simp [show j < zs.length by omega]⟩
  have e1:zs.getD j 0=z:=by rw [List.getD_eq_getElem?_getD,hzj];rfl
  obtain ⟨u,hu,tz,rfl⟩:=rv2.get (i:=j) (x:=.int z) (by rw [List.getElem?_map,hzj];rfl)
  rw [e1]
  obtain ⟨oa,hoa,hac,na,had⟩:=pl.isList
  have hd':X.A.in1.in1.depth < recursionLimit:=hr.depth
  have aL:a≠X.env.locals:=fun zz=>by
   obtain ⟨o,es,ep,e3,e4,_⟩:=hmL
   rw [<-zz,hoa] at e3
   cases e3
   rw [had] at e4
   cases e4
  have bL:∀b o,X.base.get? b=some o->h.get? b=some o:=fun b o e=>Kh.k b o (fun zz=>by
   have:=(I2.ok.bs b o e).1
   exact absurd (Heap.lt_size this) (by rw [zz];exact Nat.not_lt.mpr I2.ok.above)) (I2.bk b o e)
  have hcell':h.IsCell cc (some (.ref a)):=by
   obtain ⟨o,ho,hdc⟩:=hcell
   exact ⟨o,Kh.k cc o (I2.cne _ _ hcc) ho,hdc⟩
  exact lam_turn (s:={s2 with heap:=h,toks:=tk}) (cc:=cc) (a:=a) hd' (I2.ok.mod.nolimit.keeps bL) (Kh.k _ _ (neL hf) fh) ⟨c',oc,vsc,tq,rfl,Kh.k _ _ (neL hc') ch,hd,hv⟩ hcell' ⟨oa,Kh.k _ _ aL hoa,hac,na,had⟩ (by simpa using hu) (by omega)
 ·have hlen:ns.length=n:=by rw [hperm.length_eq,List.length_range]
  have hDn:H2 D=none:=I2.hok.fresh hD
  have hsl:5000<=sizeLine:=by decide
  have sD:Same H2 (upd H2 D (.lst (ns.map fun (z:Nat)=>V.int (z:Int)))):=fun b o e=>by rw [upd_ne (ne_of_none e hDn)];exact e
  refine ⟨.ref D,upd H2 D (.lst (ns.map fun (z:Nat)=>V.int (z:Int))),I2.step (g':=s2.gens) (d':=s2.drawn) (ch:=[]) (fun _ z=>nomatch z) (fun b o nL _ _ e _=>Kh.k b o nL e) (fun b o nL _ _ e _=>⟨o.slots,Kh.k b o nL e⟩) (fun b o _ e nb=>?_) (fun b o _ e=>?_) (fun b xs e=>sD _ _ e) (fun b o u e=>sD _ _ e) (fun b ps e=>⟨#[],by rw [sD _ _ e];simp⟩) (fun m' hm'=>?_) (fun b u e=>?_) I2.bare,rfl,q1 D _ ns (hbt.free htab2 hDn) (hbt.trans (But.of sD)) (htab2.mono sD) upd_same hperm hbyk⟩
  ·rw [upd_ne (Nat.ne_of_lt (Nat.lt_of_lt_of_le (Heap.lt_size e) hD))]
   exact nb
  ·by_cases nL:b=X.env.locals
   ·obtain ⟨o',_,_,e',_⟩:=Kh.ns
    exact ⟨o',by rw [nL];exact e'⟩
   ·exact ⟨o,Kh.k b o nL e⟩
  ·rw [hm'.eq_nsMap,<-hmL.eq_nsMap]
   exact Kh.ns
  ·by_cases hb:b=D
   ·subst hb
    rw [upd_same] at e
    cases e
    refine ⟨by rw [List.length_map];omega,its',c0,?_,hobj⟩
    have:=vals_ints hints
    rw [List.map_map] at this
    exact this
   ·rw [upd_ne hb] at e
    refine (I2.hok b u e).stay (fun c v hc q=>Kh.k c v ?_ q) (fun c q=>sD _ _ q) fun c xs q=>sD _ _ q
    rcases hc with rfl | hc
    ·exact neL e
    ·exact neL hc
end
end L2
namespace GM
open Ql89
def Run {α:Type} (m:R α) (l:Bytes) (p:Nat) (ok:α->Nat->Prop) (bad:Nat->Nat->Prop):Prop:=
 match m l p with
 | .error f=>bad f.place f.kind
 | .ok x=>ok x.1 x.2
section
variable {α β:Type} {l:Bytes} {p:Nat} {bad:Nat->Nat->Prop}
theorem run_bind (m:R α) (k:α->R β) {ok:β->Nat->Prop}:Run (m >>= k) l p ok bad↔Run m l p (fun x p'=>Run (k x) l p' ok bad) bad:=by
 show Run (fun l p=>(ReaderT.bind m k l:StateT Nat (Except Fault) β) p) l p ok bad↔_
 simp only [Run,ReaderT.bind,bind,StateT.bind,Except.bind]
 cases m l p <;> rfl
theorem run_here {ok:Nat->Nat->Prop}:Run here l p ok bad↔ok p p:=Iff.rfl
theorem run_num {w:Nat} {ok:Nat->Nat->Prop}:Run (num w) l p ok bad↔if l.length < p + w then bad l.length 1 else ok (value ((l.drop p).take w)) (p + w):=by
 unfold Run num
 by_cases h:l.length < p + w
 ·simp only [h,if_true]
 ·simp only [h,if_false]
theorem run_mono {m:R α} {ok ok':α->Nat->Prop} {bad':Nat->Nat->Prop} (h:Run m l p ok bad) (h1:∀x q,ok x q->ok' x q) (h2:∀a b,bad a b->bad' a b):Run m l p ok' bad':=by
 unfold Run at h |-
 cases e:m l p with
 | error f=>rw [e] at h;exact h2 _ _ h
 | ok x=>rw [e] at h;exact h1 _ _ h
theorem run_ite {c:Prop} [Decidable c] {m n:R α} {ok:α->Nat->Prop}:Run (if c then m else n) l p ok bad↔if c then Run m l p ok bad else Run n l p ok bad:=by
 by_cases h:c
 ·rw [if_pos h,if_pos h]
 ·rw [if_neg h,if_neg h]
theorem run_numIn {w lo hi:Nat} {ok:Nat->Nat->Prop}:Run (numIn w lo hi) l p ok bad↔Run (num w) l p (fun x q=>if lo<=x/\x<=hi then ok x q else bad p 2) bad:=by
 unfold numIn
 rw [run_bind,run_here,run_bind]
 constructor
 ·intro h
  refine run_mono h (fun x q h=>?_) fun _ _ h=>h
  rw [run_ite] at h
  exact h
 ·intro h
  refine run_mono h (fun x q h=>?_) fun _ _ h=>h
  rw [run_ite]
  exact h
theorem run_signedIn {w:Nat} {lo hi:Int} {ok:Int->Nat->Prop}:Run (signedIn w lo hi) l p ok bad↔Run (num w) l p (fun x q=>if lo<=signed (8 * w) x/\signed (8 * w) x<=hi then ok (signed (8 * w) x) q else bad p 2) bad:=by
 unfold signedIn
 rw [run_bind,run_here,run_bind]
 constructor
 ·intro h
  refine run_mono h (fun x q h=>?_) fun _ _ h=>h
  rw [run_ite] at h
  exact h
 ·intro h
  refine run_mono h (fun x q h=>?_) fun _ _ h=>h
  rw [run_ite]
  exact h
theorem run_each_nil {ok:List α->Nat->Prop}:Run (each ([]:List (R α))) l p ok bad↔ok [] p:=Iff.rfl
theorem run_each_cons {r:R α} {rs:List (R α)} {ok:List α->Nat->Prop}:Run (each (r :: rs)) l p ok bad↔Run r l p (fun x q=>Run (each rs) l q (fun y q'=>ok (x :: y) q') bad) bad:=by
 show Run (r >>= fun x=>each rs >>= fun y=>pure (x :: y)) l p ok bad↔_
 rw [run_bind]
 constructor
 ·intro h
  refine run_mono h (fun x q h=>?_) fun _ _ h=>h
  rw [run_bind] at h
  exact h
 ·intro h
  refine run_mono h (fun x q h=>?_) fun _ _ h=>h
  rw [run_bind]
  exact h
end
def sparse (off:Nat):List Int->List (Int×Int)
 | []=>[]
 | x :: r=>if x=0 then sparse (off + 1) r else ((off:Int),x) :: sparse (off + 1) r
theorem sparse_append (a b:List Int):∀off,sparse off (a ++ b)=sparse off a ++ sparse (off + a.length) b:=by
 induction a with
 | nil=>intro off;simp [sparse]
 | cons x r ih=>
  intro off
  have e:off + (x :: r).length=off + 1 + r.length:=by simp;omega
  rw [e]
  by_cases h:x=0
  ·simp only [List.cons_append,sparse,h,if_true,ih]
  ·simp only [List.cons_append,sparse,h,if_false,ih]
theorem sparse_zeros:∀n off,sparse off (List.replicate n 0)=[]
 | 0,_=>rfl
 | n + 1,off=>by rw [List.replicate_succ];simp only [sparse,if_true];exact sparse_zeros n (off + 1)
theorem sparse_snoc0 (a:List Int) (off:Nat):sparse off (a ++ [0])=sparse off a:=by rw [sparse_append];simp [sparse]
theorem sparse_snoc (a:List Int) (off:Nat) {x:Int} (h:x≠0):sparse off (a ++ [x])=sparse off a ++ [(((off + a.length:Nat):Int),x)]:=by rw [sparse_append];simp [sparse,h]
theorem sparse_le:∀(r:List Int) off,(sparse off r).length<=r.length
 | [],_=>Nat.le_refl _
 | x :: r,off=>by
  have ih:=sparse_le r (off + 1)
  by_cases h:x=0
  ·simp only [sparse,h,if_true,List.length_cons];omega
  ·simp only [sparse,h,if_false,List.length_cons];omega
def cells (m w j:Nat):R (List Int):=each ((List.range' j (w - j)).map (readCell m))
theorem cells_zero (m w:Nat):each ((List.range w).map (readCell m))=cells m w 0:=by
 unfold cells;rw [List.range_eq_range',Nat.sub_zero]
section
variable {l:Bytes} {p:Nat} {bad:Nat->Nat->Prop} {ok:List Int->Nat->Prop} {m w j:Nat}
theorem run_cells_end (h:¬j < w):Run (cells m w j) l p ok bad↔ok [] p:=by
 have e:w - j=0:=by omega
 unfold cells;rw [e]
 exact run_each_nil
theorem run_cells_step (h:j < w):Run (cells m w j) l p ok bad↔Run (readCell m j) l p (fun x q=>Run (cells m w (j + 1)) l q (fun y q'=>ok (x :: y) q') bad) bad:=by
 have e:w - j=(w - (j + 1)) + 1:=by omega
 unfold cells;rw [e,List.range'_succ,List.map_cons]
 exact run_each_cons
theorem run_cell_no (h:m.testBit j=false) {ok:Int->Nat->Prop}:Run (readCell m j) l p ok bad↔ok 0 p:=by
 unfold readCell;rw [if_pos h];exact Iff.rfl
theorem run_cell_yes (h:m.testBit j=true) {ok:Int->Nat->Prop}:Run (readCell m j) l p ok bad↔Run (num 1) l p (fun x q=>if x=0 then bad p 3 else ok (signed 8 x) q) bad:=by
 unfold readCell;rw [if_neg (by simp [h]),run_bind,run_here,run_bind]
 constructor
 ·intro h
  refine run_mono h (fun x q h=>?_) fun _ _ h=>h
  rw [run_ite] at h
  exact h
 ·intro h
  refine run_mono h (fun x q h=>?_) fun _ _ h=>h
  rw [run_ite]
  exact h
theorem bit_half (m j:Nat):m.testBit j=decide (m / 2 ^ j % 2=1):=by
 rw [Nat.testBit_eq_decide_div_mod_eq]
theorem run_cells_none (h:m / 2 ^ j=0):∀n,n=w - j->(Run (cells m w j) l p ok bad↔ok (List.replicate (w - j) 0) p):=by
 intro n
 induction n generalizing j ok with
 | zero=>
  intro e
  rw [run_cells_end (by omega),<-e]
  exact Iff.rfl
 | succ n ih=>
  intro e
  have hb:m.testBit j=false:=by rw [bit_half,h];simp
  have h':m / 2 ^ (j + 1)=0:=by rw [Nat.pow_succ,<-Nat.div_div_eq_div_mul,h]
  rw [run_cells_step (by omega),run_cell_no hb,ih h' (by omega)]
  have e2:w - j=(w - (j + 1)) + 1:=by omega
  rw [e2,List.replicate_succ]
end
def blks (cols k:Nat):R (List (List Int)):=each ((List.range' k (blocks cols - k)).map fun (k:Nat)=>readChunk (min 64 (cols - 64 * k)))
section
variable {l:Bytes} {p:Nat} {bad:Nat->Nat->Prop} {cols k:Nat}
theorem run_row {ok:List Int->Nat->Prop}:Run (readRow cols) l p ok bad↔Run (blks cols 0) l p (fun x q=>ok x.flatten q) bad:=by
 unfold readRow
 rw [run_bind]
 unfold blks
 rw [List.range_eq_range',Nat.sub_zero]
 exact Iff.rfl
theorem run_blks_end {ok:List (List Int)->Nat->Prop} (h:¬k < blocks cols):Run (blks cols k) l p ok bad↔ok [] p:=by
 have e:blocks cols - k=0:=by omega
 unfold blks;rw [e]
 exact run_each_nil
theorem run_blks_step {ok:List (List Int)->Nat->Prop} (h:k < blocks cols):Run (blks cols k) l p ok bad↔Run (readChunk (min 64 (cols - 64 * k))) l p (fun x q=>Run (blks cols (k + 1)) l q (fun y q'=>ok (x :: y) q') bad) bad:=by
 have e:blocks cols - k=(blocks cols - (k + 1)) + 1:=by omega
 unfold blks;rw [e,List.range'_succ,List.map_cons]
 exact run_each_cons
theorem run_chunk {w:Nat} {ok:List Int->Nat->Prop}:Run (readChunk w) l p ok bad↔Run (num 8) l p (fun m q=>if 2 ^ w<=m then bad p 4 else Run (cells m w 0) l q ok bad) bad:=by
 unfold readChunk
 rw [run_bind,run_here,run_bind]
 constructor
 ·intro h
  refine run_mono h (fun x q h=>?_) fun _ _ h=>h
  rw [run_ite,cells_zero] at h
  exact h
 ·intro h
  refine run_mono h (fun x q h=>?_) fun _ _ h=>h
  rw [run_ite,cells_zero]
  exact h
end
def rws (n:Nat) (cols:Nat):R (List (List Int)):=times_ n (readRow cols)
section
variable {l:Bytes} {p:Nat} {bad:Nat->Nat->Prop} {cols n:Nat} {ok:List (List Int)->Nat->Prop}
theorem run_rws_zero:Run (rws 0 cols) l p ok bad↔ok [] p:=run_each_nil
theorem run_rws_succ:Run (rws (n + 1) cols) l p ok bad↔Run (readRow cols) l p (fun x q=>Run (rws n cols) l q (fun y q'=>ok (x :: y) q') bad) bad:=by
 unfold rws times_;rw [List.replicate_succ];exact run_each_cons
theorem run_matrix {ok:Matrix->Nat->Prop}:Run readMatrix l p ok bad↔Run (num 2) l p (fun r q=>if 1<=r/\r<=4096 then Run (num 2) l q (fun c q'=>if 1<=c/\c<=4096 then (if 1048576 < r * c then bad q 2 else Run (rws r c) l q' (fun x q''=>ok ⟨r,c,x⟩ q'') bad) else bad q 2) bad else bad p 2) bad:=by
 unfold readMatrix
 rw [run_bind,run_numIn]
 constructor
 ·intro h
  refine run_mono h (fun r q h=>?_) fun _ _ h=>h
  by_cases c1:1<=r/\r<=4096
  ·have c1':1<=r/\r<=SIDE:=c1
   rw [if_pos c1'] at h;rw [if_pos c1]
   rw [run_bind,run_here,run_bind,run_numIn] at h
   refine run_mono h (fun c q' h=>?_) fun _ _ h=>h
   by_cases c2:1<=c/\c<=4096
   ·have c2':1<=c/\c<=SIDE:=c2
    rw [if_pos c2'] at h;rw [if_pos c2]
    rw [run_ite] at h
    by_cases c3:1048576 < r * c
    ·have c3':PLACES < r * c:=c3
     rw [if_pos c3'] at h;rw [if_pos c3];exact h
    ·have c3':¬PLACES < r * c:=c3
     rw [if_neg c3'] at h;rw [if_neg c3]
     rw [run_bind] at h
     exact h
   ·have c2':¬(1<=c/\c<=SIDE):=c2
    rw [if_neg c2'] at h;rw [if_neg c2];exact h
  ·have c1':¬(1<=r/\r<=SIDE):=c1
   rw [if_neg c1'] at h;rw [if_neg c1];exact h
 ·intro h
  refine run_mono h (fun r q h=>?_) fun _ _ h=>h
  by_cases c1:1<=r/\r<=4096
  ·have c1':1<=r/\r<=SIDE:=c1
   rw [if_pos c1'] ;rw [if_pos c1] at h
   rw [run_bind,run_here,run_bind,run_numIn]
   refine run_mono h (fun c q' h=>?_) fun _ _ h=>h
   by_cases c2:1<=c/\c<=4096
   ·have c2':1<=c/\c<=SIDE:=c2
    rw [if_pos c2'];rw [if_pos c2] at h
    rw [run_ite]
    by_cases c3:1048576 < r * c
    ·have c3':PLACES < r * c:=c3
     rw [if_pos c3'];rw [if_pos c3] at h;exact h
    ·have c3':¬PLACES < r * c:=c3
     rw [if_neg c3'];rw [if_neg c3] at h
     rw [run_bind]
     exact h
   ·have c2':¬(1<=c/\c<=SIDE):=c2
    rw [if_neg c2'];rw [if_neg c2] at h;exact h
  ·have c1':¬(1<=r/\r<=SIDE):=c1
   rw [if_neg c1'];rw [if_neg c1] at h;exact h
end
def val (l:List Int):Int:=l.foldr (fun (b n:Int)=>b + 256 * n) 0
theorem val_fold (l:List Int):l.reverse.foldl (fun (n b:Int)=>n * 256 + b) 0=val l:=by
 unfold val
 rw [List.foldl_reverse]
 congr 1
 funext b n
 omega
def isByte (z:Int):Prop:=0<=z/\z<=255
theorem val_octets:∀(l:List Int),(∀z∈l,isByte z)->val l=((value (Ql89Neutral.octets l):Nat):Int)
 | [],_=>rfl
 | z :: r,h=>by
  have ih:=val_octets r fun y hy=>h y (List.mem_cons_of_mem _ hy)
  obtain ⟨h1,h2⟩:=h z List.mem_cons_self
  have e:((UInt8.ofNat z.toNat).toNat:Int)=z:=by
   have:(UInt8.ofNat z.toNat).toNat=z.toNat % 256:=UInt8.toNat_ofNat'
   rw [this];omega
  show z + 256 * val r=(((UInt8.ofNat z.toNat).toNat + 256 * value (Ql89Neutral.octets r):Nat):Int)
  rw [ih]
  omega
theorem octets_slice (s:List Int) (p w:Nat):((Ql89Neutral.octets s).drop p).take w=Ql89Neutral.octets ((s.drop p).take w):=by
 unfold Ql89Neutral.octets
 rw [<-List.map_drop,<-List.map_take]
theorem octets_length (s:List Int):(Ql89Neutral.octets s).length=s.length:=by unfold Ql89Neutral.octets;simp
theorem value_lt:∀(l:Bytes),value l < 256 ^ l.length
 | []=>by decide
 | b :: r=>by
  have ih:=value_lt r
  have hb:=b.toNat_lt
  show b.toNat + 256 * value r < 256 ^ (r.length + 1)
  rw [Nat.pow_succ]
  omega
theorem whole_run {α:Type} (r:R α) (l:Bytes) (P:Except Fault α->Prop):P (whole r l)↔Run r l 0 (fun x p=>if p < l.length then P (.error ⟨p,5⟩) else P (.ok x)) (fun a b=>P (.error ⟨a,b⟩)):=by
 unfold Run whole
 cases h:r l 0 with
 | error f=>exact Iff.rfl
 | ok x=>
  by_cases c:x.2 < l.length
  ·simp only [c,if_true]
  ·simp only [c,if_false]
end GM
namespace GM
open Ql89
section
variable {α β:Type} {l:Bytes} {p:Nat} {bad:Nat->Nat->Prop}
theorem run_num_lt {w:Nat} {ok:Nat->Nat->Prop} (h:Run (num w) l p ok bad):Run (num w) l p (fun x q=>x < 256 ^ w/\ok x q) bad:=by
 rw [run_num] at h |-
 split
 ·rename_i c
  rw [if_pos c] at h
  exact h
 ·rename_i c
  rw [if_neg c] at h
  refine ⟨?_,h⟩
  have z:=value_lt ((l.drop p).take w)
  have e:((l.drop p).take w).length=w:=by rw [List.length_take,List.length_drop];omega
  rw [e] at z
  exact z
theorem run_each_len (rs:List (R α)):∀{p:Nat} {ok:List α->Nat->Prop},Run (each rs) l p ok bad->Run (each rs) l p (fun x q=>x.length=rs.length/\ok x q) bad:=by
 induction rs with
 | nil=>intro p ok h;rw [run_each_nil] at h |-;exact ⟨rfl,h⟩
 | cons r rs ih=>
  intro p ok h
  rw [run_each_cons] at h |-
  refine run_mono h (fun x q h=>?_) fun _ _ h=>h
  refine run_mono (ih h) (fun y q' h=>?_) fun _ _ h=>h
  exact ⟨by rw [List.length_cons,List.length_cons,h.1],h.2⟩
theorem run_chunk_len {w:Nat} {ok:List Int->Nat->Prop} (h:Run (readChunk w) l p ok bad):Run (readChunk w) l p (fun x q=>x.length=w/\ok x q) bad:=by
 rw [run_chunk] at h |-
 refine run_mono h (fun m q h=>?_) fun _ _ h=>h
 split
 ·rename_i c
  rw [if_pos c] at h
  exact h
 ·rename_i c
  rw [if_neg c] at h
  rw [<-cells_zero] at h |-
  refine run_mono (run_each_len _ h) (fun x q h=>?_) fun _ _ h=>h
  rw [List.length_map,List.length_range] at h
  exact h
theorem run_blks_len {cols:Nat}:∀(n k:Nat) {p:Nat} {ok:List (List Int)->Nat->Prop},n=blocks cols - k->Run (blks cols k) l p ok bad->Run (blks cols k) l p (fun x q=>x.flatten.length=cols - 64 * k/\ok x q) bad:=by
 intro n
 induction n with
 | zero=>
  intro k p ok e h
  have hk:¬k < blocks cols:=by omega
  rw [run_blks_end hk] at h |-
  refine ⟨?_,h⟩
  unfold blocks at hk
  show 0=_
  omega
 | succ n ih=>
  intro k p ok e h
  have hk:k < blocks cols:=by omega
  rw [run_blks_step hk] at h |-
  refine run_mono (run_chunk_len h) (fun x q h=>?_) fun _ _ h=>h
  refine run_mono (ih (k + 1) (by omega) h.2) (fun y q' h'=>?_) fun _ _ h=>h
  refine ⟨?_,h'.2⟩
  rw [List.flatten_cons,List.length_append,h'.1,h.1]
  unfold blocks at hk
  omega
theorem run_row_len {cols:Nat} {ok:List Int->Nat->Prop} (h:Run (readRow cols) l p ok bad):Run (readRow cols) l p (fun x q=>x.length=cols/\ok x q) bad:=by
 rw [run_row] at h |-
 exact run_mono (run_blks_len _ 0 rfl h) (fun x q h=>⟨by have:=h.1;omega,h.2⟩) fun _ _ h=>h
theorem run_numIn_of {w lo hi:Nat} {ok:Nat->Nat->Prop} (h:Run (num w) l p (fun x q=>if lo<=x/\x<=hi then ok x q else bad p 2) bad):Run (numIn w lo hi) l p (fun x q=>(lo<=x/\x<=hi)/\ok x q) bad:=by
 rw [run_numIn]
 refine run_mono h (fun x q h=>?_) fun _ _ h=>h
 by_cases c:lo<=x/\x<=hi
 ·rw [if_pos c] at h |-
  exact ⟨c,h⟩
 ·rw [if_neg c] at h |-
  exact h
theorem signed_zero {x:Nat} (h:x < 256):signed 8 x=0↔x=0:=by
 unfold signed
 split
 ·omega
 ·simp only [show (2:Nat) ^ 8=256 from rfl,show (2:Nat) ^ (8 - 1)=128 from rfl] at *
  omega
end
end GM
namespace GM
open Ql89
theorem sq_lt {a b n:Nat} (h1:a * a<=n) (h2:n < b * b):a < b:=by
 refine Nat.lt_of_not_le fun h=>?_
 have:=Nat.mul_le_mul h h
 omega
theorem rootFrom_spec (n:Nat):∀(b r:Nat),r * r<=n->n < (r + 2 ^ b) * (r + 2 ^ b)->rootFrom b r n * rootFrom b r n<=n/\n < (rootFrom b r n + 1) * (rootFrom b r n + 1)
 | 0,r,h1,h2=>⟨h1,h2⟩
 | b + 1,r,h1,h2=>by
  unfold rootFrom
  split
  ·rename_i h
   refine rootFrom_spec n b (r + 2 ^ b) h ?_
   have e:r + 2 ^ b + 2 ^ b=r + 2 ^ (b + 1):=by rw [Nat.pow_succ];omega
   rw [e]
   exact h2
  ·rename_i h
   exact rootFrom_spec n b r h1 (by omega)
theorem root_spec {n:Nat} (h:n < 2 ^ 34):root n * root n<=n/\n < (root n + 1) * (root n + 1):=rootFrom_spec n 17 0 (by omega) (by rw [Nat.zero_add];omega)
theorem root_is {n x:Nat} (h:n < 2 ^ 34) (h1:x * x<=n) (h2:root n<=x):x=root n:=by
 have s:=root_spec h
 have:x < root n + 1:=sq_lt h1 s.2
 omega
theorem newton_ge {n x s:Nat} (hx:0 < x) (hs:s * s<=n):s<=(x + n / x) / 2:=by
 have h1:2 * (s * x)<=x * x + n:=by
  have:2 * (s * x)<=x * x + s * s:=by
   rcases Nat.le_total s x with h | h
   ·obtain ⟨d,rfl⟩:=Nat.le.dest h
    have e:(s + d) * (s + d)=s * s + 2 * (s * d) + d * d:=by
     rw [Nat.add_mul,Nat.mul_add,Nat.mul_add,Nat.mul_comm d s];omega
    have e2:s * (s + d)=s * s + s * d:=Nat.mul_add ..
    omega
   ·obtain ⟨d,rfl⟩:=Nat.le.dest h
    have e:(x + d) * (x + d)=x * x + 2 * (x * d) + d * d:=by
     rw [Nat.add_mul,Nat.mul_add,Nat.mul_add,Nat.mul_comm d x];omega
    have e2:(x + d) * x=x * x + x * d:=by rw [Nat.add_mul,Nat.mul_comm d x]
    omega
  omega
 have h2:2 * s<=x + n / x:=by
  have h3:2 * s * x<=x * x + n:=by rw [Nat.mul_assoc];exact h1
  have h4:(x * x + n) / x=x + n / x:=by rw [Nat.add_comm,Nat.add_mul_div_right _ _ hx,Nat.add_comm]
  rw [<-h4]
  exact (Nat.le_div_iff_mul_le hx).mpr h3
 omega
theorem newton_lt {n x:Nat} (h:n < x * x):(x + n / x) / 2 < x:=by
 have hx:0 < x:=by
  refine Nat.pos_of_ne_zero fun z=>?_
  rw [z] at h
  omega
 have h1:n / x < x:=(Nat.div_lt_iff_lt_mul hx).mpr h
 omega
theorem held_eq (top z:Int) (h:0<=top):(if (if z < top then z else top) > -top - 1 then (if z < top then z else top) else -top - 1)=held (-top - 1) top z:=by
 unfold held
 repeat' split
 all_goals omega
theorem total_eq:∀(l:List Int),total l=l.sum:=by
 have key:∀(l:List Int) (a:Int),l.foldl (fun (s x:Int)=>s + x) a=a + l.sum:=by
  intro l
  induction l with
  | nil=>intro a;simp
  | cons x r ih=>intro a;rw [List.foldl_cons,ih,List.sum_cons];omega
 intro l
 unfold total
 rw [key]
 omega
theorem sparse_cons (off:Nat) (a:Int) (r:List Int):sparse off (a :: r)=if a=0 then sparse (off + 1) r else ((off:Int),a) :: sparse (off + 1) r:=rfl
theorem sparse_dot:∀(r x pre:List Int),total (List.zipWith (fun (p q:Int)=>p * q) r x)=((sparse pre.length r).map fun (p:Int×Int)=>p.2 * (pre ++ x).getD p.1.toNat 0).sum\/x.length < r.length
 | [],x,pre=>.inl (by simp [sparse,total])
 | a :: r,[],pre=>.inr (by simp)
 | a :: r,b :: x,pre=>by
  have ih:=sparse_dot r x (pre ++ [b])
  rcases ih with ih | ih
  ·left
   rw [total_eq,List.zipWith_cons_cons,List.sum_cons,<-total_eq,ih]
   have e1:pre ++ [b] ++ x=pre ++ b :: x:=by simp
   have e2:(pre ++ [b]).length=pre.length + 1:=by simp
   rw [e1,e2,sparse_cons]
   by_cases h:a=0
   ·rw [if_pos h,h]
    omega
   ·rw [if_neg h,List.map_cons,List.sum_cons]
    congr 1
    show a * b=a * (pre ++ b :: x).getD (pre.length:Int).toNat 0
    rw [Int.toNat_natCast]
    simp
  ·right
   simp only [List.length_cons]
   omega
theorem dot_sparse (r x:List Int) (h:r.length<=x.length):dot r x=((sparse 0 r).map fun (p:Int×Int)=>p.2 * x.getD p.1.toNat 0).sum:=by
 rcases sparse_dot r x [] with e | e
 ·exact e
 ·omega
end GM
namespace GM
open Ql89
theorem sparse_mem:∀(r:List Int) (off:Nat) (p:Int×Int),p∈sparse off r->∃j,j < r.length/\p.1=((off + j:Nat):Int)/\r[j]? = some p.2
 | [],_,_,h=>by simp [sparse] at h
 | a :: r,off,p,h=>by
  rw [sparse_cons] at h
  have rest:p∈sparse (off + 1) r->∃j,j < (a :: r).length/\p.1=((off + j:Nat):Int)/\(a :: r)[j]? = some p.2:=fun h=>by
   obtain ⟨j,h1,h2,h3⟩:=sparse_mem r (off + 1) p h
   exact ⟨j + 1,by simp;omega,by rw [h2];congr 1;omega,by simpa using h3⟩
  split at h
  ·exact rest h
  ·rcases List.mem_cons.mp h with e | h
   ·subst e
    exact ⟨0,by simp,by simp,by simp⟩
   ·exact rest h
theorem greatest_is {l:List Int} {m:Int} (hm:m∈l) (h:∀y∈l,y<=m):greatest l=m:=by
 have key:∀(l:List Int) (a:Int),(∀y∈l,y<=m)->a<=m->(m∈l\/a=m)->l.foldl (fun (m x:Int)=>if m < x then x else m) a=m:=by
  intro l
  induction l with
  | nil=>intro a _ _ h3;rcases h3 with h3 | h3;exact absurd h3 (by simp);exact h3
  | cons x r ih=>
   intro a h1 h2 h3
   rw [List.foldl_cons]
   have hx:=h1 x List.mem_cons_self
   refine ih _ (fun y hy=>h1 y (List.mem_cons_of_mem _ hy)) ?_ ?_
   ·split <;> assumption
   ·rcases h3 with h3 | h3
    ·rcases List.mem_cons.mp h3 with e | h3
     ·right
      subst e
      split
      ·rfl
      ·omega
     ·exact .inl h3
    ·right
     split
     ·omega
     ·exact h3
 unfold greatest
 cases l with
 | nil=>simp at hm
 | cons x r=>
  refine key _ _ h (h _ ?_) (.inl hm)
  simp
end GM
namespace GM
open Ql89
section
variable {α β:Type} {l:Bytes} {p:Nat} {bad:Nat->Nat->Prop}
theorem run_num_mono_lt {w:Nat} {ok ok':Nat->Nat->Prop} (h:Run (num w) l p ok bad) (f:∀x q,x < 256 ^ w->ok x q->ok' x q):Run (num w) l p ok' bad:=run_mono (run_num_lt h) (fun x q h=>f x q h.1 h.2) fun _ _ h=>h
theorem run_times_zero {r:R α} {ok:List α->Nat->Prop}:Run (times_ 0 r) l p ok bad↔ok [] p:=run_each_nil
theorem run_times_succ {n:Nat} {r:R α} {ok:List α->Nat->Prop}:Run (times_ (n + 1) r) l p ok bad↔Run r l p (fun x q=>Run (times_ n r) l q (fun y q'=>ok (x :: y) q') bad) bad:=by
 unfold times_
 rw [List.replicate_succ]
 exact run_each_cons
theorem run_times_all {r:R α} {F:α->Prop} (hF:∀(p:Nat) (ok:α->Nat->Prop),Run r l p ok bad->Run r l p (fun x q=>F x/\ok x q) bad):∀(n:Nat) {p:Nat} {ok:List α->Nat->Prop},Run (times_ n r) l p ok bad->Run (times_ n r) l p (fun x q=>(x.length=n/\∀y∈x,F y)/\ok x q) bad
 | 0,p,ok,h=>by
  rw [run_times_zero] at h |-
  exact ⟨⟨rfl,fun _ z=>by simp at z⟩,h⟩
 | n + 1,p,ok,h=>by
  rw [run_times_succ] at h |-
  refine run_mono (hF p _ h) (fun x q h=>?_) fun _ _ h=>h
  refine run_mono (run_times_all hF n h.2) (fun y q' h'=>?_) fun _ _ h=>h
  refine ⟨⟨by rw [List.length_cons,h'.1.1],fun z hz=>?_⟩,h'.2⟩
  rcases List.mem_cons.mp hz with e | hz
  ·rw [e];exact h.1
  ·exact h'.1.2 z hz
theorem signed_in (w x:Nat) (hw:1<=w) (h:x < 2 ^ w):-((2 ^ (w - 1):Nat):Int)<=signed w x/\signed w x<=((2 ^ (w - 1):Nat):Int) - 1:=by
 have e:2 ^ w=2 * 2 ^ (w - 1):=by
  obtain ⟨v,rfl⟩:∃v,w=v + 1:=⟨w - 1,by omega⟩
  rw [Nat.pow_succ]
  show 2 ^ v * 2=2 * 2 ^ v
  omega
 unfold signed
 split <;> omega
theorem run_signed_all {w:Nat} {lo hi:Int} (hw:1<=w) (h1:lo=-((2 ^ (8 * w - 1):Nat):Int)) (h2:hi=((2 ^ (8 * w - 1):Nat):Int) - 1) {ok:Int->Nat->Prop} (h:Run (signedIn w lo hi) l p ok bad):Run (num w) l p (fun x q=>ok (signed (8 * w) x) q) bad:=by
 rw [run_signedIn] at h
 refine run_num_mono_lt h fun x q hx h=>?_
 have hx:x < 2 ^ (8 * w):=by rw [Nat.pow_mul];exact hx
 have hb:=signed_in (8 * w) x (by omega) hx
 rw [if_pos (by omega)] at h
 exact h
theorem run_signed_byte {ok:Int->Nat->Prop} (h:Run (signedIn 1 (-128) 127) l p ok bad):Run (num 1) l p (fun x q=>ok (signed 8 x) q) bad:=run_signed_all (w:=1) (by decide) rfl rfl h
theorem run_signed_two {ok:Int->Nat->Prop} (h:Run (signedIn 2 (-32768) 32767) l p ok bad):Run (num 2) l p (fun x q=>ok (signed 16 x) q) bad:=run_signed_all (w:=2) (by decide) rfl rfl h
def isB (z:Int):Prop:=-128<=z/\z<=127
theorem run_cell_b {m j:Nat} {ok:Int->Nat->Prop} (h:Run (readCell m j) l p ok bad):Run (readCell m j) l p (fun x q=>isB x/\ok x q) bad:=by
 cases hb:m.testBit j with
 | false=>
  rw [run_cell_no hb] at h |-
  exact ⟨⟨by decide,by decide⟩,h⟩
 | true=>
  rw [run_cell_yes hb] at h |-
  refine run_num_mono_lt h fun x q hx h=>?_
  by_cases h0:x=0
  ·rw [if_pos h0] at h |-;exact h
  ·rw [if_neg h0] at h |-
   have:=signed_in 8 x (by decide) (by simpa using hx)
   exact ⟨⟨by have:=this.1;simpa using this,by have:=this.2;simpa using this⟩,h⟩
theorem run_each_all {F:α->Prop}:∀(rs:List (R α)),(∀r∈rs,∀(p:Nat) (ok:α->Nat->Prop),Run r l p ok bad->Run r l p (fun x q=>F x/\ok x q) bad)->∀{p:Nat} {ok:List α->Nat->Prop},Run (each rs) l p ok bad->Run (each rs) l p (fun x q=>(∀y∈x,F y)/\ok x q) bad
 | [],_,p,ok,h=>by
  rw [run_each_nil] at h |-
  exact ⟨fun _ z=>by simp at z,h⟩
 | r :: rs,hF,p,ok,h=>by
  rw [run_each_cons] at h |-
  refine run_mono (hF r List.mem_cons_self p _ h) (fun x q h=>?_) fun _ _ h=>h
  refine run_mono (run_each_all rs (fun r hr=>hF r (List.mem_cons_of_mem _ hr)) h.2) (fun y q' h'=>?_) fun _ _ h=>h
  refine ⟨fun z hz=>?_,h'.2⟩
  rcases List.mem_cons.mp hz with e | hz
  ·rw [e];exact h.1
  ·exact h'.1 z hz
theorem run_chunk_b {w:Nat} {ok:List Int->Nat->Prop} (h:Run (readChunk w) l p ok bad):Run (readChunk w) l p (fun x q=>(∀z∈x,isB z)/\ok x q) bad:=by
 rw [run_chunk] at h |-
 refine run_mono h (fun m q h=>?_) fun _ _ h=>h
 split
 ·rename_i c
  rw [if_pos c] at h
  exact h
 ·rename_i c
  rw [if_neg c] at h
  rw [<-cells_zero] at h |-
  refine run_each_all _ (fun r hr p ok h=>?_) h
  obtain ⟨j,_,rfl⟩:=List.mem_map.mp hr
  exact run_cell_b h
theorem run_row_b {cols:Nat} {ok:List Int->Nat->Prop} (h:Run (readRow cols) l p ok bad):Run (readRow cols) l p (fun x q=>(∀z∈x,isB z)/\ok x q) bad:=by
 rw [run_row] at h |-
 unfold blks at h |-
 refine run_mono (run_each_all (F:=fun x=>∀z∈x,isB z) _ (fun r hr p ok h=>?_) h) (fun x q h=>⟨fun z hz=>?_,h.2⟩) fun _ _ h=>h
 ·obtain ⟨j,_,rfl⟩:=List.mem_map.mp hr
  exact run_chunk_b h
 ·obtain ⟨y,hy,hz⟩:=List.mem_flatten.mp hz
  exact h.1 y hy z hz
structure MatOk (m:Matrix):Prop where
 len:m.row.length=m.rows
 row:∀x∈m.row,x.length=m.cols/\∀z∈x,isB z
theorem run_matrix_ok {ok:Matrix->Nat->Prop} (h:Run readMatrix l p ok bad):Run readMatrix l p (fun m q=>MatOk m/\ok m q) bad:=by
 rw [run_matrix] at h |-
 refine run_mono h (fun r q h=>?_) fun _ _ h=>h
 by_cases c1:1<=r/\r<=4096
 ·rw [if_pos c1] at h |-
  refine run_mono h (fun c q' h=>?_) fun _ _ h=>h
  by_cases c2:1<=c/\c<=4096
  ·rw [if_pos c2] at h |-
   by_cases c3:1048576 < r * c
   ·rw [if_pos c3] at h |-;exact h
   ·rw [if_neg c3] at h |-
    unfold rws at h |-
    refine run_mono (run_times_all (F:=fun x=>x.length=c/\∀z∈x,isB z) (fun p ok h=>?_) r h) (fun x q h=>⟨⟨h.1.1,h.1.2⟩,h.2⟩) fun _ _ h=>h
    refine run_mono (run_row_b (run_row_len h)) (fun x q h=>⟨⟨h.2.1,h.1⟩,h.2.2⟩) fun _ _ h=>h
  ·rw [if_neg c2] at h |-;exact h
 ·rw [if_neg c1] at h |-;exact h
theorem run_shaped {rows cols:Nat} {ok:Matrix->Nat->Prop} (h:Run (readShaped rows cols) l p ok bad):Run readMatrix l p (fun m q=>MatOk m/\if m.rows=rows/\m.cols=cols then ok m q else bad p 6) bad:=by
 unfold readShaped at h
 rw [run_bind,run_here,run_bind] at h
 refine run_matrix_ok (run_mono h (fun m q h=>?_) fun _ _ h=>h)
 rw [run_ite] at h
 exact h
end
end GM
namespace Go
open PySem L2
def bef (g:Nat->Int) (x y:Nat):Prop:=g x < g y\/(g x=g y/\x < y)
theorem before_iff (a:List Int) (u v:Nat):Ql89.before a u v=true↔bef (fun x=>-(a.getD x 0)) u v:=by
 unfold Ql89.before bef
 rw [Bool.or_eq_true,Bool.and_eq_true,decide_eq_true_eq,decide_eq_true_eq,beq_iff_eq]
 constructor
 ·rintro (h | ⟨h1,h2⟩)
  ·exact .inl (by show -(a.getD u 0) < -(a.getD v 0);omega)
  ·exact .inr ⟨by show -(a.getD u 0)=-(a.getD v 0);omega,h2⟩
 ·rintro (h | ⟨h1,h2⟩)
  ·have h:-(a.getD u 0) < -(a.getD v 0):=h
   exact .inl (by omega)
  ·have h1:-(a.getD u 0)=-(a.getD v 0):=h1
   exact .inr ⟨by omega,h2⟩
theorem bef_irr {g:Nat->Int} {x:Nat}:¬bef g x x:=by
 rintro (h | ⟨_,h⟩) <;> omega
theorem bef_asym {g:Nat->Int} {x y:Nat} (h:bef g x y):¬bef g y x:=by
 rcases h with h | ⟨h1,h2⟩ <;> rintro (q | ⟨q1,q2⟩) <;> omega
theorem rank_at {a:List Int} {ns:List Nat} {j v:Nat} (hp:ns.Perm (List.range a.length)) (hb:Byk (fun x=>-(a.getD x 0)) ns) (hj:ns[j]? = some v):((List.range a.length).filter fun (u:Nat)=>Ql89.before a u v).length=j:=by
 have h1:((List.range a.length).filter fun (u:Nat)=>Ql89.before a u v).length=(ns.filter fun (u:Nat)=>Ql89.before a u v).length:=((hp.filter _).length_eq).symm
 rw [h1]
 have hlt:j < ns.length:=(List.getElem?_eq_some_iff.mp hj).1
 have hv:ns[j]=v:=(List.getElem?_eq_some_iff.mp hj).2
 have hsp:ns=ns.take j ++ v :: ns.drop (j + 1):=by
  conv=>lhs;rw [<-List.take_append_drop j ns,List.drop_eq_getElem_cons hlt,hv]
 have hb:ns.Pairwise (bef fun x=>-(a.getD x 0)):=hb
 rw [hsp] at hb
 obtain ⟨_,hb2,hb3⟩:=List.pairwise_append.mp hb
 obtain ⟨hb4,_⟩:=List.pairwise_cons.mp hb2
 have e1:(ns.take j).filter (fun (u:Nat)=>Ql89.before a u v)=ns.take j:=List.filter_eq_self.mpr fun u hu=>(before_iff a u v).mpr (hb3 u hu v List.mem_cons_self)
 have e2:(v :: ns.drop (j + 1)).filter (fun (u:Nat)=>Ql89.before a u v)=[]:=List.filter_eq_nil_iff.mpr fun u hu z=>by
  have z:=(before_iff a u v).mp z
  rcases List.mem_cons.mp hu with e | hu
  ·rw [e] at z
   exact bef_irr z
  ·exact bef_asym z (hb4 u hu)
 conv=>lhs;rw [hsp]
 rw [List.filter_append,e1,e2,List.append_nil,List.length_take]
 omega
def zeroed (W:List Nat) (l:List Nat):List Nat:=W.zipIdx.map fun (x:Nat×Nat)=>if x.2∈l then 0 else x.1
theorem zeroed_at (W l:List Nat) {v:Nat} (h:v < W.length):(zeroed W l)[v]? = some (if v∈l then 0 else W.getD v 0):=by
 unfold zeroed
 rw [List.getElem?_map,List.getElem?_zipIdx]
 have e:W[v]? = some (W.getD v 0):=by simp [h]
 rw [e]
 simp
theorem zeroed_len (W l:List Nat):(zeroed W l).length=W.length:=by unfold zeroed;simp
theorem zeroed_nil (W:List Nat):zeroed W []=W:=by
 refine List.ext_getElem? fun v=>?_
 by_cases h:v < W.length
 ·rw [zeroed_at W [] h]
  simp [h]
 ·rw [List.getElem?_eq_none (by rw [zeroed_len];omega),List.getElem?_eq_none (by omega)]
theorem zeroed_set (W l:List Nat) {v:Nat} (h:v < W.length):(zeroed W l).set v 0=zeroed W (l ++ [v]):=by
 refine List.ext_getElem? fun u=>?_
 by_cases hu:u < W.length
 ·rw [zeroed_at W _ hu]
  by_cases e:u=v
  ·subst e
   rw [List.getElem?_set_self (by rw [zeroed_len];exact h),if_pos (List.mem_append_right _ (List.mem_singleton.mpr rfl))]
  ·rw [List.getElem?_set_ne (Ne.symm e),zeroed_at W l hu]
   by_cases m:u∈l
   ·rw [if_pos m,if_pos (List.mem_append_left _ m)]
   ·rw [if_neg m,if_neg fun z=>(List.mem_append.mp z).elim m fun z=>e (List.mem_singleton.mp z)]
 ·rw [List.getElem?_eq_none (by rw [List.length_set,zeroed_len];omega),List.getElem?_eq_none (by rw [zeroed_len];omega)]
theorem weights_len (fal:List Nat) (c:Nat) (a:List Int):(Ql89.weights fal c a).length=a.length:=by unfold Ql89.weights;simp
theorem nodup_of {n:Nat} {ns:List Nat} (hp:ns.Perm (List.range n)):ns.Nodup:=hp.nodup_iff.mpr List.nodup_range
theorem chances_eq {fal:List Nat} {c most:Nat} {a:List Int} {ns:List Nat} (hp:ns.Perm (List.range a.length)) (hb:Byk (fun x=>-(a.getD x 0)) ns):zeroed (Ql89.weights fal c a) (ns.drop most)=Ql89.chances fal c most a:=by
 refine List.ext_getElem? fun v=>?_
 have hl:(Ql89.chances fal c most a).length=a.length:=by unfold Ql89.chances;simp [weights_len]
 by_cases hv:v < a.length
 ·have hvW:v < (Ql89.weights fal c a).length:=by rw [weights_len];exact hv
  rw [zeroed_at _ _ hvW]
  unfold Ql89.chances
  rw [List.getElem?_map,List.getElem?_zipIdx]
  have e:(Ql89.weights fal c a)[v]? = some ((Ql89.weights fal c a).getD v 0):=by simp [hvW]
  rw [e]
  have hm:v∈ns:=hp.mem_iff.mpr (List.mem_range.mpr hv)
  obtain ⟨j,hj⟩:=List.getElem?_of_mem hm
  have hr:=rank_at hp hb hj
  have hd:v∈ns.drop most↔most<=j:=by
   constructor
   ·intro h
    obtain ⟨i,hi⟩:=List.getElem?_of_mem h
    rw [List.getElem?_drop] at hi
    have:=nd_ix (nodup_of hp) hi hj
    omega
   ·intro h
    refine List.mem_of_getElem? (i:=j - most) ?_
    rw [List.getElem?_drop]
    have:most + (j - most)=j:=by omega
    rw [this]
    exact hj
  show some _=some (if ((List.range a.length).filter fun (u:Nat)=>Ql89.before a u (0 + v)).length < most then (Ql89.weights fal c a).getD v 0 else 0)
  rw [Nat.zero_add,hr]
  by_cases q:most<=j
  ·rw [if_pos (hd.mpr q),if_neg (by omega)]
  ·rw [if_neg fun z=>q (hd.mp z),if_pos (by omega)]
 ·rw [List.getElem?_eq_none (by rw [zeroed_len,weights_len];omega),List.getElem?_eq_none (by omega)]
theorem sum_pos:∀{l:List Nat} {i x:Nat},l[i]? = some x->x<=l.sum
 | [],i,x,h=>by simp at h
 | y :: l,0,x,h=>by
  have:y=x:=by simpa using h
  rw [List.sum_cons]
  omega
 | y :: l,i + 1,x,h=>by
  have:=sum_pos (l:=l) (i:=i) (x:=x) (by simpa using h)
  rw [List.sum_cons]
  omega
theorem chances_pos {fal:List Nat} {c most:Nat} {a:List Int} {ns:List Nat} (hp:ns.Perm (List.range a.length)) (hb:Byk (fun x=>-(a.getD x 0)) ns) (ha:0 < a.length) (hm:1<=most) (hf:1<=fal.getD 0 0):0 < (Ql89.chances fal c most a).sum:=by
 have hnl:ns.length=a.length:=by rw [hp.length_eq,List.length_range]
 obtain ⟨v,hv⟩:∃v,ns[0]? = some v:=⟨ns[0]'(by omega),by simp [show 0 < ns.length by omega]⟩
 have hva:v < a.length:=List.mem_range.mp (hp.mem_iff.mp (List.mem_of_getElem? hv))
 have hvW:v < (Ql89.weights fal c a).length:=by rw [weights_len];exact hva
 have hd:v∉ns.drop most:=fun z=>by
  obtain ⟨i,hi⟩:=List.getElem?_of_mem z
  rw [List.getElem?_drop] at hi
  have:=nd_ix (nodup_of hp) hi hv
  omega
 have hg:Ql89.greatest a=a.getD v 0:=by
  refine GM.greatest_is (m:=a.getD v 0) ?_ ?_
  ·have e:a[v]? = some (a.getD v 0):=by simp [hva]
   exact List.mem_of_getElem? e
  ·intro y hy
   obtain ⟨i,hi⟩:=List.getElem?_of_mem hy
   have hil:i < a.length:=(List.getElem?_eq_some_iff.mp hi).1
   have ei:a.getD i 0=y:=by rw [List.getD_eq_getElem?_getD,hi];rfl
   have him:i∈ns:=hp.mem_iff.mpr (List.mem_range.mpr hil)
   obtain ⟨j,hj⟩:=List.getElem?_of_mem him
   by_cases hj0:j=0
   ·rw [hj0,hv] at hj
    cases hj
    omega
   ·have hb:ns.Pairwise (bef fun x=>-(a.getD x 0)):=hb
    have:=List.pairwise_iff_getElem.mp hb 0 j (by omega) (List.getElem?_eq_some_iff.mp hj).1 (by omega)
    rw [(List.getElem?_eq_some_iff.mp hv).2,(List.getElem?_eq_some_iff.mp hj).2] at this
    rcases this with h | ⟨h,_⟩
    ·have h:-(a.getD v 0) < -(a.getD i 0):=h
     omega
    ·have h:-(a.getD v 0)=-(a.getD i 0):=h
     omega
 have hw:(Ql89.weights fal c a).getD v 0=fal.getD 0 0:=by
  unfold Ql89.weights
  have e:(a.map fun (x:Int)=>fal.getD (min 255 ((Ql89.greatest a - x).toNat / 2 ^ c)) 0)[v]? = some (fal.getD (min 255 ((Ql89.greatest a - a.getD v 0).toNat / 2 ^ c)) 0):=by
   rw [List.getElem?_map]
   simp [hva]
  rw [List.getD_eq_getElem?_getD,e,hg]
  simp
 have:=sum_pos (l:=Ql89.chances fal c most a) (i:=v) (x:=fal.getD 0 0) (by rw [<-chances_eq hp hb,zeroed_at _ _ hvW,if_neg hd,hw])
 omega
theorem upTo_lt:∀(l:List Nat) (u:Nat),u < l.sum->Ql89.upTo u l < l.length
 | [],u,h=>by simp at h
 | a :: r,u,h=>by
  unfold Ql89.upTo
  by_cases q:u < a
  ·rw [if_pos q]
   simp
  ·rw [if_neg q]
   rw [List.sum_cons] at h
   have:=upTo_lt r (u - a) (by omega)
   rw [List.length_cons]
   omega
end Go
namespace PySem
open Sem (wp)
def XRec (h:Heap) (C a dx:Addr) (t:Option Addr):Prop:=
 ∃vs sl,h.get? a=some ⟨.ref C,some dx,.fields vs,sl⟩/\vs.size=6/\match t with
  | none=>vs[1]? = some .none
  | some T=>vs[1]? = some (.ref T)/\T≠a/\∃oT ts y,h.get? T=some oT/\oT.data=.fields ts/\ts[3]? = some y
section
variable {M:Model} {A:Around} {s:Shared} {E:Value->Shared->Prop}
theorem frameOf_any {base:Heap} {env env0:Env} {rest:List Env} {L:Addr} {Q:Value->Shared->Prop} (hfr:A.frames=some (env0 :: rest)) (hl:s.heap.FunFrames base (env0 :: rest))
  (h0:env0.frame=some L) (hf:env.frame=some L) (h:∀h',Heap.SlotsOnly ((env0 :: rest).filterMap (·.frame)) s.heap h'->Q (.ref L) {s with heap:=h'}):wpAny M A (frameOf env) Q E s:=by
 unfold frameOf
 apply wpAny_bind (wpAny_frameEnvs hfr ?_)
 have hdw:((env0 :: rest).dropWhile fun x=>x.frame != env.frame)=env0 :: rest:=by simp [List.dropWhile,h0,hf]
 rw [hdw]
 unfold frameObject
 refine wpAny_bind (wpAny_bind (wpAny_readyFrames_fun hl fun ha so=>wpAny_pure ?_))
 rw [h0]
 exact wpAny_pure (h ha so)
theorem entry_any {base:Heap} {env env0:Env} {rest:List Env} {L a C dx:Addr} {head:Value} {hadNext:Bool} {t:Option Addr} {vs:Array Value} {sl:Array (Option Value)} {Q:Unit->Shared->Prop}
  (hfr:A.frames=some (env0 :: rest)) (hl:s.heap.FunFrames base (env0 :: rest)) (h0:env0.frame=some L) (hf:env.frame=some L)
  (he:s.heap.get? a=some ⟨.ref C,some dx,.fields vs,sl⟩) (hz:vs.size=6)
  (h:∀h' T,XRec h' C a dx (some T)->s.heap.objs.size<=T->
   (∀b o,b∉(env0 :: rest).filterMap (·.frame)->b≠a->s.heap.get? b=some o->h'.get? b=some o)->
   (∀b o,b≠a->s.heap.get? b=some o->∃sl,h'.get? b=some {o with slots:=sl})->Q () {s with heap:=h'}) :
  wpAny M A (do let a' <-frameOf env;let pc <-entryPlaceOf L hadNext;let b <-EntryCells.newEntry head a' .none (rawInt L) .none pc;setField (.ref a) 1 b) Q E s:=by
 have apart:a∉(env0 :: rest).filterMap (·.frame):=fun hm=>by
  obtain ⟨_,o,ho,noF⟩:=hl.mem hm
  rw [he] at ho;injection ho with ho;subst ho;exact noF vs rfl
 refine wpAny_bind (frameOf_any hfr hl h0 hf fun ha so=>?_)
 refine wpAny_bind (wpAny_entryPlaceOf fun pc isP=>?_)
 unfold EntryCells.newEntry newFields;refine wpAny_bind (wpAny_newObj_type ?_ (isP.sizeOk5 _ _ _ _ _))
 have ea:ha.get? a=some ⟨.ref C,some dx,.fields vs,sl⟩:=(so.2.1 a apart).trans he
 have eb:=Heap.get?_push_of_some (h:=ha) {cls:=.type "traceback",dict:=none,data:=.fields ([head,.ref L,.none,rawInt L,.none] ++ (if pc.isEmpty then List.replicate 6 Value.none else pc)).toArray} ea
 have hsz:1 < vs.size:=by omega
 refine wpAny_setField eb rfl hsz ?_
 have hTe:ha.objs.size≠a:=Nat.ne_of_gt (Heap.lt_size ea)
 have dc:=Obj.data_mapFields (o:=⟨.ref C,some dx,.fields vs,sl⟩) rfl (·.setIfInBounds 1 (Value.ref ha.objs.size))
 have ec:=Heap.get?_update_self (Obj.mapFields (·.setIfInBounds 1 (Value.ref ha.objs.size))) eb (Obj.isFreed_of_fields dc)
 have tc:=(Heap.get?_update_other (ha.push {cls:=.type "traceback",dict:=none,data:=.fields ([head,.ref L,.none,rawInt L,.none] ++ (if pc.isEmpty then List.replicate 6 Value.none else pc)).toArray})
  (Obj.mapFields (·.setIfInBounds 1 (Value.ref ha.objs.size))) (Ne.symm hTe)).trans (Heap.get?_push_size ha rfl)
 refine h _ ha.objs.size ⟨vs.setIfInBounds 1 (Value.ref ha.objs.size),sl,ec,by simp [hz],by simp [hsz],hTe,_,_,rawInt L,tc,rfl,by simp⟩ (by rw [so.1];exact Nat.le_refl _) (fun b o hb hba ho=>?_) fun b o hba ho=>?_
 ·rw [Heap.get?_update_other _ _ (Ne.symm hba)]
  exact Heap.get?_push_of_some _ ((so.2.1 b hb).trans ho)
 ·obtain ⟨sl',hs'⟩:=so.2.2 b o ho
  refine ⟨sl',?_⟩
  rw [Heap.get?_update_other _ _ (Ne.symm hba)]
  exact Heap.get?_push_of_some _ hs'
theorem note_any {base:Heap} {env env0:Env} {rest:List Env} {L a C dx:Addr} {t:Option Addr} {Q:Unit->Shared->Prop}
  (hfr:A.frames=some (env0 :: rest)) (hl:s.heap.FunFrames base (env0 :: rest)) (h0:env0.frame=some L) (hf:env.frame=some L) (x:XRec s.heap C a dx t)
  (h:∀h' T,XRec h' C a dx (some T)->(t=some T\/s.heap.objs.size<=T)->
   (∀b o,b∉(env0 :: rest).filterMap (·.frame)->b≠a->t≠some b->s.heap.get? b=some o->h'.get? b=some o)->
   (∀b o,b≠a->t≠some b->s.heap.get? b=some o->∃sl,h'.get? b=some {o with slots:=sl})->Q () {s with heap:=h'}) :
  wpAny M A (noteFrame (.ref a) env) Q E s:=by
 unfold noteFrame
 simp only [hf]
 cases t with
 | none=>
  obtain ⟨vs,sl,he,hz,h1⟩:=x
  refine wpAny_bind (wpAny_field he rfl h1 ?_)
  rw [if_neg (by decide)]
  exact entry_any (t:=none) hfr hl h0 hf he hz fun h' T r ht k1 k2=>h h' T r (.inr ht) (fun b o q1 q2 _=>k1 b o q1 q2) fun b o q1 _=>k2 b o q1
 | some T=>
  obtain ⟨vs,sl,he,hz,h1,hTa,oT,ts,y,hT,hdT,h3⟩:=id x
  refine wpAny_bind (wpAny_field he rfl h1 ?_)
  rw [if_pos (show (Value.ref T != Value.none)=true by simp)]
  apply wpAny_bind (wpAny_field hT hdT h3 ?_)
  by_cases hy:(y == rawInt L)=true
  ·rw [if_pos hy]
   exact wpAny_pure (h s.heap T x (.inl rfl) (fun b o _ _ _ q=>q) fun b o _ _ q=>⟨o.slots,q⟩)
  ·rw [if_neg hy]
   apply wpAny_bind (wpAny_setField hT hdT (Array.getElem?_eq_some_iff.mp h3).1 ?_)
   have oth:∀b,b≠T->(s.heap.update T (Obj.mapFields (·.setIfInBounds 3 Value.none))).get? b=s.heap.get? b:=fun b hb=>Heap.get?_update_other _ _ (Ne.symm hb)
   have noRec:∀b o,s.heap.get? b=some o->(∀vs,o.data≠.fields vs)->b≠T:=fun b o hb nof q=>by
    rw [q,hT] at hb;cases hb;exact nof ts hdT
   have hl':(s.heap.update T (Obj.mapFields (·.setIfInBounds 3 Value.none))).FunFrames base (env0 :: rest):=hl.of_keeps fun b o hb nof=>⟨o,(oth b (noRec b o hb nof)).trans hb,rfl⟩
   refine entry_any (t:=some T) (s:={s with heap:=s.heap.update T (Obj.mapFields (·.setIfInBounds 3 Value.none))}) hfr hl' h0 hf ((oth a (Ne.symm hTa)).trans he) hz fun h' T' r ht k1 k2=>?_
   have hsz:(s.heap.update T (Obj.mapFields (·.setIfInBounds 3 Value.none))).objs.size=s.heap.objs.size:=Heap.size_after_update ..
   refine h h' T' r (.inr (by rw [<-hsz];exact ht)) (fun b o q1 q2 q3 q4=>?_) fun b o q2 q3 q4=>?_
   ·exact k1 b o q1 q2 ((oth b fun z=>q3 (by rw [z])).trans q4)
   ·exact k2 b o q2 ((oth b fun z=>q3 (by rw [z])).trans q4)
theorem flight_none {a C dx:Addr} {f:Option Addr} {Q:Unit->Shared->Prop} (x:XRec s.heap C a dx none) (h:Q () s):wpAny M A (setFlight (.ref a) f) Q E s:=by
 obtain ⟨vs,sl,he,hz,h1⟩:=x
 unfold setFlight
 refine wpAny_bind (wpAny_field he rfl h1 ?_)
 rw [if_neg (by decide)]
 exact wpAny_pure h
theorem flight_some {a C dx T:Addr} {f:Option Addr} {Q:Unit->Shared->Prop} (x:XRec s.heap C a dx (some T))
  (h:∀h',XRec h' C a dx (some T)->(∀b o,b≠T->s.heap.get? b=some o->h'.get? b=some o)->Q () {s with heap:=h'}):wpAny M A (setFlight (.ref a) f) Q E s:=by
 obtain ⟨vs,sl,he,hz,h1,hTa,oT,ts,y,hT,hdT,h3⟩:=id x
 have h3s:=(Array.getElem?_eq_some_iff.mp h3).1
 unfold setFlight
 refine wpAny_bind (wpAny_field he rfl h1 ?_)
 rw [if_pos (show (Value.ref T != Value.none)=true by simp)]
 refine wpAny_setField hT hdT h3s ?_
 refine h _ ⟨vs,sl,?_,hz,h1,hTa,_,_,f.elim Value.none fun f=>rawInt f,Heap.get?_update_self _ hT (Obj.isFreed_of_fields (Obj.data_mapFields hdT _)),Obj.data_mapFields hdT _,?_⟩ fun b o hb q=>?_
 ·rw [Heap.get?_update_other _ _ hTa];exact he
 ·simp [h3s]
 ·rw [Heap.get?_update_other _ _ (Ne.symm hb)];exact q
theorem flight_any {a C dx:Addr} {t:Option Addr} {f:Option Addr} {Q:Unit->Shared->Prop} (x:XRec s.heap C a dx t)
  (h:∀h',XRec h' C a dx t->(∀b o,t≠some b->s.heap.get? b=some o->h'.get? b=some o)->Q () {s with heap:=h'}):wpAny M A (setFlight (.ref a) f) Q E s:=by
 cases t with
 | none=>exact flight_none x (h s.heap x fun _ _ _ q=>q)
 | some T=>exact flight_some x fun h' x' k=>h h' x' fun b o hb q=>k b o (fun z=>hb (by rw [z])) q
theorem passOn_some {α:Type} {what:String} {env:Env} {a C dx T:Addr} {Q:α->Shared->Prop} (x:XRec s.heap C a dx (some T))
  (h:∀h',XRec h' C a dx (some T)->(∀b o,b≠T->s.heap.get? b=some o->h'.get? b=some o)->E (.ref a) {s with heap:=h'}):wpAny M A (passOn what (.ref a) env:Sem α) Q E s:=by
 obtain ⟨vs,sl,he,hz,h1,hTa,oT,ts,y,hT,hdT,h3⟩:=id x
 unfold passOn
 refine wpAny_bind (wpAny_field he rfl h1 ?_)
 rw [if_neg (show ¬(Value.ref T == Value.none)=true by simp)]
 exact wpAny_bind (flight_some x fun h' x' k=>wpAny_throw (h h' x' k))
end
end PySem
namespace L2
open PySem PySem.Spec PyProof.Rows
def FpN (X:Cx) (pins:List (Addr×Obj)) (H:Hp) (b:Addr):Prop:=FpOk X pins H b/\X.s₀.heap.objs.size<=b
theorem Inv.fpN {X:Cx} {pins:List (Addr×Obj)} {σ:St} {H H':Hp} {s:Shared} {b:Addr} (I:Inv X pins σ H s) (hb:s.heap.objs.size<=b) (hn:H' b=none):FpN X pins H' b:=
 ⟨I.fpOk hb hn,Nat.le_trans I.sz hb⟩
structure Fly (X:Cx) (pins:List (Addr×Obj)) (C a dx:Addr) (t:Option Addr) (H:Hp) (h:Heap):Prop where
 rc:XRec h C a dx t
 fp:FpN X pins H a
 ft:∀T,t=some T->FpN X pins H T
def XOk (C:Addr) (X:Cx) (E:XK):Prop:=∀(pins:List (Addr×Obj)) (σ:St) (H:Hp) (s:Shared) (a dx:Addr) (t:Option Addr),
 Inv X pins σ H s->Fly X pins C a dx t H s.heap->E (.ref C) (some dx) H->X.xe (.ref a) s
def CXF (P:Program) (w:World) (C:Addr):CXT:=fun outer H s E e s'=>∃(a dx T:Addr) (H':Hp),e=.ref a/\s'.os=s.os/\AllBare s'.gens/\Un (frs outer) [] H H' s.heap s'.heap/\HOk P w H' s'.heap/\
 XRec s'.heap C a dx (some T)/\s.heap.objs.size<=a/\s.heap.objs.size<=T/\H' a=none/\H' T=none/\E (.ref C) (some dx) H'
theorem mem_toList' {α:Type} {t:Option α} {b:α} (h:b∈t.toList):t=some b:=by
 cases t with
 | none=>exact absurd h (by simp)
 | some c=>
  have e:b=c:=by simpa using h
  rw [e]
section
variable {X:Cx} {pins:List (Addr×Obj)} {σ:St} {H:Hp} {s:Shared} {C a dx:Addr} {t:Option Addr} {M:Model} {A:Around} {Q:Unit->Shared->Prop} {E:Value->Shared->Prop}
theorem Inv.changed {h':Heap} {ch:List Addr} (I:Inv X pins σ H s) (hf:∀b∈ch,FpOk X pins H b)
  (k1:∀b o,b∉frs X.stack->b∉ch->s.heap.get? b=some o->h'.get? b=some o)
  (k2:∀b o,b∉ch->s.heap.get? b=some o->∃sl,h'.get? b=some {o with slots:=sl}):Inv X pins σ H {s with heap:=h'}:=by
 have u:Un (frs X.stack) ch H H s.heap h':=⟨fun b o q _ hb hx=>k1 b o hb hx q,fun b o q _ _ hx=>k2 b o hx q,fun _ _ _ n _=>n,fun b o q hx=>let ⟨_,e⟩:=k2 b o hx q;⟨_,e⟩,fun _ _ q=>q,fun _ _ _ q=>q,fun _ ps q=>⟨#[],by rw [q];simp⟩⟩
 refine I.call (g':=s.gens) (d':=s.drawn) (t':=s.toks) (ch:=ch) u (fun b o e=>?_) I.bare fun b hb=>?_
 ·have tr:∀c,(c=b\/H c=some (.own b))->H c≠none:=fun c hc z=>by
   rcases hc with rfl | hc
   ·rw [e] at z;cases z
   ·rw [hc] at z;cases z
  exact (I.hok b o e).stay (fun c v hc q=>k1 c v (fun z=>tr c hc (I.stkFree c z)) (fun z=>tr c hc (hf c z).1) q) (fun _ q=>q) fun _ _ q=>q
 ·obtain ⟨_,h2,_,h4,h5,h6⟩:=hf b hb
  exact ⟨h4,h2,h5,h6⟩
theorem Inv.noted {env env0:Env} {rest:List Env} {L:Addr} (I:Inv X pins σ H s) (hst:X.stack=env0 :: rest) (hA:A.frames=some X.stack) (h0:env0.frame=some L) (hf:env.frame=some L) (f:Fly X pins C a dx t H s.heap)
  (h:∀s' T,Inv X pins σ H s'->Fly X pins C a dx (some T) H s'.heap->Q () s'):wpAny M A (noteFrame (.ref a) env) Q E s:=by
 have hl:=I.stack
 rw [hst] at hA hl
 refine note_any hA hl h0 hf f.rc fun h' T r ht k1 k2=>h _ T (I.changed (ch:=a :: t.toList) (fun b hb=>?_) (fun b o hb hc q=>?_) fun b o hc q=>?_) ⟨r,f.fp,fun T' e=>?_⟩
 ·rcases List.mem_cons.mp hb with rfl | hb
  ·exact f.fp.1
  ·exact (f.ft b (mem_toList' hb)).1
 ·exact k1 b o (by rw [hst] at hb;exact hb) (fun z=>hc (by simp [z])) (fun z=>hc (by simp [z])) q
 ·exact k2 b o (fun z=>hc (by simp [z])) (fun z=>hc (by simp [z])) q
 ·cases e
  rcases ht with ht | ht
  ·exact f.ft _ ht
  ·exact I.fpN ht (I.hok.fresh ht)
theorem Inv.flown {fl:Option Addr} (I:Inv X pins σ H s) (f:Fly X pins C a dx t H s.heap) (h:∀s',Inv X pins σ H s'->Fly X pins C a dx t H s'.heap->Q () s'):wpAny M A (setFlight (.ref a) fl) Q E s:=by
 refine flight_any f.rc fun h' r k=>h _ (I.changed (ch:=t.toList) (fun b hb=>(f.ft b (mem_toList' hb)).1) (fun b o _ hc q=>k b o (fun z=>hc (by simp [z])) q) fun b o hc q=>⟨o.slots,k b o (fun z=>hc (by simp [z])) q⟩) ⟨r,f.fp,f.ft⟩
end
theorem leave_xok {P:Program} {w:World} {K:PySem.W.Frag} {mg:Str->Option Value} {base:Heap} {N:List Str} {qual:Str} {scope:Scope} {f:Addr} {cd:Value} {A:Around} {outer:List Env} {s:Shared} {H:Hp} {E:XK} {C:Addr} :
  XOk C (cxOf (CXF P w C) P w K mg base N qual scope f cd A outer s H E) E:=by
 intro pins σ H' s' a dx t I fl e
 show wpAny (model P w) (A.deeper (envOfC qual scope s.heap.objs.size f cd)) (leaving (envOfC qual scope s.heap.objs.size f cd) (.ref a)) (fun _ s''=>CXF P w C outer H s E (.ref a) s'') (fun e' s''=>CXF P w C outer H s E e' s'') s'
 unfold leaving
 refine wpAny_bind (I.noted (env0:=envOfC qual scope s.heap.objs.size f cd) (rest:=outer) rfl I.ok.frames rfl rfl fl fun s1 T I1 f1=>?_)
 refine I1.flown f1 fun s2 I2 f2=>?_
 exact ⟨a,dx,T,H',rfl,I2.os,I2.bare,I2.base,I2.hok,f2.rc,f2.fp.2,(f2.ft T rfl).2,f2.fp.1.1,(f2.ft T rfl).1.1,e⟩
theorem pass_own {P:Program} {w:World} {K:PySem.W.Frag} {mg:Str->Option Value} {base:Heap} {N:List Str} {qual:Str} {scope:Scope} {f:Addr} {cd:Value} {A:Around} {outer:List Env} {s:Shared} {H:Hp} {E:XK} {C:Addr} :
  PassesOwn (model P w) (cxOf (CXF P w C) P w K mg base N qual scope f cd A outer s H E).A (cxOf (CXF P w C) P w K mg base N qual scope f cd A outer s H E).env (cxOf (CXF P w C) P w K mg base N qual scope f cd A outer s H E).xe:=
 PassesOwn.leaving
theorem passX {X:Cx} {C:Addr} {E:XK} (h:XOk C X E):Passes (CXF X.prog X.w C) X E:=by
 rintro pins σ H s e s' I ⟨a,dx,T,H',rfl,os,bare,un,hok,rc,ha,hT,na,nT,he⟩
 exact h pins σ H' s' a dx (some T) (I.call' (ch:=[]) os un hok bare fun b z=>absurd z (by simp)) ⟨rc,I.fpN ha na,fun T' e=>by cases e;exact I.fpN hT nT⟩ he
end L2
namespace L2
open PySem PySem.Spec PyProof.Rows
abbrev Cx.tr (X:Cx) (pn:List (Addr×Obj)) (xe:Value->Shared->Prop):Cx:={X with pn:=pn,xe:=xe}
abbrev Cx.hnd (X:Cx) (a:Addr) (pn:List (Addr×Obj)):Cx:={X with A:=X.A.mark (some (.ref a)),calm:=false,pn:=pn,xe:=fun _ _=>False}
theorem Cx.Ok.tr {X:Cx} (ok:X.Ok) (pn:List (Addr×Obj)) (xe:Value->Shared->Prop):(X.tr pn xe).Ok:=
 ⟨ok.mod,ok.kind,ok.glob,ok.blt,ok.above,ok.inj,ok.has,ok.cab,ok.hd,ok.frames,ok.stk,ok.exf,ok.bs,ok.bsz,ok.noex,ok.exfs,ok.funs,ok.frf⟩
theorem Cx.Ok.untr {X:Cx} {pn:List (Addr×Obj)} {xe:Value->Shared->Prop} (ok:(X.tr pn xe).Ok):X.Ok:=
 ⟨ok.mod,ok.kind,ok.glob,ok.blt,ok.above,ok.inj,ok.has,ok.cab,ok.hd,ok.frames,ok.stk,ok.exf,ok.bs,ok.bsz,ok.noex,ok.exfs,ok.funs,ok.frf⟩
theorem Cx.Ok.hnd {X:Cx} (ok:X.Ok) (a:Addr) (pn:List (Addr×Obj)):(X.hnd a pn).Ok:=
 ⟨ok.mod,ok.kind,ok.glob,ok.blt,ok.above,ok.inj,ok.has,ok.cab,fun z=>Bool.noConfusion z,ok.frames,ok.stk,ok.exf,ok.bs,ok.bsz,ok.noex,ok.exfs,ok.funs,ok.frf⟩
section
variable {X:Cx} {pins pins':List (Addr×Obj)} {σ:St} {H:Hp} {s:Shared} {xe:Value->Shared->Prop} {a:Addr} {oa:Obj}
theorem Inv.tr (I:Inv X pins σ H s) (xe:Value->Shared->Prop):Inv (X.tr (X.pn ++ pins) xe) [] σ H s:=
 ⟨I.ok.tr _ _,I.os,I.bare,I.base,I.loc,I.cell,I.free,I.freeC,fun p hp=>I.pin p (by rw [List.append_nil] at hp;exact hp),I.hok,I.len⟩
theorem Inv.untr (I:Inv (X.tr (X.pn ++ pins) xe) pins' σ H s):Inv X pins σ H s:=
 ⟨I.ok.untr,I.os,I.bare,I.base,I.loc,I.cell,I.free,I.freeC,fun p hp=>I.pin p (List.mem_append_left _ hp),I.hok,I.len⟩
theorem FpN.untr {b:Addr} (f:FpN (X.tr (X.pn ++ pins) xe) pins' H b):FpN X pins H b:=
 ⟨⟨f.1.1,f.1.2.1,f.1.2.2.1,f.1.2.2.2.1,f.1.2.2.2.2.1,fun p hp=>f.1.2.2.2.2.2 p (List.mem_append_left _ hp)⟩,f.2⟩
theorem Fly.untr {C a dx:Addr} {t:Option Addr} {h:Heap} (f:Fly (X.tr (X.pn ++ pins) xe) pins' C a dx t H h):Fly X pins C a dx t H h:=⟨f.rc,f.fp.untr,fun T e=>(f.ft T e).untr⟩
theorem Inv.hnd (I:Inv X pins σ H s) (f:FpOk X pins H a) (ha:s.heap.get? a=some oa) (hc:∀v,oa.data≠.cell v):Inv (X.hnd a (X.pn ++ pins ++ [(a,oa)])) [] σ H s:=by
 refine ⟨I.ok.hnd _ _,I.os,I.bare,I.base,I.loc,I.cell,I.free,I.freeC,fun p hp=>?_,I.hok,I.len⟩
 have hp:p∈(X.pn ++ pins ++ [(a,oa)]) ++ []:=hp
 rw [List.append_nil] at hp
 rcases List.mem_append.mp hp with hp | hp
 ·exact I.pin p hp
 ·obtain rfl:p=(a,oa):=by simpa using hp
  exact ⟨ha,f.1,f.2.1,f.2.2.1,hc⟩
theorem Inv.unhnd {pn:List (Addr×Obj)} (ok:X.Ok) (I:Inv (X.hnd a (X.pn ++ pins ++ pn)) pins' σ H s):Inv X pins σ H s:=
 ⟨ok,I.os,I.bare,I.base,I.loc,I.cell,I.free,I.freeC,fun p hp=>I.pin p (List.mem_append_left _ (List.mem_append_left _ hp)),I.hok,I.len⟩
theorem SP.untr {D:Ends} {f:Flow} {s':Shared} (h:SP (X.tr (X.pn ++ pins) xe) pins' D f s'):SP X pins D f s':=by
 cases f with
 | next=>obtain ⟨σ',H',I,q⟩:=h;exact ⟨σ',H',I.untr,q⟩
 | brk=>obtain ⟨σ',H',I,q⟩:=h;exact ⟨σ',H',I.untr,q⟩
 | cont=>obtain ⟨σ',H',I,q⟩:=h;exact ⟨σ',H',I.untr,q⟩
 | ret u=>obtain ⟨v,σ',H',I,r,q⟩:=h;exact ⟨v,σ',H',I.untr,r,q⟩
end
def Top (X:Cx):Prop:=∃(env0:Env) (rest:List Env) (L:Addr),X.stack=env0 :: rest/\env0.frame=some L/\X.env.frame=some L
def tTry (C:Addr) (E:XK) (tb:TS) (th:TS):TS:=fun D σ H=>tb D σ H/\
 ∀(dx:Addr) (H':Hp) (σ':St),σ'.length=σ.length->E (.ref C) (some dx) H'->th {nx:=fun _ _=>False,rt:=D.rt} σ' H'
section
variable {X:Cx} {C:Addr} {E:XK} {body hbody:List Stmt} {b0:Stmt} {tb:TS} {n x:Str} {np hp pos:Pos} {i:Nat}
theorem try_core {hdl:ExceptHandler} {D:Ends} {σ:St} {H:Hp} {pins:List (Addr×Obj)} {s:Shared} (hst:Top X) (I:Inv X pins σ H s)
  (hb:∀(pn:List (Addr×Obj)) (xe:Value->Shared->Prop),PassesOwn (model X.prog X.w) X.A X.env xe->XOk C (X.tr pn xe) E->PSs (X.tr pn xe) body tb) (h1:tb D σ H)
  (hh:∀(σ':St) (H':Hp) (s':Shared) (a dx T:Addr),Inv X pins σ' H' s'->Fly X pins C a dx (some T) H' s'.heap->E (.ref C) (some dx) H'->wpAny (model X.prog X.w) X.A (handleBy (.ref a) X.env [hdl]) (SP X pins D) X.xe s') :
  wpAny (model X.prog X.w) X.A (exec (.Try body [hdl] [] [] pos) X.env) (SP X pins D) X.xe s:=by
 obtain ⟨env0,rest,L,hs,h0,hf⟩:=hst
 refine wpAny_Try_except ?_
 generalize hxe:(fun (e:Value) (s₁:Shared)=>wpAny (model X.prog X.w) X.A (noteFrame e X.env) (fun _ s₂=>wpAny (model X.prog X.w) X.A (setFlight e none) (fun _ s₃=>wpAny (model X.prog X.w) X.A (handleBy e X.env [hdl]) (SP X pins D) X.xe s₃) X.xe s₂) X.xe s₁)=xe
 have po:PassesOwn (model X.prog X.w) X.A X.env xe:=by rw [<-hxe];exact PassesOwn.looking
 have xok:XOk C (X.tr (X.pn ++ pins) xe) E:=by
  intro pins' σ' H' s' a dx t I' f' e'
  show xe (.ref a) s'
  rw [<-hxe]
  refine I'.untr.noted hs I'.untr.ok.frames h0 hf f'.untr fun s2 T I2 f2=>?_
  exact I2.flown f2 fun s3 I3 f3=>hh σ' H' s3 a dx T I3 f3 e'
 refine wpAny_mono (hb _ _ po xok [] s σ H D (I.tr xe) h1) (fun f s1 q=>?_) fun e s1 q=>q
 have q':=q.untr
 cases f with
 | next=>exact wpAny_execs_nil q'
 | brk=>exact q'
 | cont=>exact q'
 | ret u=>exact q'
theorem ps_try {th:TS} (hst:Top X) (hg:Gl X x) (hm:X.mg x=some (.ref C)) (hx:PySem.W.exmOne X.K (.ref C) (.ref C)=some true)
  (hb:∀(pn:List (Addr×Obj)) (xe:Value->Shared->Prop),PassesOwn (model X.prog X.w) X.A X.env xe->XOk C (X.tr pn xe) E->PSs (X.tr pn xe) body tb)
  (hh:∀(a:Addr) (pn:List (Addr×Obj)),PSs (X.hnd a pn) (b0 :: hbody) th)
  (hd:(x == ("__debug__" : Str))=false:=by decide) :
  PS X (.Try body [.ExceptHandler (some (.Name x np)) none (b0 :: hbody) hp] [] [] pos) (tTry C E tb th):=by
 intro pins s σ H D I h
 obtain ⟨h1,h2⟩:=h
 refine try_core hst I hb h1 fun σ' H' s3 a dx T I3 f3 e3=>?_
 obtain ⟨vs,sl,ha,_⟩:=id f3.rc
 have I4:=I3.hnd f3.fp.1 ha (fun v q=>by cases q)
 refine wpAny_handleBy_cons (codeAny_handlers_test ?_) (by intro q;cases q)
 refine ld_glob (X:=X.hnd a (X.pn ++ pins ++ [(a,_)])) I4 hg hm ?_ hd
 have LT:PySem.W.Looks (model X.prog X.w) s3.heap (typeOf (.ref a)) (.ref C):=(PySem.W.Looks.ld ha).andThen .now
 refine (PySem.W.exm_one I4.kIn LT hx).here ?_
 refine codeAny_handlers_suite ?_
 refine I3.flown f3 fun s4 I5 f5=>?_
 obtain ⟨vs',sl',ha',_⟩:=id f5.rc
 have I6:=I5.hnd f5.fp.1 ha' (fun v q=>by cases q)
 have hlen:σ'.length=σ.length:=I3.len.trans I.len.symm
 refine wpAny_mono (hh a _ [] s4 σ' H' _ I6 (h2 dx H' σ' hlen e3)) (fun f s6 q=>?_) fun _ _ z=>z.elim
 cases f with
 | ret u=>
  obtain ⟨v,σ6,H6,I8,rv,q⟩:=q
  exact ⟨v,σ6,H6,I8.unhnd I.ok,rv,q⟩
 | next=>obtain ⟨_,_,_,z⟩:=q;exact z.elim
 | brk=>obtain ⟨_,_,_,z⟩:=q;exact z.elim
 | cont=>obtain ⟨_,_,_,z⟩:=q;exact z.elim
end
end L2
namespace L2
open PySem PySem.Spec PyProof.Rows
theorem xrec_apart {h:Heap} {C a dx L:Addr} {t:Option Addr} {m:Str->Option Value} (r:XRec h C a dx t) (n:h.Ns L m):a≠L/\∀T,t=some T->T≠L:=by
 obtain ⟨vs,sl,he,hz,h1⟩:=r
 obtain ⟨o,es,ep,ho,hd,_⟩:=n
 refine ⟨fun z=>?_,fun T e z=>?_⟩
 ·rw [z,ho] at he
  cases he
  cases hd
 ·subst e
  obtain ⟨_,_,oT,ts,y,hT,hdT,_⟩:=h1
  rw [z,ho] at hT
  cases hT
  rw [hd] at hdT
  cases hdT
theorem xrec_stays {h h':Heap} {C a dx L:Addr} {t:Option Addr} (r:XRec h C a dx t) (sb:Heap.SameBut L h h') (ha:a≠L) (ht:∀T,t=some T->T≠L):XRec h' C a dx t:=by
 obtain ⟨vs,sl,he,hz,h1⟩:=r
 refine ⟨vs,sl,(sb.2 a ha).trans he,hz,?_⟩
 cases t with
 | none=>exact h1
 | some T=>
  obtain ⟨e1,e2,oT,ts,y,hT,hdT,h3⟩:=h1
  exact ⟨e1,e2,oT,ts,y,(sb.2 T (ht T rfl)).trans hT,hdT,h3⟩
section
variable {X:Cx} {C:Addr} {E:XK}
theorem lcX_core {pins:List (Addr×Obj)} {s:Shared} {σ:St} {H:Hp} {Q:VK} {elt tg iter:Expr} {ifs:List Expr} {scope:Scope} {own:List (Str×Nat)} {pos pos':Pos} {wi:TI} {g:TG} {tt:TT} {te:TE} {use:Option (Value->Sem Unit)} {Qf:Value->Shared->Prop}
  (hst:Top X) (hX:XOk C X E) (hc:X.calm=true) (hN:X.N.Nodup) (I:Inv X pins σ H s) (hi:PI X tg iter wi) (ok:BlkOk X.N X.env.scope scope own)
  (hg:∀(s:Shared) (H:Hp) (C:Addr) (cl:List (Str×Addr)) (fp:List Addr),PG (X.blk s H scope (compEnvC scope cl C X.env) fp) tg g) (ht:∀(s:Shared) (H:Hp) (C:Addr) (cl:List (Str×Addr)) (fp:List Addr),PTs (X.blk s H scope (compEnvC scope cl C X.env) fp) ifs tt)
  (he:∀(s:Shared) (H:Hp) (B:Addr) (cl:List (Str×Addr)) (fp:List Addr) (xe:Value->Shared->Prop),XOk C ((X.blk s H scope (compEnvC scope cl B X.env) fp).wish xe) E->PE ((X.blk s H scope (compEnvC scope cl B X.env) fp).wish xe) elt te) (hs:∀x,foldedSetIterable iter X.env x=pure x)
  (h:tLc wi g tt te (own.map (·.2)) σ H Q)
  (hRR:∀D C s' m H',Inv X pins σ H' s'->Q (.ref D) H'->s'.heap.Ns C m->FpOk X pins H' C->compPost (model X.prog X.w) X.A X.xe use Qf (.ref D) C (.ok .next) s') :
  wpAny (model X.prog X.w) X.A (comprehension (.ListComp elt [⟨tg,iter,ifs,0⟩] scope pos) scope X.env pos' (newList []) false (eval iter X.env) use) Qf X.xe s:=by
 obtain ⟨env0,rest,L0,hstk,h00,hf0⟩:=hst
 have hfree:∀y∈scope.names,y.2=.free->∃c,X.env.cells.lookup y.1=some c:=fun y hy e=>by
  rcases ok.free y hy e with k | k
  ·exact I.ok.has _ (.inl k)
  ·exact I.ok.has _ (.inr k)
 refine wpAny_comprehension_free (use:=use) rfl hs (closure_ok hfree) ok.kind (fun y hy e=>by rw [ok.uniq y hy,e])
  (thn (hi pins s σ H _ I h) fun xv s1 hx=>thn hx fun itv s2 h2=>?_)
 obtain ⟨it,fp,tn,J,H2,e,I2,T,st2,f2,q⟩:=h2
 subst e
 refine wpAny_newObj_type (newEnv_comp ?_) (by show 0<=sizeLine;decide)
 generalize hD:s2.heap.objs.size=D
 have hDn:H2 D=none:=I2.hok.fresh (Nat.le_of_eq hD)
 obtain ⟨W,⟨m0,w0⟩,turn⟩:=q D hDn
 generalize hs3:({s2 with heap:=s2.heap.push {cls:=.type "list",data:=.seq ([]:List Value).toArray}}:Shared)=s3
 have I3:Inv X pins σ (upd H2 D (.lst [])) s3:=by
  rw [<-hs3]
  refine I2.laid (t':=s2.toks) (fun b o e=>Heap.get?_push_of_some _ e) (Nat.le_of_eq hD) ⟨Nat.zero_le _,[],0,.nil,?_⟩
  rw [<-hD]
  exact Heap.get?_push_size _ rfl
 have h3:s3.heap=s2.heap.push {cls:=.type "list",data:=.seq ([]:List Value).toArray}:=by rw [<-hs3]
 have sz:∀b∈fp,b < s2.heap.objs.size:=fun b hb=>by
  obtain ⟨o,e,_⟩:=T.obj _ _ st2 b hb
  exact Heap.lt_size e
 have f3:∀b∈fp,FpOk X pins (upd H2 D (.lst [])) b/\b < s3.heap.objs.size:=fun b hb=>by
  have hlt:=sz b hb
  refine ⟨⟨?_,(f2 b hb).2⟩,by rw [h3,Heap.size_push];exact Nat.lt_succ_of_lt hlt⟩
  rw [upd_ne (by rw [<-hD];exact Nat.ne_of_lt hlt)]
  exact (f2 b hb).1
 have st3:tn 0 s3.heap:=T.keep _ _ _ st2 fun b _ o e=>by rw [h3];exact Heap.get?_push_of_some _ e
 have I4:=block_start I3 ok hN f3
 have pg:=hg s3 (upd H2 D (.lst [])) s3.heap.objs.size (cellsFrom (s3.heap.objs.size + 1) scope.names (cloFrom X.env.cells scope.names [])) fp
 have pt:=ht s3 (upd H2 D (.lst [])) s3.heap.objs.size (cellsFrom (s3.heap.objs.size + 1) scope.names (cloFrom X.env.cells scope.names [])) fp
 have pe:=he s3 (upd H2 D (.lst [])) s3.heap.objs.size (cellsFrom (s3.heap.objs.size + 1) scope.names (cloFrom X.env.cells scope.names [])) fp
 show codeAny _ _ (.compStart (.ListComp elt [⟨tg,iter,ifs,0⟩] scope pos) 0 (.ref it) (.ref D) (compEnvC scope (cellsFrom (s3.heap.objs.size + 1) scope.names (cloFrom X.env.cells scope.names [])) s3.heap.objs.size X.env)) (compPost (model X.prog X.w) X.A X.xe use Qf (.ref D) s3.heap.objs.size) {s3 with heap:=pushCells (s3.heap.push {cls:=.type "dict",data:=.dict #[]}) scope.names}
 have nfp:∀b∈fp,(upd H2 D (.lst [])) b=none:=fun b hb=>(f3 b hb).1.1
 generalize hce:compEnvC scope (cellsFrom (s3.heap.objs.size + 1) scope.names (cloFrom X.env.cells scope.names [])) s3.heap.objs.size X.env=ce at I4 pg pt pe |-
 have cL:ce.locals=s3.heap.objs.size:=by subst hce;rfl
 have cF:ce.frame=some L0:=by subst hce;exact hf0
 generalize hH3:upd H2 D (.lst [])=H3 at I3 I4 pg pt pe w0 nfp f3
 generalize hs4:({s3 with heap:=pushCells (s3.heap.push {cls:=.type "dict",data:=.dict #[]}) scope.names}:Shared)=s4 at I4 |-
 have st4:tn 0 s4.heap:=T.keep _ _ _ st3 fun b _ o e=>by rw [<-hs4];exact pushCells_keeps _ _ _ _ (Heap.get?_push_of_some _ e)
 have stat:∀{σ':St} {H':Hp} {s':Shared},Inv (X.blk s3 H3 scope ce fp) [] σ' H' s'->(∀b∈fp,H' b=none)->∀b∈fp,FpOk (X.blk s3 H3 scope ce fp) [] H' b:=fun {σ' H' s'} I' hn b hb=>
  ⟨hn b hb,(I'.ok.exf b hb).1,I'.ok.exfs b hb,.inl hb,fun x c e=>(I'.ok.exf b hb).2 x c e,fun p hp=>absurd (show p∈([]:List (Addr×Obj)) ++ [] from hp) (by simp)⟩
 -- back in the def's context
 have backI:∀{σ':St} {H':Hp} {s':Shared} {pl:List (Addr×Obj)},Inv (X.blk s3 H3 scope ce fp) pl σ' H' s'->Inv X pins σ H' s'/\H' s3.heap.objs.size=none/\∃m,s'.heap.Ns s3.heap.objs.size m:=fun {σ' H' s' pl} I6=>by
  refine ⟨I3.call' (ch:=fp) I6.os I6.base I6.hok I6.bare fun b hb=>⟨(f3 b hb).1.2.2.2.1,(f3 b hb).1.2.1,(f3 b hb).1.2.2.2.2.1,(f3 b hb).1.2.2.2.2.2⟩,?_,?_⟩
  ·have z:H' ce.locals=none:=I6.free
   rw [cL] at z
   exact z
  ·obtain ⟨m,hn,_⟩:=I6.loc
   have hn:s'.heap.Ns ce.locals m:=hn
   rw [cL] at hn
   exact ⟨m,hn⟩
 -- what becomes of an exception
 generalize hxe:notedBy (model X.prog X.w) X.A ce (fun e s'=>compPost (model X.prog X.w) X.A X.xe use Qf (.ref D) s3.heap.objs.size (.error e) s')=xe
 have xok:XOk C ((X.blk s3 H3 scope ce fp).wish xe) E:=by
  intro pins' σ' H' s' a dx t I' f' e'
  show xe (.ref a) s'
  rw [<-hxe]
  show wpAny (model X.prog X.w) X.A (noteFrame (.ref a) ce) _ _ s'
  refine Inv.noted (X:=(X.blk s3 H3 scope ce fp).wish xe) (env0:=env0) (rest:=rest) (L:=L0) I' hstk I'.ok.frames h00 cF f' fun s5 T5 I5 f5=>?_
  obtain ⟨I6,nC,m,hn⟩:=backI (Inv.unwish I5)
  obtain ⟨na,nt⟩:=xrec_apart f5.rc hn
  have sza:s3.heap.objs.size<=a:=f5.fp.2
  have szt:s3.heap.objs.size<=T5:=(f5.ft T5 rfl).2
  have key:∃m,s5.heap.Ns s3.heap.objs.size m/\∀h',Heap.SameBut s3.heap.objs.size s5.heap h'->∀cenv:Env,cenv.locals=s3.heap.objs.size->wpAny (model X.prog X.w) X.A (passOn "comprehension.variables-let-go" (.ref a) cenv:Sem Value) (fun _ _=>False) X.xe {s5 with heap:=h'}:=by
   refine ⟨m,hn,fun h' sb cenv _=>?_⟩
   obtain ⟨p0,p1,p2,p3,p4,p5⟩:=I3.fpOk (H':=H') (Nat.le_refl _) nC
   have I7:Inv X pins σ H' {s5 with heap:=h'}:=I6.turned (t':=s5.toks) (fun b o hb e=>(sb.2 b hb).trans e) p0 p1 p3 p4 p5
   have r7:XRec h' C a dx (some T5):=xrec_stays f5.rc sb na nt
   have nA:H' a=none:=f5.fp.1.1
   have nT:H' T5=none:=(f5.ft T5 rfl).1.1
   refine passOn_some (s:={s5 with heap:=h'}) r7 fun h'' r8 k8=>?_
   obtain ⟨o0,o1,o2,o3,o4,o5⟩:=I3.fpOk (H':=H') szt nT
   have I8:Inv X pins σ H' {s5 with heap:=h''}:=I7.turned (t':=s5.toks) (fun b o hb e=>k8 b o hb e) o0 o1 o3 o4 o5
   exact hX pins σ H' _ a dx (some T5) I8 ⟨r8,I3.fpN sza nA,fun T' e=>by cases e;exact I3.fpN szt nT⟩ e'
  cases use <;> exact key
 have pe:=pe xe xok
 have loop:codeAny (model X.prog X.w) X.A (.compLoop (.ListComp elt [⟨tg,iter,ifs,0⟩] scope pos) 0 (.ref it) (.ref D) ce) (compPost (model X.prog X.w) X.A X.xe use Qf (.ref D) s3.heap.objs.size) s4:=by
  refine compLoop_any (fun n s'=>∃i H',Inv (X.blk s3 H3 scope ce fp) [] (wipe σ (own.map (·.2))) H' s'/\tn i s'.heap/\(∀b∈fp,H' b=none)/\W i n H') ?_ m0 ⟨0,H3,I4,st4,nfp,w0⟩
  rw [hxe]
  rintro n s5 ⟨i,H5,I5,st5,n5,w5⟩
  rcases turn i n H5 w5 with ⟨stop,qq⟩ | ⟨go,Nx,hNx,step⟩
  ·have td:=T.done (X.blk s3 H3 scope ce fp) rfl rfl rfl hc i [] s5 _ H5 (fun _ _=>False) I5 (stat I5 n5) st5 stop
   refine thnF td fun r s6 ⟨hr,I6⟩=>?_
   subst hr
   obtain ⟨I7,nC,m,hn⟩:=backI I6
   exact hRR D s3.heap.objs.size s6 m H5 I7 qq hn (I3.fpOk (Nat.le_refl _) nC)
  ·have ti:=T.item (X.blk s3 H3 scope ce fp) rfl rfl rfl hc i [] s5 _ H5 (fun _ _=>False) I5 (stat I5 n5) st5 go
   refine thnF ti fun r s6 ⟨u,hr,h6⟩=>?_
   subst hr
   refine thnF h6 fun _ s7 ⟨x,H7,I7,r7,y7,st7,n7⟩=>?_
   have I7':=I7.pinned (stat I7 n7) (T.obj _ _ st7)
   refine thnF (pg _ s7 _ H7 x u _ I7' r7 (step x H7 y7)) fun _ s8 ⟨σ8,H8,I8,hw8,q8⟩=>?_
   refine thnF (pt _ s8 σ8 H8 _ I8 q8) fun b s9 ⟨H9,I9,q9⟩=>?_
   have fin:∀{s':Shared} {H':Hp},Inv (X.blk s3 H3 scope ce fp) ([] ++ pinsAt fp s7.heap) σ8 H' s'->Nx H'->∃m,m < n/\∃i H',Inv (X.blk s3 H3 scope ce fp) [] (wipe σ (own.map (·.2))) H' s'/\tn i s'.heap/\(∀b∈fp,H' b=none)/\W i m H':=fun {s' H'} I' nx=>by
    obtain ⟨m',hm,w'⟩:=hNx H' nx
    have pin':∀b∈fp,∀o,s7.heap.get? b=some o->s'.heap.get? b=some o/\H' b=none:=fun b hb o e=>
     let z:=I'.pin (b,o) (List.mem_append_right _ (List.mem_append_right _ (mem_pinsAt hb e)))
     ⟨z.1,z.2.1⟩
    have hl:(wipe σ (own.map (·.2))).length=σ8.length:=by rw [<-hw8,wipe_length]
    refine ⟨m',hm,i + 1,H',(I'.unpinned (pins:=[])).weak hl (fun j v e=>?_),T.keep _ _ _ st7 fun b hb o e=>(pin' b hb o e).1,fun b hb=>?_,w'⟩
    ·rw [<-hw8] at e
     exact (wipe_some e).1
    ·obtain ⟨o,e,_⟩:=T.obj _ _ st7 b hb
     exact (pin' b hb o e).2
   cases b with
   | false=>
    simp only [Bool.false_eq_true,if_false] at q9 |-
    exact fin I9 q9
   | true=>
    simp only [if_true] at q9 |-
    refine thn (pe _ s9 σ8 H9 _ (I9.wish xe) q9) fun z s10 ⟨yv,H10,I10,r10,acc,hD10,hz10,nx⟩=>?_
    exact app_ok (X:=X.blk s3 H3 scope ce fp) (Inv.unwish I10) hD10 hz10 r10 fun s11 I11=>fin I11 nx
 exact codeAny_compStart_list loop (T.self X.A 0 _ _ _ st4 loop)
theorem pe_lcX {elt tg iter:Expr} {ifs:List Expr} {scope:Scope} {own:List (Str×Nat)} {pos:Pos} {wi:TI} {g:TG} {tt:TT} {te:TE} (hst:Top X) (hX:XOk C X E) (hc:X.calm=true) (hN:X.N.Nodup) (hi:PI X tg iter wi) (ok:BlkOk X.N X.env.scope scope own)
  (hg:∀(s:Shared) (H:Hp) (C:Addr) (cl:List (Str×Addr)) (fp:List Addr),PG (X.blk s H scope (compEnvC scope cl C X.env) fp) tg g) (ht:∀(s:Shared) (H:Hp) (C:Addr) (cl:List (Str×Addr)) (fp:List Addr),PTs (X.blk s H scope (compEnvC scope cl C X.env) fp) ifs tt)
  (he:∀(s:Shared) (H:Hp) (B:Addr) (cl:List (Str×Addr)) (fp:List Addr) (xe:Value->Shared->Prop),XOk C ((X.blk s H scope (compEnvC scope cl B X.env) fp).wish xe) E->PE ((X.blk s H scope (compEnvC scope cl B X.env) fp).wish xe) elt te) (hs:∀x,foldedSetIterable iter X.env x=pure x:=by intro _;rfl) :
  PE X (.ListComp elt [⟨tg,iter,ifs,0⟩] scope pos) (tLc wi g tt te (own.map (·.2))):=by
 intro pins s σ H Q I h
 rw [eval_ListComp]
 refine lcX_core hst hX hc hN I hi ok hg ht he hs h fun D C s' m H' I' q hn f=>⟨m,hn,fun h'' sb=>?_⟩
 obtain ⟨f0,f1,f2,f3,f4,f5⟩:=f
 exact ⟨.ref D,H',I'.turned (t':=s'.toks) (fun b o hb e=>(sb.2 b hb).trans e) f0 f1 f3 f4 f5,rfl,q⟩
theorem ps_setLcX {i:Nat} {y:Str} {py:Pos} {elt tg iter:Expr} {ifs:List Expr} {scope:Scope} {own:List (Str×Nat)} {pos spos:Pos} {wi:TI} {g:TG} {tt:TT} {te:TE} (hst:Top X) (hX:XOk C X E) (hc:X.calm=true) (hN:X.N.Nodup) (hy:X.N[i]? = some y) (hyl:X.env.scope.names.lookup y=some .local)
  (hsw:swapsWith (.ListComp elt [⟨tg,iter,ifs,0⟩] scope pos) (some (.Name y py)) spos.line X.env=pure true) (hi:PI X tg iter wi) (ok:BlkOk X.N X.env.scope scope own)
  (hg:∀(s:Shared) (H:Hp) (C:Addr) (cl:List (Str×Addr)) (fp:List Addr),PG (X.blk s H scope (compEnvC scope cl C X.env) fp) tg g) (ht:∀(s:Shared) (H:Hp) (C:Addr) (cl:List (Str×Addr)) (fp:List Addr),PTs (X.blk s H scope (compEnvC scope cl C X.env) fp) ifs tt)
  (he:∀(s:Shared) (H:Hp) (B:Addr) (cl:List (Str×Addr)) (fp:List Addr) (xe:Value->Shared->Prop),XOk C ((X.blk s H scope (compEnvC scope cl B X.env) fp).wish xe) E->PE ((X.blk s H scope (compEnvC scope cl B X.env) fp).wish xe) elt te) (hs:∀x,foldedSetIterable iter X.env x=pure x:=by intro _;rfl) :
  PS X (.Assign [.Name y py] (.ListComp elt [⟨tg,iter,ifs,0⟩] scope pos) spos) (tAsg (tLc wi g tt te (own.map (·.2))) (gName i)):=by
 intro pins s σ H D I h
 rw [exec_Assign_Name_used _ _ _ _ hsw]
 refine wpAny_bind (wpAny_standAt (wpAny_bind ?_))
 show wpAny _ X.A (do let _ <-comprehension (.ListComp elt [⟨tg,iter,ifs,0⟩] scope pos) scope X.env (firstIterPos [⟨tg,iter,ifs,0⟩] pos) (newList []) false (eval iter X.env) (some (assign (.Name y py) X.env))) _ _ s
 have h:tLc wi g tt te (own.map (·.2)) σ H (fun x H1=>gName i x σ H1 D.nx):=h
 refine wpAny_bind (thn (lcX_core (Qf:=fun _ s'=>SP X pins D .next s') hst hX hc hN I hi ok hg ht he hs h fun L C s' m H' I' q hn f=>?_) fun _ s' hq=>wpAny_pure (wpAny_pure hq))
 show wpAny _ _ (assign (.Name y py) X.env (.ref L)) _ _ _
 refine wpAny_assign_Name (store_ok2 (v:=V.ref L) I' hN hy (.inl hyl) rfl (fun s2 I2 ⟨a,sb,ha⟩=>?_) (.inr hyl))
 obtain ⟨f0,f1,f2,f3,f4,f5⟩:=f
 have haC:C≠a:=by
  rcases ha with z | z
  ·rw [z];exact f1
  ·exact fun e=>f4 y a z e.symm
 refine ⟨m,hn.sameBut sb haC,fun h3 sb3=>?_⟩
 exact ⟨_,H',I2.turned (t':=s2.toks) (fun b o hb e=>(sb3.2 b hb).trans e) f0 f1 f3 f4 f5,q⟩
end
end L2
namespace PySem
open Sem (wp)
section
variable {prog:Program} {w:World} {A:Around} {E:Value->Shared->Prop} {h:Heap} {g:Array GenState} {d:Drawn} {t:Nat} {os:OsState}
variable {nm q:Str} {C N:Addr} {bs bm:List Value} {sn:List Str} {sub:List Value} {ab:Bool} {col:Option Bool} {dd:Option Addr} {k0 k1 k2 k3 k5:Option Value} {B newId initId sa owner:String}
theorem xmake_entry (F:ExcBaseFacts B newId initId bm) {mN:Str->Option Value} {rest:List Value} {fI:Addr} {oI:Obj} {Q:Fin->Shared->Prop}
  (hC:h.get? C=some (excClassObj nm q C N bs bm true sn sub ab col dd k0 k1 k2 k3 k5 newId)) (hn:h.Ns N mN) (hi:mN "__init__" = some (.ref fI))
  (hfI:h.get? fI=some oI) (hfc:oI.cls=.type "function")
  (hq:wpAny (model prog w) A (call (.ref fI) (.ref (h.objs.size + 1) :: rest)) (fun r s'=>r=.none/\Q (.done (.ret (.ref (h.objs.size + 1)))) s') E
   ⟨(h.push {cls:=.type "tuple",data:=.seq rest.toArray}).push {cls:=.ref C,data:=.fields #[.ref h.objs.size,.none,.none,.none,.bool false,.none]},g,d,t,os⟩) (hrest:rest.length<=sizeLine) :
  wpAny (model prog w) A (Builtin.«type.__call__» ⟨.ref C :: rest,[]⟩) Q E ⟨h,g,d,t,os⟩:=by
 generalize hT:({cls:=.type "tuple",data:=.seq rest.toArray}:Obj)=oT at hq
 generalize hX:({cls:=.ref C,data:=.fields #[.ref h.objs.size,.none,.none,.none,.bool false,.none]}:Obj)=oX at hq
 have oXc:oX.cls=.ref C:=by rw [<-hX]
 have oXf:oX.isFreed=false:=by rw [<-hX];rfl
 repeat (first | with_reducible refine wpAny_madeBy_exc hC ?_ | with_reducible refine wpAny_loadPart_at hC ?_ | wp_step)
 apply codeAny_call_builtin_code (Code.quiet_builtin _ F.quiet) (wpAny_check_new_sub F hC (codeAny_exc_new_sub F hC ?_ hrest))
 rw [hT,hX]
 show wpAny _ _ _ _ _ _
 have lift:∀{b:Addr} {o:Obj},h.get? b=some o->((h.push oT).push oX).get? b=some o:=fun e=>Heap.get?_push_of_some _ (Heap.get?_push_of_some _ e)
 have cC:=lift hC
 have cF:=lift hfI
 have cN:((h.push oT).push oX).Ns N mN:=let ⟨o,es,ep,e,r⟩:=hn;⟨o,es,ep,lift e,r⟩
 have cX:((h.push oT).push oX).get? (h.objs.size + 1)=some oX:=by
  have z:=Heap.get?_push_size (h.push oT) (o:=oX) oXf
  rwa [Heap.size_push] at z
 have self:(Value.ref C :: bm).contains (.ref C)=true:=by simp
 unfold isInstance
 repeat (first | (with_reducible refine wpAny_loadPart_at cX ?_;rw [oXc]) | (with_reducible refine wpAny_isSubtype_exc cC ?_;rw [self]) | wp_step)
 show wpAny _ _ (typeLookup (.ref C) _) _ _ _
 refine wpAny_typeLookup_exc cC cN F.mroIs F.init.lookup ?_
 rw [hi]
 refine wpAny_holding (wpAny_bind ?_)
 unfold bindSpecial
 refine wpAny_bind (wpAny_typeOf (T:="function") (show Shared.TypeIs _ (.ref fI) "function" from ⟨_,cF,hfc⟩) ?_)
 rw [if_pos (by decide)]
 refine wpAny_pure (wpAny_bind (wpAny_mono hq (fun r s' z=>?_) fun _ _ x=>x))
 obtain ⟨rfl,z⟩:=z
 wp_walk
 exact z
theorem xmake (F:ExcBaseFacts B newId initId bm) {mN:Str->Option Value} {rest:List Value} {fI:Addr} {oI:Obj} {Q:Value->Shared->Prop}
  (hC:h.get? C=some (excClassObj nm q C N bs bm true sn sub ab col dd k0 k1 k2 k3 k5 newId)) (hn:h.Ns N mN) (hi:mN "__init__" = some (.ref fI))
  (hfI:h.get? fI=some oI) (hfc:oI.cls=.type "function")
  (hq:wpAny (model prog w) (A.under (.builtin "type.__call__" ⟨.ref C :: rest,[]⟩)) (call (.ref fI) (.ref (h.objs.size + 1) :: rest)) (fun r s'=>r=.none/\Q (.ref (h.objs.size + 1)) s') E
   ⟨(h.push {cls:=.type "tuple",data:=.seq rest.toArray}).push {cls:=.ref C,data:=.fields #[.ref h.objs.size,.none,.none,.none,.bool false,.none]},g,d,t,os⟩) (hrest:rest.length<=sizeLine) :
  wpAny (model prog w) A (call (.ref C) rest) Q E ⟨h,g,d,t,os⟩:=by
 have a1:=tc_lookup
 have a2:=tc_bind (.ref C)
 have ty:(⟨h,g,d,t,os⟩:Shared).TypeIs (.ref C) "type":=⟨_,hC,rfl⟩
 apply wpAny_call (codeAny_of_tree ?_)
 show wpAny _ _ (callAny (.ref C) _) _ _ _
 repeat (any_goals (first | assumption | wp_step | with_reducible refine wpAny_loadPart_at hC ?_))
 refine ⟨rfl,codeAny_call_builtin_at (Code.quiet_builtin _ (by decide +kernel)) entry_typeCall (wpAny_check_type_call_sub hC (xmake_entry F hC hn hi hfI hfc ?_ hrest))⟩
 exact hq
theorem xinit (F:ExcBaseFacts B newId initId bm) {e:Addr} {oe:Obj} {vs:Array Value} {Q:Value->Shared->Prop}
  (hC:h.get? C=some (excClassObj nm q C N bs bm true sn sub ab col dd k0 k1 k2 k3 k5 newId)) (he:h.get? e=some oe) (hcls:oe.cls=.ref C) (hd:oe.data=.fields vs) (hz:0 < vs.size) {v0:Value} (h0:vs[0]? = some v0)
  (hq:Q .none ⟨(h.push {cls:=.type "tuple",data:=.seq #[]}).update e (Obj.mapFields (·.setIfInBounds 0 (.ref h.objs.size))),g,d,t,os⟩) :
  wpAny (model prog w) A (call (.builtin initId) [.ref e]) Q E ⟨h,g,d,t,os⟩:=by
 have cE:=Heap.get?_push_of_some {cls:=.type "tuple",data:=.seq #[]} he
 refine wpAny_call (codeAny_call_builtin F.init.plain F.initEntry (wpAny_check_init_sub F hC he hcls ?_))
 wp_walk
 rw [hd]
 refine wpAny_pure ?_
 rw [h0]
 refine wpAny_pure (wpAny_bind (wpAny_setField cE hd hz ?_))
 have lg:wpAny (model prog w) A.in1 (match v0 with | .ref a=>letGo [v0] | x=>pure ()) (fun _ s'=>Q .none s') (fun e s'=>E e s') ⟨(h.push {cls:=.type "tuple",data:=.seq #[]}).update e (Obj.mapFields (·.setIfInBounds 0 (.ref h.objs.size))),g,d,t,os⟩:=by
  cases v0 <;> first | exact wpAny_pure hq | exact wpAny_letGo hq
 exact wpAny_mono lg (fun _ _ z=>wpAny_pure z) fun _ _ z=>z
theorem xstore_to (SF:StoreFacts B bm sa owner) {x:Addr} {ox:Obj} {mN:Str->Option Value} {name:Str} {v:Value} {Q:Unit->Shared->Prop}
  (hC:h.get? C=some (excClassObj nm q C N bs bm true sn sub ab col dd k0 k1 k2 k3 k5 newId)) (hn:h.Ns N mN) (hns:mN "__setattr__" = none) (hna:mN name=none)
  (hB:typeLookup (.type B) name=pure none) (hx:h.get? x=some ox) (hc:ox.cls=.ref C) {vs:Array Value} (hd:ox.data=.fields vs)
  (hq:∀dx h1,(ox.dict=some dx/\h1=h)\/(ox.dict=none/\dx=h.objs.size/\h1=(h.push {cls:=.type "dict",data:=.dict #[]}).update x fun o=>{cls:=o.cls,dict:=some h.objs.size,data:=o.data,slots:=o.slots})->
   wpAny (model prog w) A.in1 (Builtin.ObjectAttr.storeInDict dx (.str name t) name v) (fun fin s''=>fin=.done (.ret .none)/\Q () s'') E ⟨h1,g,d,t + 1,os⟩) :
  wpAny (model prog w) A (setAttr (.ref x) name v) Q E ⟨h,g,d,t,os⟩:=by
 have f3:=SF.slot.bind (.ref x)
 have isO:(Value.ref C :: bm).contains (.type owner)=true:=by rw [List.contains_cons,SF.hasOwner,Bool.or_true]
 have goes:=SF.passes (.ref x)
 unfold setAttr callSpecial? specialOf
 repeat (any_goals (first | assumption | (with_reducible refine wpAny_loadPart_at hx ?_;rw [hc]) | (with_reducible refine wpAny_typeLookup_exc hC hn SF.mro SF.slot.lookup ?_;rw [hns]) | wp_step))
 refine codeAny_call_builtin SF.slot.plain SF.entry (wpAny_check_sa SF hC hx hc ?_)
 unfold Builtin.«object.__setattr__»
 repeat (first | rw [refuse_eq] | (rw [refuseLoop_ref,goes]) | (with_reducible refine wpAny_loadPart_at hx ?_;rw [hc]) | with_reducible refine wpAny_mroOf_exc hC ?_ | (with_reducible refine wpAny_typeLookup_exc hC hn SF.mro hB ?_;rw [hna]) | wp_step)
 cases hdc:ox.dict with
 | some dx=>exact wpAny_pure (wpAny_mono (hq dx h (.inl ⟨hdc,rfl⟩)) (fun f s'' ⟨e,r⟩=>by subst e;exact wpAny_pure (wpAny_pure r)) fun _ _ r=>r)
 | none=>
  rw [hd]
  show wpAny _ _ (if _ then _ else _) _ _ _
  rw [if_neg (by simp [typeHasDict])]
  have hx1:(h.push {cls:=.type "dict",data:=.dict #[]}).get? x=some ox:=Heap.get?_push_of_some _ hx
  exact wpAny_bind (wpAny_alloc' (wpAny_bind (wpAny_update' hx1 (wpAny_pure (wpAny_mono (hq h.objs.size _ (.inr ⟨hdc,rfl,rfl⟩)) (fun f s'' ⟨e,r⟩=>by subst e;exact wpAny_pure (wpAny_pure r)) fun _ _ r=>r)))))
theorem xstore_new (SF:StoreFacts B bm sa owner) {x:Addr} {ox:Obj} {mN:Str->Option Value} {name:Str} {v:Value} {Q:Unit->Shared->Prop}
  (hC:h.get? C=some (excClassObj nm q C N bs bm true sn sub ab col dd k0 k1 k2 k3 k5 newId)) (hn:h.Ns N mN) (hns:mN "__setattr__" = none) (hna:mN name=none)
  (hB:typeLookup (.type B) name=pure none) (hx:h.get? x=some ox) (hc:ox.cls=.ref C) {vs:Array Value} (hd:ox.data=.fields vs) (hdn:ox.dict=none)
  (hq:∀h' tk',h'.get? x=some {ox with dict:=some h.objs.size}->h'.Ns1 h.objs.size (fun y=>if y=name then some v else none)->(∀b o,b≠x->h.get? b=some o->h'.get? b=some o)->Q () ⟨h',g,d,tk',os⟩) :
  wpAny (model prog w) A (setAttr (.ref x) name v) Q E ⟨h,g,d,t,os⟩:=by
 refine xstore_to SF hC hn hns hna hB hx hc hd fun dx h1 z=>?_
 rcases z with ⟨e,_⟩ | ⟨_,rfl,rfl⟩
 ·rw [hdn] at e;cases e
 have ne:x≠h.objs.size:=Nat.ne_of_lt (Heap.lt_size hx)
 have hx1:(h.push {cls:=.type "dict",data:=.dict #[]}).get? x=some ox:=Heap.get?_push_of_some _ hx
 have e0:(h.push {cls:=.type "dict",data:=.dict #[]}).get? h.objs.size=some {cls:=.type "dict",data:=.dict #[]}:=Heap.get?_push_size h rfl
 generalize hh1:((h.push {cls:=.type "dict",data:=.dict #[]}).update x fun o=>{cls:=o.cls,dict:=some h.objs.size,data:=o.data,slots:=o.slots})=h1
 have e1:h1.get? h.objs.size=some {cls:=.type "dict",data:=.dict #[]}:=by rw [<-hh1,Heap.get?_update_other _ _ ne];exact e0
 have e2:h1.get? x=some {ox with dict:=some h.objs.size}:=by
  rw [<-hh1]
  refine Heap.get?_update_self _ hx1 ?_
  show ({ox with dict:=some h.objs.size}:Obj).isFreed=false
  unfold Obj.isFreed
  rw [show ({ox with dict:=some h.objs.size}:Obj).data=.fields vs from hd]
 have e3:∀b o,b≠x->h.get? b=some o->h1.get? b=some o:=fun b o hb q=>by rw [<-hh1,Heap.get?_update_other _ _ (Ne.symm hb)];exact Heap.get?_push_of_some _ q
 have n1:h1.Ns h.objs.size (fun _=>none):=⟨_,#[],_,e1,rfl,fun e he=>absurd he (by simp),fun _=>rfl⟩
 unfold Builtin.ObjectAttr.storeInDict Builtin.ObjectAttr.newKeyGuard
 refine wpAny_bind (wpAny_pure (wpAny_bind (wpAny_nsSet1 (Heap.Ns1.of_empty n1) fun h' hn' hs=>?_)))
 obtain ⟨oD,esD,epD,hoD,hdD,hcD⟩:=hn'.count (Within.cons name v Within.nil)
 refine wpAny_bind (wpAny_lookBehind hoD (by rw [hdD];exact pastItsLine_dict (Nat.le_trans hcD (by rw [List.length_cons,List.length_nil,sizeLine_eq];omega))) ?_)
 exact wpAny_pure ⟨rfl,hq h' _ ((hs.2 x ne).trans e2) hn' fun b o hb q=>(hs.2 b (Nat.ne_of_lt (Heap.lt_size q))).trans (e3 b o hb q)⟩
theorem xstore_old (SF:StoreFacts B bm sa owner) {x dx:Addr} {ox:Obj} {mN mA:Str->Option Value} {ns:List Str} {name:Str} {v:Value} {Q:Unit->Shared->Prop}
  (hC:h.get? C=some (excClassObj nm q C N bs bm true sn sub ab col dd k0 k1 k2 k3 k5 newId)) (hn:h.Ns N mN) (hns:mN "__setattr__" = none) (hna:mN name=none)
  (hB:typeLookup (.type B) name=pure none) (hx:h.get? x=some ox) (hc:ox.cls=.ref C) {vs:Array Value} (hd:ox.data=.fields vs) (hdx:ox.dict=some dx) (hnd:h.Ns1 dx mA) (hw:Within mA ns) (hsz:ns.length<=1000)
  (hq:∀h' tk',h'.Ns1 dx (fun y=>if y=name then some v else mA y)->Heap.SameBut dx h h'->Q () ⟨h',g,d,tk',os⟩) :
  wpAny (model prog w) A (setAttr (.ref x) name v) Q E ⟨h,g,d,t,os⟩:=by
 refine xstore_to SF hC hn hns hna hB hx hc hd fun dx' h1 z=>?_
 rcases z with ⟨e,rfl⟩ | ⟨e,_⟩
 ·rw [hdx] at e;cases e
  unfold Builtin.ObjectAttr.storeInDict Builtin.ObjectAttr.newKeyGuard
  refine wpAny_bind (wpAny_pure (wpAny_bind (wpAny_nsSet1 hnd fun h' hn' hs=>?_)))
  obtain ⟨oD,esD,epD,hoD,hdD,hcD⟩:=hn'.count (Within.cons name v hw)
  refine wpAny_bind (wpAny_lookBehind hoD (by rw [hdD];exact pastItsLine_dict (Nat.le_trans hcD (by rw [List.length_cons,sizeLine_eq];omega))) ?_)
  exact wpAny_pure ⟨rfl,hq h' _ hn' hs⟩
 ·rw [hdx] at e;cases e
end
end PySem
namespace L2
open PySem PySem.Spec PyProof.Rows
abbrev bmE:List Value:=[.type "Exception",.type "BaseException",.type "object"]
theorem ns_some_of {K:PySem.W.Frag} {h:Heap} {N:Addr} {m:Str->Option Value} {n:Str} {v:Value} (X:K.In h) (G:h.Ns N m) (e:PySem.W.nsIn K N n=some (some v)):m n=some v:=by
 obtain ⟨o,es,ep,ho,hd,_,hf⟩:=G
 unfold PySem.W.nsIn at e
 split at e
 ·rename_i c dd es' n' sl q
  have z:=X _ _ q
  rw [ho] at z
  cases z
  cases hd
  split at e
  ·rename_i en he
   rw [<-hf]
   unfold nsFind findBy
   rw [<-Array.find?_toList,he]
   exact Option.some.inj e
  ·split at e <;> cases e
 ·cases e
structure XCls (K:PySem.W.Frag) (C fI:Addr):Prop where
 ob:∃(nm q:Str) (N:Addr) (bs:List Value) (sn:List Str) (sub:List Value) (ab:Bool) (col:Option Bool) (dd:Option Addr) (k0 k1 k2 k3 k5:Option Value),
  K.lookup C=some (excClassObj nm q C N bs bmE true sn sub ab col dd k0 k1 k2 k3 k5 "Exception.__new__")/\PySem.W.nsOkIn K N=true/\PySem.W.nsIn K N "__init__" = some (some (.ref fI))/\PySem.W.nsIn K N "__setattr__" = some none/\
   PySem.W.nsIn K N "__getattribute__" = some none/\PySem.W.nsIn K N "__getattr__" = some none/\PySem.W.nsIn K N "place" = some none/\PySem.W.nsIn K N "kind" = some none
 fn:PySem.W.isFn K (.ref fI)=true
 kp:PySem.W.keepIn K (.ref C)=true
 em:PySem.W.exmOne K (.ref C) (.ref C)=some true
theorem XCls.at_ {K:PySem.W.Frag} {C fI:Addr} {h:Heap} (x:XCls K C fI) (X:K.In h) :
  ∃(nm q:Str) (N:Addr) (bs:List Value) (sn:List Str) (sub:List Value) (ab:Bool) (col:Option Bool) (dd:Option Addr) (k0 k1 k2 k3 k5:Option Value) (m:Str->Option Value),
   h.get? C=some (excClassObj nm q C N bs bmE true sn sub ab col dd k0 k1 k2 k3 k5 "Exception.__new__")/\h.Ns N m/\m "__init__" = some (.ref fI)/\m "__setattr__" = none/\m "__getattribute__" = none/\m "__getattr__" = none/\m "place" = none/\m "kind" = none:=by
 obtain ⟨nm,q,N,bs,sn,sub,ab,col,dd,k0,k1,k2,k3,k5,e0,e1,e2,e3,e4,e5,e6,e7⟩:=x.ob
 have G:h.Ns N (h.nsMap N):=.of_isNs (PySem.W.isNs_of_in X e1)
 exact ⟨nm,q,N,bs,sn,sub,ab,col,dd,k0,k1,k2,k3,k5,_,X _ _ e0,G,ns_some_of X G e2,PySem.W.ns_none_of X G e3,PySem.W.ns_none_of X G e4,PySem.W.ns_none_of X G e5,PySem.W.ns_none_of X G e6,PySem.W.ns_none_of X G e7⟩
theorem XCls.fnAt {K:PySem.W.Frag} {C fI:Addr} {h:Heap} (x:XCls K C fI) (X:K.In h):∃o,h.get? fI=some o/\o.cls=.type "function":=by
 have e:PySem.W.typeIn K (.ref fI)=some (.type "function"):=beq_iff_eq.mp x.fn
 obtain ⟨o,h1,h2⟩:=Option.map_eq_some_iff.mp (show (K.lookup fI).map (·.cls)=some (.type "function") from e)
 exact ⟨o,X _ _ h1,h2⟩
theorem no_place:typeLookup (.type "Exception") "place" = pure none:=by rw [typeLookup_type,builtinLookup_eq_fast];kernel_rfl
theorem no_kind:typeLookup (.type "Exception") "kind" = pure none:=by rw [typeLookup_type,builtinLookup_eq_fast];kernel_rfl
def XO (C a:Addr) (d:Option Addr):HO:=.ext fun h=>∃vs sl,h.get? a=some ⟨.ref C,d,.fields vs,sl⟩/\vs.size=6/\vs[1]? = some .none
theorem xo_ok {P:Program} {w:World} {H:Hp} {h:Heap} {C a:Addr} {d:Option Addr} {vs:Array Value} {sl:Array (Option Value)} (e:h.get? a=some ⟨.ref C,d,.fields vs,sl⟩) (z:vs.size=6) (n:vs[1]? = some .none):ObjOk P w H h a (XO C a d):=
 ⟨⟨vs,sl,e,z,n⟩,⟨_,e⟩,fun h1 h2 ⟨vs,sl,e,z,n⟩ k=>⟨vs,sl,k _ e,z,n⟩⟩
theorem xo_get {P:Program} {w:World} {H:Hp} {h:Heap} {C a:Addr} {d:Option Addr} (ok:HOk P w H h) (e:H a=some (XO C a d)):∃vs sl,h.get? a=some ⟨.ref C,d,.fields vs,sl⟩/\vs.size=6/\vs[1]? = some .none:=
 (show ObjOk P w H h a (XO C a d) from ok a _ e).1
theorem upd_id {H:Hp} {a:Addr} {o:HO} (e:H a=some o):upd H a o=H:=by
 funext b
 unfold upd
 split
 ·rename_i q;rw [q,e]
 ·rfl
def xf (pl kd:Int):List (Str×V):=putF "kind" (.int kd) (putF "place" (.int pl) [])
def off (H:Hp) (a:Addr):Hp:=fun b=>if b=a then none else H b
theorem off_ne {H:Hp} {a b:Addr} (h:b≠a):off H a b=H b:=if_neg h
theorem off_same {H:Hp} {a:Addr}:off H a a=none:=if_pos rfl
section
variable {X:Cx} {pins:List (Addr×Obj)} {σ:St} {H:Hp} {s:Shared} {C a dx:Addr}
theorem Inv.forget {d:Option Addr} (I:Inv X pins σ H s) (e:H a=some (XO C a d)):Inv X pins σ (off H a) s:=by
 have ne:∀b u,H b=some u->(∀φ,u≠.ext φ)->b≠a:=fun b u q n z=>by rw [z,e] at q;exact n _ (Option.some.inj q).symm
 have nn:∀b,H b=none->off H a b=none:=fun b q=>by unfold off;split <;> first | rfl | exact q
 refine ⟨I.ok,I.os,I.bare,⟨I.base.keep,I.base.slot,fun b o q n hx=>nn b (I.base.free b o q n hx),I.base.there,fun b xs q=>?_,fun b o u q=>?_,fun b ps q=>?_⟩,I.loc,I.cell,nn _ I.free,fun x c q=>nn _ (I.freeC x c q),
  fun p hp=>⟨(I.pin p hp).1,nn _ (I.pin p hp).2.1,(I.pin p hp).2.2⟩,fun b o q=>?_,I.len⟩
 ·have z:=I.base.tups b xs q
  rw [off_ne (ne b _ z fun φ r=>nomatch r)];exact z
 ·have z:=I.base.frzs b o u q
  rw [off_ne (ne b _ z fun φ r=>nomatch r)];exact z
 ·obtain ⟨more,z⟩:=I.base.tbls b ps q
  exact ⟨more,by rw [off_ne (ne b _ z fun φ r=>nomatch r)];exact z⟩
 ·have hb:b≠a:=fun z=>by rw [z,off_same] at q;cases q
  rw [off_ne hb] at q
  exact (I.hok b o q).stay (fun _ _ _ r=>r) (fun c r=>by rw [off_ne (ne c _ r fun φ z=>nomatch z)];exact r) fun c xs r=>by rw [off_ne (ne c _ r fun φ z=>nomatch z)];exact r
end
def spInit (C:Addr):Sp:=fun vs H Q _=>∃(a:Addr) (pl kd:Int),vs=[.ref a,.int pl,.int kd]/\H a=some (XO C a none)/\∀dx,H dx=none->Q .non (upd (upd H dx (.xd (xf pl kd))) a (XO C a (some dx)))
def tRaise (C:Addr) (E:XK) (t:TA):TS:=fun _ σ H=>t σ H fun vs H1=>∃pl kd:Int,vs=[.int pl,.int kd]/\∀dx,H1 dx=none->E (.ref C) (some dx) (upd H1 dx (.xd (xf pl kd)))
section
variable {X:Cx} {k:Nat} {fI C:Addr} {fd:FuncData} {ps:List Str} {E:XK} {x:Str} {p cpos pos:Pos} {e:Expr} {es:List Expr} {t:TA}
theorem run_xmake {CX:CXT} {pins:List (Addr×Obj)} {σ:St} {H:Hp} {s:Shared} {us:List Value} {pl kd:Int} {Q:Value->Shared->Prop} {E':Value->Shared->Prop} (XC:XCls X.K C fI) (F:FnOk X.prog X.w X.K X.mg X.base CX k fI fd ps (spInit C)) (hr:Room (k + 1) X.A) (hb:Binds X.K fd ps [])
  (hcx:∀H s e s',CX X.stack H s E0 e s'->False) (I:Inv X pins σ H s) (r:Vals [.int pl,.int kd] us)
  (h:∀(a dx:Addr) (s':Shared),Inv X pins σ (upd H dx (.xd (xf pl kd))) s'->Fly X pins C a dx none (upd H dx (.xd (xf pl kd))) s'.heap->H dx=none->Q (.ref a) s') :
  wpAny (model X.prog X.w) X.A (call (.ref C) us) Q E' s:=by
 obtain ⟨hp,g,d,tk,os⟩:=s
 obtain ⟨nm,q,N,bs,sn,sub,ab,col,dd,k0,k1,k2,k3,k5,m,hC,hn,hi,_⟩:=XC.at_ I.kIn
 obtain ⟨oI,hfI,hfc⟩:=XC.fnAt I.kIn
 refine xmake PySem.F.excBase_Exception hC hn hi hfI hfc ?_ (by rw [<-r.length];show 2<=sizeLine;decide)
 have e0:((hp.push {cls:=.type "tuple",data:=.seq us.toArray}).push {cls:=.ref C,data:=.fields #[.ref hp.objs.size,.none,.none,.none,.bool false,.none]}).get? (hp.objs.size + 1)=some {cls:=.ref C,data:=.fields #[.ref hp.objs.size,.none,.none,.none,.bool false,.none]}:=by
  have z:=Heap.get?_push_size (hp.push {cls:=.type "tuple",data:=.seq us.toArray}) (o:={cls:=.ref C,data:=.fields #[.ref hp.objs.size,.none,.none,.none,.bool false,.none]}) rfl
  rwa [Heap.size_push] at z
 have I1:Inv X pins σ H ⟨hp.push {cls:=.type "tuple",data:=.seq us.toArray},g,d,tk,os⟩:=I.kept (t':=tk) fun b u z=>Heap.get?_push_of_some _ z
 have I2:Inv X pins σ (upd H (hp.objs.size + 1) (XO C (hp.objs.size + 1) none)) ⟨(hp.push {cls:=.type "tuple",data:=.seq us.toArray}).push {cls:=.ref C,data:=.fields #[.ref hp.objs.size,.none,.none,.none,.bool false,.none]},g,d,tk,os⟩:=
  I1.laid (t':=tk) (fun b u z=>Heap.get?_push_of_some _ z) (by rw [show (hp.push {cls:=.type "tuple",data:=.seq us.toArray}).objs.size=hp.objs.size + 1 from Heap.size_push ..];exact Nat.le_refl _) (xo_ok e0 rfl rfl)
 have fresh:hp.objs.size<=hp.objs.size + 1:=Nat.le_succ _
 have nA:H (hp.objs.size + 1)=none:=I.hok.fresh fresh
 generalize ha:hp.objs.size + 1=a at I2 e0 nA fresh |-
 generalize hs2:(⟨(hp.push {cls:=.type "tuple",data:=.seq us.toArray}).push {cls:=.ref C,data:=.fields #[.ref hp.objs.size,.none,.none,.none,.bool false,.none]},g,d,tk,os⟩:Shared)=s2 at I2 |-
 have sz:a < s2.heap.objs.size:=I2.hok.lt upd_same
 have r2:Vals [V.ref a,.int pl,.int kd] (Value.ref a :: us):=.cons rfl r
 have hsp:spInit C [V.ref a,.int pl,.int kd] (upd H a (XO C a none)) (fun v H'=>v=.non/\∃dx,H dx=none/\dx≠a/\H'=upd (upd (upd H a (XO C a none)) dx (.xd (xf pl kd))) a (XO C a (some dx))) E0:=
  ⟨a,pl,kd,rfl,upd_same,fun dx hdx=>by
   have ne:dx≠a:=fun z=>by rw [z,upd_same] at hdx;cases hdx
   rw [upd_ne ne] at hdx
   exact ⟨rfl,dx,hdx,ne,rfl⟩⟩
 have hl:(Value.ref a :: us).length=ps.length:=by rw [<-r2.length];exact F.len _ _ _ _ hsp
 have hb':=hb s2 (Value.ref a :: us) I2.kIn (by rw [List.append_nil];exact hl)
 rw [List.append_nil] at hb'
 refine wpAny_call (codeAny_mono (F.run _ X.stack s2 _ ⟨Value.ref a :: us,[]⟩ (Value.ref a :: us) _ _ E0 (hr.make C us []) (I2.env0.make C us []) hb' r2 hsp) fun res s' hq=>?_)
 cases res with
 | error er=>exact (hcx _ _ _ _ hq).elim
 | ok fl=>
  cases fl with
  | ret u=>
   obtain ⟨v,H',I3,rv,ev,dx,hdx,ne,rfl⟩:=I2.after hq
   subst ev
   have rv:u=.none:=rv
   refine ⟨rv,?_⟩
   have eo:off (upd (upd (upd H a (XO C a none)) dx (.xd (xf pl kd))) a (XO C a (some dx))) a=upd H dx (.xd (xf pl kd)):=by
    funext b
    by_cases hba:b=a
    ·subst hba;rw [off_same,upd_ne (Ne.symm ne)];exact nA.symm
    ·rw [off_ne hba,upd_ne hba]
     by_cases hbd:b=dx
     ·subst hbd;rw [upd_same,upd_same]
     ·rw [upd_ne hbd,upd_ne hba,upd_ne hbd]
   obtain ⟨vs,sl,e1,z1,n1⟩:=xo_get I3.hok upd_same
   have I4:=I3.forget (C:=C) (d:=some dx) upd_same
   rw [eo] at I4
   have tr:upd (upd (upd H a (XO C a none)) dx (.xd (xf pl kd))) a (XO C a (some dx)) a=some (XO C a (some dx)):=upd_same
   refine h a dx s' I4 ⟨⟨vs,sl,e1,z1,n1⟩,⟨⟨by rw [upd_ne (Ne.symm ne)];exact nA,fun z=>?_,fun z=>?_,.inr (Nat.le_trans I.sz fresh),fun y c z w=>?_,fun pn hpn z=>?_⟩,Nat.le_trans I.sz fresh⟩,fun T z=>nomatch z⟩ hdx
   ·have q:=I3.free;rw [<-z] at q;rw [q] at tr;cases tr
   ·obtain ⟨_,o,ho,_⟩:=I.ok.funs.mem z
    have lt:=Heap.lt_size ho
    exact absurd (Nat.lt_of_lt_of_le lt (Nat.le_trans I.sz fresh)) (Nat.lt_irrefl _)
   ·have q:=I3.freeC y c z;rw [w] at q;rw [q] at tr;cases tr
   ·have q:=(I3.pin pn hpn).2.1;rw [z] at q;rw [q] at tr;cases tr
  | next=>exact False.elim hq
  | brk=>exact False.elim hq
  | cont=>exact False.elim hq
end
end L2
namespace PySem
open Sem (wp)
section
variable {M:Model} {A:Around} {s:Shared} {E:Value->Shared->Prop} {env:Env}
variable {nm q:Str} {C N:Addr} {bs bm:List Value} {hdct:Bool} {sn:List Str} {sub:List Value} {ab:Bool} {col:Option Bool} {dd:Option Addr} {k0 k1 k2 k3 k5:Option Value} {newId:String}
theorem xraise {x:Sem Value} {Q:Flow->Shared->Prop} (hbase:bm.contains (.type "BaseException")=true) (hh:A.handled=none)
  (h:wpAny M A x (fun v s1=>∃e dx,v=.ref e/\s1.heap.get? C=some (excClassObj nm q C N bs bm hdct sn sub ab col dd k0 k1 k2 k3 k5 newId)/\XRec s1.heap C e dx none/\E (.ref e) s1) E s) :
  wpAny M A (raiseStmt env (some x) none) Q E s:=by
 have isB:(Value.ref C :: bm).contains (.type "BaseException")=true:=by rw [List.contains_cons,hbase,Bool.or_true]
 unfold raiseStmt
 refine wpAny_bind (wpAny_mono h (fun v s1 z=>?_) fun _ _ x=>x)
 obtain ⟨e,dx,rfl,hC,rc,hE⟩:=z
 obtain ⟨hp,g,d,tk,os⟩:=s1
 obtain ⟨vs,sl,he,hz,h1⟩:=id rc
 repeat (first | with_reducible refine wpAny_loadPart_at he ?_ | with_reducible refine wpAny_loadPart_at hC ?_ | (with_reducible refine wpAny_isSubtype_exc hC ?_;rw [isB]) | with_reducible refine flight_none rc ?_ | wp_step)
 exact wpAny_raiseNew_none hh hE
end
end PySem
namespace L2
open PySem PySem.Spec PyProof.Rows
section
variable {X:Cx} {k:Nat} {fI C:Addr} {fd:FuncData} {ps:List Str} {E:XK} {x:Str} {p cpos pos:Pos} {e:Expr} {es:List Expr} {t:TA}
theorem ps_raise {CX:CXT} (XC:XCls X.K C fI) (F:FnOk X.prog X.w X.K X.mg X.base CX k fI fd ps (spInit C)) (hr:Room (k + 1) X.A) (hb:Binds X.K fd ps []) (hcx:∀H s e s',CX X.stack H s E0 e s'->False) (hc:X.calm=true) (hg:Gl X x) (hm:X.mg x=some (.ref C))
  (hxo:XOk C X E) (ha:PA X (e :: es) t) (hdb:(x == ("__debug__" : Str))=false:=by decide) (he:starEach (e :: es) X.env=(false,eval e X.env) :: starEach es X.env:=by rfl) (hpl:(backTo cpos (starEach es X.env)).any (·.1)=false:=by rfl) :
  PS X (.Raise (some (.Call (.Name x p) (e :: es) [] cpos)) none pos) (tRaise C E t):=by
 intro pins s σ H D I h
 obtain ⟨nm,q,N,bs,sn,sub,ab,col,dd,k0,k1,k2,k3,k5,_⟩:=XC.at_ I.kIn
 rw [arm_exec_Raise]
 refine wpAny_bind (wpAny_standAt ?_)
 have body:wpAny (model X.prog X.w) X.A (eval (.Call (.Name x p) (e :: es) [] cpos) X.env) (fun v s1=>∃a dx,v=.ref a/\X.K.In s1.heap/\XRec s1.heap C a dx none/\X.xe (.ref a) s1) X.xe s:=by
  refine wpAny_Call_Name_kw (ld_glob I hg hm ?_ hdb)
  refine PySem.W.callWith_K (h₀:=X.base) I.ok.mod.kin XC.kp (thn (ha cpos pins s σ H _ I h) fun us s1 ⟨vs,H1,I1,r,pl,kd,ev,q1⟩=>⟨I1.kIn,?_⟩) he hpl
  subst ev
  exact run_xmake XC F hr hb hcx I1 r fun a dx s2 I2 f2 hdx=>⟨a,dx,rfl,I2.kIn,f2.rc,hxo pins σ _ s2 a dx none I2 f2 (q1 dx hdx)⟩
 obtain ⟨nm,q,N,bs,sn,sub,ab,col,dd,k0,k1,k2,k3,k5,e0,_⟩:=XC.ob
 show wpAny _ _ (raiseStmt X.env (some (do let v <-eval (.Call (.Name x p) (e :: es) [] cpos) X.env;standAt pos;pure v)) none) _ _ s
 refine xraise (C:=C) (bm:=bmE) (nm:=nm) (q:=q) (N:=N) (bs:=bs) (hdct:=true) (sn:=sn) (sub:=sub) (ab:=ab) (col:=col) (dd:=dd) (k0:=k0) (k1:=k1) (k2:=k2) (k3:=k3) (k5:=k5) (newId:="Exception.__new__") rfl (I.ok.hd hc) ?_
 exact wpAny_bind (wpAny_mono body (fun v s1 ⟨a,dx,e1,e2,e3,e4⟩=>wpAny_bind (wpAny_standAt (wpAny_pure ⟨a,dx,e1,e2 _ _ e0,e3,e4⟩))) fun _ _ z=>z)
end
def tXInit (C:Addr) (ta:TE):TE:=fun σ H Q=>ta σ H fun x H1=>∃a d,x=.ref a/\H1 a=some (XO C a d)/\Q .non H1
def sXNew (C:Addr) (ta tv:TE) (f:Str):TS:=fun D σ H=>tv σ H fun y H1=>ta σ H1 fun x H2=>∃a,x=.ref a/\H2 a=some (XO C a none)/\∀dx,H2 dx=none->D.nx σ (upd (upd H2 dx (.xd (putF f y []))) a (XO C a (some dx)))
def sXOld (C:Addr) (ta tv:TE) (f:Str):TS:=fun D σ H=>tv σ H fun y H1=>ta σ H1 fun x H2=>∃a dx fs,x=.ref a/\H2 a=some (XO C a (some dx))/\H2 dx=some (.xd fs)/\fs.length < 1000/\D.nx σ (upd H2 dx (.xd (putF f y fs)))
section
variable {X:Cx} {C fI:Addr} {o value:Expr} {f:Str} {p1 p2 p3 pos pos':Pos} {ta tv:TE}
theorem exc_meta:typeOf (.type "Exception")=pure (.type "type"):=by kernel_rfl
theorem exc_find {K:PySem.W.Frag}:PySem.W.findCls K (.type "Exception") (.type "type") "__init__" = some (.val (.builtin "Exception.__init__")):=by kernel_rfl
theorem pe_xinit {pl:Sem Bool} (XC:XCls X.K C fI) (hg:Gl X "Exception") (hm:X.mg "Exception" = none) (ha:PE X o ta)
  (he:starEach [o] X.env=[(false,eval o X.env)]:=by rfl)
  (ht:eval (.Call (.Attribute (.Name "Exception" p1) "__init__" p2) [o] [] p3) X.env=(do
   let ov <-eval (.Name "Exception" p1) X.env
   standAt p2.atName
   let (f,first) <-holding [ov] (getMethod ov "__init__" pl)
   callWith p3 f first (backTo p3 (starEach [o] X.env)) (backToKw p3 (keywordEach [] X.env))):=by rfl):PE X (.Call (.Attribute (.Name "Exception" p1) "__init__" p2) [o] [] p3) (tXInit C ta):=by
 intro pins s σ H Q I h
 refine PySem.W.methodCall_KW (pl:=pl) (ld_blt I hg hm (u:=.type "Exception") (by kernel_rfl) ?_) ht
 obtain ⟨m,Fm⟩:=I.fr
 refine PySem.W.method_type Fm I.mod.kin exc_meta (by decide +kernel) (v:=.builtin "Exception.__init__") exc_find (by rfl) ?_
 have I':=I.tok (s.toks + 1)
 refine PyProof.Rows.callWith_builtin1 ?_ he rfl
 have pa:PA X [o] (tCons ta tNil):=pa_cons ha pa_nil he
 have h':tCons ta tNil σ H (fun vs H1=>match vs with | [x]=>∃a d,x=V.ref a/\H1 a=some (XO C a d)/\Q .non H1 | _=>False):=h
 refine thn (pa p3 pins _ σ H _ I' h') fun us s1 ⟨vs,H1,I1,r,q1⟩=>?_
 match vs,r,q1 with
 | [x],r,q1=>
  obtain ⟨a,d,rfl,hx,q⟩:=q1
  obtain ⟨u,rfl,ru⟩:=vals1 r
  obtain rfl:u=Value.ref a:=ru
  obtain ⟨vs,sl,e1,z1,n1⟩:=xo_get I1.hok hx
  obtain ⟨nm,qn,N,bs,sn,sub,ab,col,dd,k0,k1,k2,k3,k5,m,hC,_⟩:=XC.at_ I1.kIn
  obtain ⟨hp,g,dr,tk,os⟩:=s1
  have hz:0 < vs.size:=by omega
  refine xinit PySem.F.excBase_Exception hC e1 rfl rfl hz (v0:=vs[0]) (by simp [hz]) ?_
  have I2:Inv X pins σ H1 ⟨hp.push {cls:=.type "tuple",data:=.seq #[]},g,dr,tk,os⟩:=I1.kept (t':=tk) fun b u z=>Heap.get?_push_of_some _ z
  have e2:(hp.push {cls:=.type "tuple",data:=.seq #[]}).get? a=some ⟨.ref C,d,.fields vs,sl⟩:=Heap.get?_push_of_some _ e1
  have e3:((hp.push {cls:=.type "tuple",data:=.seq #[]}).update a (Obj.mapFields (·.setIfInBounds 0 (.ref hp.objs.size)))).get? a=some ⟨.ref C,d,.fields (vs.setIfInBounds 0 (.ref hp.objs.size)),sl⟩:=Heap.get?_update_self _ e2 rfl
  have I3:=I2.write (x:=a) (e:=a) (o:=XO C a d) (t':=tk) (h':=(hp.push {cls:=.type "tuple",data:=.seq #[]}).update a (Obj.mapFields (·.setIfInBounds 0 (.ref hp.objs.size)))) (by rw [hx];trivial) (.inl rfl)
   (fun b u hb z=>(Heap.get?_update_other _ _ (Ne.symm hb)).trans z) ⟨_,e3⟩ (xo_ok e3 (by simp [z1]) (by simp [n1]))
  rw [upd_id hx] at I3
  exact ⟨.non,H1,I3,rfl,q⟩
theorem xd_new {P:Program} {w:World} {H:Hp} {h:Heap} {dx:Addr} {y:V} {u:Value} (n:h.Ns1 dx (fun g=>if g=f then some u else none)) (r:RelV y u):ObjOk P w H h dx (.xd (putF f y [])):=by
 refine ⟨_,n,fun g=>?_,fun g hg=>?_⟩
 ·rw [lookup_putF]
  by_cases z:g=f
  ·rw [if_pos z,if_pos z];exact r
  ·rw [if_neg z,if_neg z];trivial
 ·by_cases z:g=f
  ·rw [z];exact (keys_putF f y []).1
  ·exact absurd (if_neg z) hg
theorem ps_xnew (XC:XCls X.K C fI) (hB:typeLookup (.type "Exception") f=pure none) (hf:f = "place"\/f = "kind") (ha:PE X o ta) (hv:PE X value tv) (hs:swapsWith value (some (.Attribute o f pos')) pos.line X.env=pure false) :
  PS X (.Assign [.Attribute o f pos'] value pos) (sXNew C ta tv f):=by
 intro pins s σ H D I h
 refine plainObj_wpAny_Assign_Attribute (thn (hv pins s σ H _ I h) fun u s1 ⟨y,H1,I1,ry,q⟩=>thn (ha pins s1 σ H1 _ I1 q) fun ov s2 ⟨x,H2,I2,rx,a,ex,ea,q2⟩=>?_) hs
 subst ex
 obtain rfl:ov=Value.ref a:=rx
 obtain ⟨vs,sl,e1,z1,n1⟩:=xo_get I2.hok ea
 obtain ⟨nm,qn,N,bs,sn,sub,ab,col,dd,k0,k1,k2,k3,k5,m,hC,hn,_,hsa,_,_,hpl,hkd⟩:=XC.at_ I2.kIn
 have hna:m f=none:=by rcases hf with z | z <;> rw [z] <;> assumption
 obtain ⟨hp,g,dr,tk,os⟩:=s2
 have nd:H2 hp.objs.size=none:=I2.hok.fresh (Nat.le_refl _)
 have ne:hp.objs.size≠a:=fun z=>by rw [z,ea] at nd;cases nd
 refine xstore_new PySem.F.store_Exception hC hn hsa hna hB e1 rfl rfl rfl fun h' tk' x1 x2 x3=>?_
 have apart:∀b w,H2 b=some w->(∀φ,w≠.ext φ)->b≠a/\b≠hp.objs.size:=fun b w e n=>⟨fun z=>(by rw [z,ea] at e;exact n _ (Option.some.inj e).symm),fun z=>(by rw [z,nd] at e;cases e)⟩
 have up:∀b w,H2 b=some w->(∀φ,w≠.ext φ)->upd (upd H2 hp.objs.size (.xd (putF f y []))) a (XO C a (some hp.objs.size)) b=some w:=fun b w e n=>by
  rw [upd_ne (apart b w e n).1,upd_ne (apart b w e n).2];exact e
 have fr:∀b ob,hp.get? b=some ob->H2 b=none->b≠a/\b≠hp.objs.size:=fun b ob e n=>⟨fun z=>(by rw [z,ea] at n;cases n),Nat.ne_of_lt (Heap.lt_size e)⟩
 have u:Un X.fs [] H2 (upd (upd H2 hp.objs.size (.xd (putF f y []))) a (XO C a (some hp.objs.size))) hp h':=by
  refine ⟨fun b ob e n _ _=>x3 b ob (fr b ob e n).1 e,fun b ob e n _ _=>⟨ob.slots,x3 b ob (fr b ob e n).1 e⟩,fun b ob e n _=>?_,fun b ob e _=>?_,fun b xs e=>up b _ e (fun φ z=>(nomatch z)),fun b ob v e=>up b _ e (fun φ z=>(nomatch z)),
   fun b ps e=>⟨#[],by rw [up b _ e (fun φ z=>(nomatch z))];simp⟩⟩
  ·rw [upd_ne (fr b ob e n).1,upd_ne (fr b ob e n).2];exact n
  ·by_cases hb:b=a
   ·rw [hb];exact ⟨_,x1⟩
   ·exact ⟨ob,x3 b ob hb e⟩
 have ok:HOk X.prog X.w (upd (upd H2 hp.objs.size (.xd (putF f y []))) a (XO C a (some hp.objs.size))) h':=fun b v e=>by
  by_cases h1:b=a
  ·subst h1
   rw [upd_same] at e
   cases e
   exact xo_ok x1 z1 n1
  ·rw [upd_ne h1] at e
   by_cases h2:b=hp.objs.size
   ·subst h2
    rw [upd_same] at e
    cases e
    exact xd_new x2 ry
   ·rw [upd_ne h2] at e
    refine (I2.hok b v e).stay (fun c w hc q=>x3 c w ?_ q) (fun c q=>up c _ q fun φ z=>nomatch z) fun c xs q=>up c _ q fun φ z=>nomatch z
    rcases hc with rfl | hc
    ·exact h1
    ·exact (apart c _ hc fun φ z=>nomatch z).1
 exact ⟨σ,_,I2.un (t':=tk') u ok,q2 _ nd⟩
theorem ps_xold (XC:XCls X.K C fI) (hB:typeLookup (.type "Exception") f=pure none) (hf:f = "place"\/f = "kind") (ha:PE X o ta) (hv:PE X value tv) (hs:swapsWith value (some (.Attribute o f pos')) pos.line X.env=pure false) :
  PS X (.Assign [.Attribute o f pos'] value pos) (sXOld C ta tv f):=by
 intro pins s σ H D I h
 refine plainObj_wpAny_Assign_Attribute (thn (hv pins s σ H _ I h) fun u s1 ⟨y,H1,I1,ry,q⟩=>thn (ha pins s1 σ H1 _ I1 q) fun ov s2 ⟨x,H2,I2,rx,a,dx,fs,ex,ea,ed,lf,q2⟩=>?_) hs
 subst ex
 obtain rfl:ov=Value.ref a:=rx
 obtain ⟨vs,sl,e1,z1,n1⟩:=xo_get I2.hok ea
 obtain ⟨mA,nA,rA,wA⟩:=(show ObjOk X.prog X.w H2 s2.heap dx (.xd fs) from I2.hok dx _ ed)
 obtain ⟨nm,qn,N,bs,sn,sub,ab,col,dd,k0,k1,k2,k3,k5,m,hC,hn,_,hsa,_,_,hpl,hkd⟩:=XC.at_ I2.kIn
 have hna:m f=none:=by rcases hf with z | z <;> rw [z] <;> assumption
 obtain ⟨hp,g,dr,tk,os⟩:=s2
 refine xstore_old PySem.F.store_Exception hC hn hsa hna hB e1 rfl rfl rfl nA wA (by rw [List.length_map];omega) fun h' tk' n' sb=>?_
 refine ⟨σ,_,I2.write (x:=dx) (e:=dx) (o:=.xd (putF f y fs)) (t':=tk') (by rw [ed];trivial) (.inl rfl) (fun b v hb z=>(sb.2 b hb).trans z) (let ⟨ob,_,_,z,_⟩:=n';⟨ob,z⟩) ⟨_,n',fun g=>?_,fun g hg=>?_⟩,q2⟩
 ·rw [lookup_putF]
  by_cases z:g=f
  ·rw [if_pos z,if_pos z];exact ry
  ·rw [if_neg z,if_neg z];exact rA g
 ·by_cases z:g=f
  ·rw [z];exact (keys_putF f y fs).1
  ·refine (keys_putF f y fs).2 g (wA g fun r=>hg ?_)
   show (if g=f then some u else mA g)=none
   rw [if_neg z];exact r
end
end L2
namespace L2
open PySem PySem.Spec PyProof.Rows
section
variable {P:Program} {w:World} {K:PySem.W.Frag} {mg:Str->Option Value} {base:Heap}
theorem Fun.okX {C:Addr} {x qual:Str} {st:Stmt} {f:Addr} {fd:FuncData} {N ps:List Str} {k:Nat} {sp:Sp} (F:Fun K x qual st f fd) (S:FnScope N ps (defScope st)) (len:∀vs H Q E,sp vs H Q E->vs.length=ps.length)
  (hbody:∀(cdv:Value) (A:Around) (outer:List Env) (s:Shared) (H:Hp) (vs:List V) (Q:VK) (E:XK),Room k (A.deeper (envOfC qual (defScope st) s.heap.objs.size f cdv))->sp vs H Q E->
   XOk C (cxOf (CXF P w C) P w K mg base N qual (defScope st) f cdv A outer s H E) E->
   PassesOwn (model P w) (cxOf (CXF P w C) P w K mg base N qual (defScope st) f cdv A outer s H E).A (cxOf (CXF P w C) P w K mg base N qual (defScope st) f cdv A outer s H E).env (cxOf (CXF P w C) P w K mg base N qual (defScope st) f cdv A outer s H E).xe->
   Top (cxOf (CXF P w C) P w K mg base N qual (defScope st) f cdv A outer s H E)->
   ∃t,PSs (cxOf (CXF P w C) P w K mg base N qual (defScope st) f cdv A outer s H E) (defBody st) t/\t {nx:=fun _ H'=>Q .non H',rt:=Q} (start N vs) H):FnOk P w K mg base (CXF P w C) (k + 1) f fd ps sp:=by
 obtain ⟨oc,od,kV,doc,pm,an,cdv,ct,osl,rfl,lk,hcd⟩:=F.ex
 refine fn_of lk hcd S len fun A outer s H vs Q E hr hsp=>?_
 exact hbody cdv A outer s H vs Q E hr hsp leave_xok pass_own ⟨_,_,_,rfl,rfl,rfl⟩
end
theorem for_rev {K:PySem.W.Frag} {a:Addr} {xs:List V} {g:TG} {tb:TS} {D:Ends} {σ:St} {H:Hp} (Pv:Nat->St->Hp->Prop) (h0:Pv 0 σ H) (hl:∀i σ H,i<=xs.length->Pv i σ H->SqL K H a xs)
  (hs:∀i x σ H,xs.reverse[i]? = some x->Pv i σ H->g x σ H fun σ2 H2=>tb {D with nx:=Pv (i + 1),ct:=Pv (i + 1),bk:=D.nx} σ2 H2) (hd:∀σ H,Pv xs.length σ H->D.nx σ H) :
  ∃W:Nat->Nat->St->Hp->Prop,(∃m,W 0 m σ H)/\∀i m σ H,W i m σ H->
   ((Itv K a xs.length).stop i H/\D.nx σ H)\/((Itv K a xs.length).go i H/\∃N:St->Hp->Prop,(∀σ' H',N σ' H'->∃m',m' < m/\W (i + 1) m' σ' H')/\∀x H',(Itv K a xs.length).yld i H x H'->g x σ H' fun σ2 H2=>tb {D with nx:=N,ct:=N,bk:=D.nx} σ2 H2):=by
 refine ⟨fun i m σ H=>m=xs.length - i/\i<=xs.length/\Pv i σ H,⟨xs.length,by simp,Nat.zero_le _,h0⟩,?_⟩
 rintro i m σ H ⟨rfl,hi,p⟩
 have q:=hl i σ H hi p
 by_cases hlt:i < xs.length
 ·have hx:xs[xs.length - 1 - i]? = some (xs[xs.length - 1 - i]'(by omega)):=by simp [show xs.length - 1 - i < xs.length by omega]
  refine .inr ⟨⟨hlt,xs,_,q,hx⟩,Pv (i + 1),fun σ' H' p'=>⟨xs.length - (i + 1),by omega,rfl,hlt,p'⟩,fun x H' y=>?_⟩
  obtain ⟨e,y⟩:=y
  subst e
  refine hs i x σ _ ?_ p
  rw [List.getElem?_reverse hlt]
  exact y xs q
 ·have e:i=xs.length:=by omega
  subst e
  exact .inl ⟨Nat.le_refl _,hd σ H p⟩
structure GFn (P:Program) (w:World) (K:PySem.W.Frag) (mg:Str->Option Value) (base:Heap) (CX:CXT) (k:Nat) (x:Str) (f:Addr) (fd:FuncData) (ps:List Str) (sp:Sp):Prop where
 glo:mg x=some (.ref f)
 kp:PySem.W.keepIn K (.ref f)=true
 b:Binds K fd ps []
 ok:FnOk P w K mg base CX k f fd ps sp
structure MFn (P:Program) (w:World) (K:PySem.W.Frag) (mg:Str->Option Value) (base:Heap) (CX:CXT) (k:Nat) (C:Addr) (m:Str) (f:Addr) (fd:FuncData) (ps:List Str) (sp:Sp):Prop where
 m:Meth K C m f
 b:Binds K fd ps []
 ok:FnOk P w K mg base CX k f fd ps sp
end L2
namespace Go
open PySem L2
def But (r:Addr) (H H':Hp):Prop:=∀b o,b≠r->H b=some o->H' b=some o
theorem But.refl (r:Addr) (H:Hp):But r H H:=fun _ _ _ h=>h
theorem But.trans {r:Addr} {H H1 H2:Hp} (a:But r H H1) (b:But r H1 H2):But r H H2:=fun c o n h=>b c o n (a c o n h)
theorem But.new {r p:Addr} {H:Hp} {o:HO} (hp:H p=none):But r H (upd H p o):=fun b u _ h=>by rw [upd_ne (ne_of_none h hp)];exact h
theorem But.of {r:Addr} {H H':Hp} (h:Same H H'):But r H H':=fun b o _ e=>h b o e
theorem But.upd {r p:Addr} {H H':Hp} {o:HO} (h:But r H H') (hp:H p=none):But r H (L2.upd H' p o):=fun b u n e=>by rw [upd_ne (ne_of_none e hp)];exact h b u n e
theorem But.updr {r:Addr} {H H':Hp} {o:HO} (h:But r H H'):But r H (L2.upd H' r o):=fun b u n e=>by rw [upd_ne n];exact h b u n e
theorem But.none' {r p:Addr} {H H':Hp} (h:But r H H') {o:HO} (hr:H' r=some o) (hp:H' p=.none):H p=.none:=by
 cases q:H p with
 | none=>rfl
 | some u=>
  by_cases e:p=r
  ·rw [e,hr] at hp;cases hp
  ·rw [h p u e q] at hp;cases hp
theorem But.seq {K:PySem.W.Frag} {r C dx:Addr} {fs:List (Str×V)} {H H':Hp} {a:Addr} {xs:List V} (e:But r H H') (hr:H r=some (.ins C dx fs)) (h:SqL K H a xs):SqL K H' a xs:=by
 rcases h with (h | ⟨o,h⟩) | h
 ·exact .inl (.inl (e _ _ (ne_of h hr (by intro z;cases z)) h))
 ·exact .inl (.inr ⟨o,e _ _ (ne_of h hr (by intro z;cases z)) h⟩)
 ·exact .inr h
theorem da:¬(("data" : Str) = "at"):=by decide +kernel
def rf (d:Addr) (p:Nat):List (Str×V):=putF "at" (.int p) (putF "data" (.ref d) [])
theorem rf_eq (d:Addr) (p:Nat):rf d p=([("data",V.ref d),("at",V.int p)]:List (Str×V)):=by
 show (if ("data" : Str) = "at" then [(("data" : Str),V.int p)] else (("data" : Str),V.ref d) :: putF "at" (V.int p) [])=([("data",V.ref d),("at",V.int p)]:List (Str×V))
 rw [if_neg da]
 all_goals rfl
theorem rf_data (d:Addr) (p:Nat):(rf d p).lookup ("data" : Str)=some (.ref d):=by
 unfold rf
 rw [lookup_putF,if_neg da,lookup_putF,if_pos rfl]
theorem rf_at (d:Addr) (p:Nat):(rf d p).lookup ("at" : Str)=some (.int p):=by
 unfold rf
 rw [lookup_putF,if_pos rfl]
theorem rf_no (d:Addr) (p:Nat) {m:Str} (h1:¬m = "at") (h2:¬m = "data"):(rf d p).lookup m=none:=by
 unfold rf
 rw [lookup_putF,if_neg h1,lookup_putF,if_neg h2]
 all_goals rfl
theorem rf_put (d:Addr) (p q:Nat):putF "at" (.int q) (rf d p)=rf d q:=by
 rw [rf_eq,rf_eq]
 show (if ("data" : Str) = "at" then _ else (("data" : Str),V.ref d) :: (if ("at" : Str) = "at" then [(("at" : Str),V.int q)] else _))=([("data",V.ref d),("at",V.int q)]:List (Str×V))
 rw [if_neg da,if_pos rfl]
theorem rf_len (d:Addr) (p:Nat):(rf d p).length < 1000:=by rw [rf_eq];show 2 < 1000;decide
def Bad (C r:Addr) (H:Hp) (E:XK) (pl kd:Nat):Prop:=∀dx H',But r H H'->H' dx=some (.xd (xf pl kd))->E (.ref C) (some dx) H'
theorem Bad.mono {C r:Addr} {H H':Hp} {E:XK} {pl kd:Nat} (h:Bad C r H E pl kd) (e:But r H H'):Bad C r H' E pl kd:=fun dx H2 e2 hd=>h dx H2 (e.trans e2) hd
structure Src (K:PySem.W.Frag) (H:Hp) (d:Addr) (s:List Int):Prop where
 ls:SqL K H d (s.map V.int)
 byt:∀z∈s,GM.isByte z
 len:s.length<=100000
theorem Src.but {K:PySem.W.Frag} {r C dx d:Addr} {fs:List (Str×V)} {H H':Hp} {s:List Int} (S:Src K H d s) (e:But r H H') (hr:H r=some (.ins C dx fs)):Src K H' d s:=⟨e.seq hr S.ls,S.byt,S.len⟩
theorem Src.mono {K:PySem.W.Frag} {d:Addr} {H H':Hp} {s:List Int} (S:Src K H d s) (e:Same H H'):Src K H' d s:=⟨e.seq S.ls,S.byt,S.len⟩
def Fresh (H:Hp) (v:V):Prop:=∀L,v=.ref L->H L=none
theorem fresh_int {H:Hp} {i:Int}:Fresh H (.int i):=fun _ z=>nomatch z
theorem fresh_ref {H:Hp} {L:Addr} (h:H L=none):Fresh H (.ref L):=fun _ z=>by cases z;exact h
structure Reads {α:Type} (K:PySem.W.Frag) (C CR r dx d:Addr) (s:List Int) (p:Nat) (act:Ql89.R α) (rel:α->V->Hp->Prop) (H:Hp) (Q:VK) (E:XK):Prop where
 at_:H r=some (.ins CR dx (rf d p))
 src:Src K H d s
 run:GM.Run act (Ql89Neutral.octets s) p (fun x q=>∀v H',But r H H'->H' r=some (.ins CR dx (rf d q))->rel x v H'->Fresh H v->Q v H') (Bad C r H E)
theorem Reads.call {α:Type} {K:PySem.W.Frag} {C CR r dx d:Addr} {s:List Int} {p:Nat} {act:Ql89.R α} {rel:α->V->Hp->Prop} {H H1:Hp} {Q:VK} {E:XK} {ok:α->Nat->Prop} (S:Src K H1 d s) (e:But r H H1) (h1:H1 r=some (.ins CR dx (rf d p)))
  (run:GM.Run act (Ql89Neutral.octets s) p ok (Bad C r H E)) (hok:∀x q,ok x q->∀v H',But r H1 H'->H' r=some (.ins CR dx (rf d q))->rel x v H'->Fresh H1 v->Q v H'):Reads K C CR r dx d s p act rel H1 Q E:=
 ⟨h1,S,GM.run_mono run (fun x q h v H' e' h' r' f'=>hok x q h v H' e' h' r' f') fun _ _ h=>h.mono e⟩
def relN (x:Nat) (v:V) (_:Hp):Prop:=v=.int (x:Int)
def relI (x:Int) (v:V) (_:Hp):Prop:=v=.int x
structure Txt (K:PySem.W.Frag) (mg:Str->Option Value) (C CR fF:Addr):Prop where
 xc:XCls K C fF
 cl:Cls K CR
 nD:NoAttr K CR "data"
 nA:NoAttr K CR "at"
 mgF:mg "Fault" = some (.ref C)
 len:mg "len" = none
 rev:mg "reversed" = none
 exc:mg "Exception" = none
section
variable (K:PySem.W.Frag) (C CR:Addr)
def spMk:Sp:=fun vs H Q _=>∃(x dx d:Addr),vs=[.ref x,.ref d]/\H x=some (.ins CR dx [])/\Q .non (upd H x (.ins CR dx (rf d 0)))
def spU:Sp:=fun vs H Q E=>∃(r dx d:Addr) (s:List Int) (p w:Nat),vs=[.ref r,.int w]/\(1<=w/\w<=8)/\Reads K C CR r dx d s p (Ql89.num w) relN H Q E
def numS (w:Nat):Ql89.R Int:=Ql89.num w >>= fun x=>pure (Ql89.signed (8 * w) x)
def spS:Sp:=fun vs H Q E=>∃(r dx d:Addr) (s:List Int) (p w:Nat),vs=[.ref r,.int w]/\(1<=w/\w<=8)/\Reads K C CR r dx d s p (numS w) relI H Q E
def spUW:Sp:=fun vs H Q E=>∃(r dx d:Addr) (s:List Int) (p w lo hi:Nat),vs=[.ref r,.int w,.int lo,.int hi]/\(1<=w/\w<=8)/\Reads K C CR r dx d s p (Ql89.numIn w lo hi) relN H Q E
def spSW:Sp:=fun vs H Q E=>∃(r dx d:Addr) (s:List Int) (p w:Nat) (lo hi:Int),vs=[.ref r,.int w,.int lo,.int hi]/\(1<=w/\w<=8)/\Reads K C CR r dx d s p (Ql89.signedIn w lo hi) relI H Q E
def spW:Sp:=fun vs H Q E=>∃(x lo hi p:Int),vs=[.int x,.int lo,.int hi,.int p]/\if lo<=x/\x<=hi then Q (.int x) H else ∀dx,H dx=none->E (.ref C) (some dx) (upd H dx (.xd (xf p 2)))
def spNF:Sp:=fun vs H Q E=>∃(r dx d:Addr) (s:List Int) (p:Nat),vs=[.ref r]/\H r=some (.ins CR dx (rf d p))/\Src K H d s/\if p < s.length then ∀dx,H dx=none->E (.ref C) (some dx) (upd H dx (.xd (xf p 5))) else Q .non H
def entry:Ql89.R Int:=Ql89.here >>= fun p=>Ql89.num 1 >>= fun x=>if x=0 then Ql89.fault p 3 else pure (Ql89.signed 8 x)
def spE:Sp:=fun vs H Q E=>∃(r dx d:Addr) (s:List Int) (p:Nat),vs=[.ref r]/\Reads K C CR r dx d s p entry relI H Q E
def Pairs (H:Hp) (ps:List (Int×Int)) (as:List Addr):Prop:=Paired (fun (p:Int×Int) (a:Addr)=>H a=some (.tup [.int p.1,.int p.2])) ps as
def PairsAt (H:Hp) (L:Addr) (ps:List (Int×Int)):Prop:=∃as:List Addr,H L=some (.lst (as.map V.ref))/\Pairs H ps as
def relP (first:Nat) (x:List Int) (v:V) (H:Hp):Prop:=∃L,v=.ref L/\PairsAt H L (GM.sparse first x)
def spB:Sp:=fun vs H Q E=>∃(r dx d:Addr) (s:List Int) (p first wide:Nat),vs=[.ref r,.int first,.int wide]/\wide<=64/\Reads K C CR r dx d s p (Ql89.readChunk wide) (relP first) H Q E
def spL:Sp:=fun vs H Q E=>∃(r dx d:Addr) (s:List Int) (p cols:Nat),vs=[.ref r,.int cols]/\(1<=cols/\cols<=4096)/\Reads K C CR r dx d s p (Ql89.readRow cols) (relP 0) H Q E
def Lines (H:Hp) (rows:List (List Int)) (as:List Addr):Prop:=Paired (fun (x:List Int) (a:Addr)=>PairsAt H a (GM.sparse 0 x)) rows as
def LinesAt (H:Hp) (L:Addr) (rows:List (List Int)):Prop:=∃as:List Addr,H L=some (.lst (as.map V.ref))/\Lines H rows as
end
theorem Pairs.but {r C dx:Addr} {fs:List (Str×V)} {H H':Hp} {ps:List (Int×Int)} {as:List Addr} (h:Pairs H ps as) (e:But r H H') (hr:H r=some (.ins C dx fs)):Pairs H' ps as:=
 Paired.mapP h fun p a q=>e _ _ (ne_of q hr (by intro z;cases z)) q
theorem Pairs.mono {H H':Hp} {ps:List (Int×Int)} {as:List Addr} (h:Pairs H ps as) (e:Same H H'):Pairs H' ps as:=Paired.mapP h fun p a q=>e _ _ q
theorem Pairs.upd {L:Addr} {xs ys:List V} {H:Hp} {ps:List (Int×Int)} {as:List Addr} (h:Pairs H ps as) (hL:H L=some (.lst xs)):Pairs (L2.upd H L (.lst ys)) ps as:=
 Paired.mapP h fun p a q=>by rw [upd_ne (ne_of q hL (by intro z;cases z))];exact q
theorem paired_app {α β:Type} {F:α->β->Prop}:∀{l₁:List α} {l₂:List β} {m₁:List α} {m₂:List β},Paired F l₁ l₂->Paired F m₁ m₂->Paired F (l₁ ++ m₁) (l₂ ++ m₂)
 | _,_,_,_,.nil,s=>s
 | _,_,_,_,.cons r t,s=>.cons r (paired_app t s)
theorem PairsAt.but {r C dx L:Addr} {fs:List (Str×V)} {H H':Hp} {ps:List (Int×Int)} (h:PairsAt H L ps) (e:But r H H') (hr:H r=some (.ins C dx fs)):PairsAt H' L ps:=by
 obtain ⟨as,h1,h2⟩:=h
 exact ⟨as,e _ _ (ne_of h1 hr (by intro z;cases z)) h1,h2.but e hr⟩
theorem PairsAt.mono {L:Addr} {H H':Hp} {ps:List (Int×Int)} (h:PairsAt H L ps) (e:Same H H'):PairsAt H' L ps:=by
 obtain ⟨as,h1,h2⟩:=h
 exact ⟨as,e _ _ h1,h2.mono e⟩
theorem Lines.but {r C dx:Addr} {fs:List (Str×V)} {H H':Hp} {rows:List (List Int)} {as:List Addr} (h:Lines H rows as) (e:But r H H') (hr:H r=some (.ins C dx fs)):Lines H' rows as:=Paired.mapP h fun p a q=>q.but e hr
theorem Lines.mono {H H':Hp} {rows:List (List Int)} {as:List Addr} (h:Lines H rows as) (e:Same H H'):Lines H' rows as:=Paired.mapP h fun p a q=>q.mono e
theorem LinesAt.mono {L:Addr} {H H':Hp} {rows:List (List Int)} (h:LinesAt H L rows) (e:Same H H'):LinesAt H' L rows:=by
 obtain ⟨as,h1,h2⟩:=h
 exact ⟨as,e _ _ h1,h2.mono e⟩
theorem cut_nat (s:List Int) (p w:Nat) (h:p + w<=s.length):cutV (s.map V.int) (some (p:Int)) (some ((p:Int) + (w:Int)))=((s.drop p).take w).map V.int:=by
 unfold cutV
 rw [List.length_map,<-Int.natCast_add,HT.sIx_nat,HT.sIx_nat,Nat.min_eq_left (show p<=s.length by omega),Nat.min_eq_left h,List.map_take,List.map_drop]
 congr 1
 omega
end Go
namespace Go
open PySem L2
def top (i:Nat):Stmt:=PySem.Challenge.pw_goingon_s01_answers.main.body.getD i (.Pass ⟨0,0,0,0⟩)
abbrev sWeigh:Stmt:=top 1
abbrev sOut:Stmt:=top 5
abbrev sNear:Stmt:=top 6
abbrev sHeld:Stmt:=top 7
abbrev sRoot:Stmt:=top 8
abbrev sLSum:Stmt:=top 9
abbrev sWScores:Stmt:=top 11
abbrev sChoose:Stmt:=top 12
abbrev sFirst:Stmt:=top 13
abbrev sKI:Stmt:=inClass (top 15) 0
abbrev sKeep:Stmt:=inClass (top 15) 1
abbrev sKeepOnly:Stmt:=inClass (top 15) 2
abbrev sLevelled:Stmt:=top 16
abbrev sThrough:Stmt:=top 17
abbrev sJoined:Stmt:=top 18
abbrev sEnter:Stmt:=top 19
abbrev sProducts:Stmt:=top 20
abbrev sWSum:Stmt:=top 21
abbrev sMixed:Stmt:=top 22
abbrev sLook:Stmt:=top 23
abbrev sPHeads:Stmt:=top 24
abbrev sPInner:Stmt:=top 25
abbrev sPWord:Stmt:=top 26
abbrev sFI:Stmt:=inClass (top 28) 0
abbrev sRI:Stmt:=inClass (top 29) 0
abbrev sU:Stmt:=inClass (top 29) 1
abbrev sS:Stmt:=inClass (top 29) 2
abbrev sUW:Stmt:=inClass (top 29) 3
abbrev sSW:Stmt:=inClass (top 29) 4
abbrev sNF:Stmt:=inClass (top 29) 5
abbrev sW:Stmt:=top 30
abbrev sMI:Stmt:=inClass (top 36) 0
abbrev sShape:Stmt:=top 37
abbrev sRM:Stmt:=top 38
abbrev sRL:Stmt:=top 39
abbrev sRB:Stmt:=top 40
abbrev sRE:Stmt:=top 41
abbrev sTL:Stmt:=top 42
abbrev sNI:Stmt:=inClass (top 52) 0
abbrev sLI:Stmt:=inClass (top 53) 0
abbrev sMark:Stmt:=top 54
abbrev sHeads:Stmt:=top 55
abbrev sFal:Stmt:=top 56
abbrev sGains:Stmt:=top 57
abbrev sScaled:Stmt:=top 58
abbrev sScale:Stmt:=top 59
abbrev sSI:Stmt:=inClass (top 65) 0
abbrev sBegin:Stmt:=inClass (top 65) 1
abbrev sFeed:Stmt:=inClass (top 65) 2
abbrev sForget:Stmt:=inClass (top 65) 3
abbrev sTell:Stmt:=inClass (top 65) 4
abbrev sGoOn:Stmt:=inClass (top 65) 5
abbrev sWrite:Stmt:=inClass (top 65) 6
abbrev sScores:Stmt:=inClass (top 65) 7
abbrev sCost:Stmt:=inClass (top 65) 8
abbrev sTake:Stmt:=inClass (top 65) 9
abbrev sAnswers:Stmt:=top 73
abbrev sCallEnd:Stmt:=top 74
abbrev sOne:Stmt:=top 75
end Go
namespace Go
open PySem L2
section
variable {P:Program} {w:World} {K:PySem.W.Frag} {mg:Str->Option Value} {base:Heap} {C CR fF:Addr}
theorem scFI:FnScope ["self","place","kind"] ["self","place","kind"] (defScope sFI):=⟨rfl,rfl,rfl,by decide +kernel,rfl,by decide +kernel,by decide +kernel⟩
theorem ok_FI {fd:FuncData} (F:Fun K "__init__" "Fault.__init__" sFI fF fd) (T:Txt K mg C CR fF):FnOk P w K mg base CX0 1 fF fd ["self","place","kind"] (spInit C):=by
 refine F.ok scFI (fun vs H Q E h=>?_) (fun cdv A outer s H vs Q E hr h=>?_)
 ·obtain ⟨a,pl,kd,rfl,_⟩:=h
  rfl
 ·obtain ⟨a,pl,kd,rfl,ha,k⟩:=h
  refine ⟨_,pss_cons (ps_expr (pe_xinit T.xc rfl T.exc (pv 0))) (pss_cons (ps_xnew T.xc no_place (Or.inl rfl) (pv 0) (pv 1) rfl) (pss_one (ps_xold T.xc no_kind (Or.inr rfl) (pv 0) (pv 2) rfl))),?_⟩
  refine ⟨_,rfl,a,none,rfl,ha,?_⟩
  refine ⟨_,rfl,_,rfl,a,rfl,ha,fun dx hdx=>?_⟩
  have ne:dx≠a:=(ne_of_none ha hdx).symm
  refine ⟨_,rfl,_,rfl,a,dx,_,rfl,upd_same,by rw [upd_ne ne,upd_same],by show 1 < 1000;decide,?_⟩
  have e:upd (upd (upd H dx (.xd (putF "place" (.int pl) []))) a (XO C a (some dx))) dx (.xd (putF "kind" (.int kd) (putF "place" (.int pl) [])))=upd (upd H dx (.xd (xf pl kd))) a (XO C a (some dx)):=by
   funext b
   by_cases h1:b=dx
   ·subst h1;rw [upd_same,upd_ne ne,upd_same];rfl
   ·rw [upd_ne h1]
    by_cases h2:b=a
    ·subst h2;rw [upd_same,upd_same]
    ·rw [upd_ne h2,upd_ne h1,upd_ne h2,upd_ne h1]
  show Q .non _
  rw [e]
  exact k dx hdx
theorem scRI:FnScope ["self","data"] ["self","data"] (defScope sRI):=⟨rfl,rfl,rfl,by decide +kernel,rfl,by decide +kernel,by decide +kernel⟩
theorem ok_RI {f:Addr} {fd:FuncData} (F:Fun K "__init__" "Reader.__init__" sRI f fd) (T:Txt K mg C CR fF):FnOk P w K mg base CX0 1 f fd ["self","data"] (spMk CR):=by
 refine F.ok scRI (fun vs H Q E h=>?_) (fun cdv A outer s H vs Q E hr h=>?_)
 ·obtain ⟨x,dx,d,rfl,_⟩:=h
  rfl
 ·obtain ⟨x,dx,d,rfl,hx,k⟩:=h
  refine ⟨_,pss_cons (ps_fld (pv 0) (pv 1) rfl) (pss_one (ps_fld (pv 0) pe_int rfl)),?_⟩
  refine ⟨_,rfl,_,rfl,x,CR,dx,_,rfl,hx,T.cl,T.nD,(by show 0 < 1000;decide),_,rfl,x,CR,dx,_,rfl,upd_same,T.cl,T.nA,(by show 1 < 1000;decide),?_⟩
  show Q .non _
  rw [upd_upd]
  exact k
theorem scU:FnScope ["self","size","end","number","digit"] ["self","size"] (defScope sU):=⟨rfl,rfl,rfl,by decide +kernel,rfl,by decide +kernel,by decide +kernel⟩
theorem fold_take (l:List Int) (i:Nat) (z:Int) (h:l[i]? = some z):(l.take (i + 1)).foldl (fun (n b:Int)=>n * 256 + b) 0=(l.take i).foldl (fun (n b:Int)=>n * 256 + b) 0 * 256 + z:=by
 rw [List.take_add_one,h,List.foldl_append]
 rfl
theorem ok_U {f:Addr} {fd fdF:FuncData} (F:Fun K "unsigned" "Reader.unsigned" sU f fd) (T:Txt K mg C CR fF) (FF:FnOk P w K mg base CX0 1 fF fdF ["self","place","kind"] (spInit C)) (bF:Binds K fdF ["self","place","kind"] []) :
  FnOk P w K mg base (CXF P w C) 3 f fd ["self","size"] (spU K C CR):=by
 refine F.okX (C:=C) scU (fun vs H Q E h=>?_) (fun cdv A outer st H vs Q E hr h hX po hT=>?_)
 ·obtain ⟨r,dx,d,s,p,w,rfl,_⟩:=h
  rfl
 ·obtain ⟨r,dx,d,s,p,w',rfl,⟨hw1,hw8⟩,R⟩:=h
  have hr2:Room 2 _:=hr
  refine ⟨_,pss_cons (ps_set (i:=2) scU.nd rfl (Or.inl rfl) (pe_op op_add (pe_fld (pv 0) rfl) (pv 1)))
   (pss_cons (ps_if (pt_cmpR op_gt (pv 2) (pe_callB call_len_seq (by rfl) T.len PySem.boot_len (pa_cons (pe_fld (pv 0) rfl) pa_nil)) (nomark _))
    (pss_one (ps_raise T.xc FF hr2 bF (fun _ _ _ _ z=>z) rfl rfl T.mgF hX (pa_cons (pe_callB call_len_seq (by rfl) T.len PySem.boot_len (pa_cons (pe_fld (pv 0) rfl) pa_nil)) (pa_cons pe_int pa_nil)))) pss_nil)
   (pss_cons (ps_set (i:=3) scU.nd rfl (Or.inl rfl) pe_int)
   (pss_cons (ps_for po rfl (pi_reversed rfl T.rev (pa_cons (pe_slice sl_list (pe_fld (pv 0) rfl) (po_some (pe_fld (pv 0) rfl)) (po_some (pv 2))) pa_nil)) (pg_name (i:=4) scU.nd rfl (Or.inl rfl))
    (pss_one (ps_set (i:=3) scU.nd rfl (Or.inl rfl) (pe_op op_add (pe_op op_mul (pv 3) pe_int) (pv 4)))))
   (pss_cons (ps_fld (pv 0) (pv 2) rfl) (pss_one (ps_ret (pv 3))))))),?_⟩
  have hlen:(s.map V.int).length=s.length:=List.length_map _
  -- end=self.at + size
  refine ⟨_,rfl,r,CR,dx,_,_,rfl,R.at_,T.cl,T.nA,rf_at _ _,_,rfl,_,_,rfl,rfl,?_⟩
  -- if end > len(self.data)
  refine ⟨_,rfl,_,rfl,r,CR,dx,_,_,rfl,R.at_,T.cl,T.nD,rf_data _ _,d,_,rfl,.inl R.src.ls,_,_,rfl,rfl,_,rfl,?_⟩
  have run:=R.run
  rw [GM.run_num,GM.octets_length] at run
  rw [hlen]
  refine ite2 (fun hc=>?_) (fun hc=>?_)
  ·have hc:=of_decide_eq_true hc
   rw [if_pos (by omega)] at run
   refine ⟨_,rfl,r,CR,dx,_,_,rfl,R.at_,T.cl,T.nD,rf_data _ _,d,_,rfl,.inl R.src.ls,_,_,rfl,fun dx' hdx=>?_⟩
   rw [hlen]
   exact run dx' _ (But.new hdx) upd_same
  ·have hc:¬((s.length:Int) < (p:Int) + (w':Int)):=fun z=>hc (decide_eq_true z)
   rw [if_neg (by omega)] at run
   -- the slice,from its end
   refine ⟨_,rfl,r,CR,dx,_,_,rfl,R.at_,T.cl,T.nD,rf_data _ _,_,rfl,r,CR,dx,_,_,rfl,R.at_,T.cl,T.nA,rf_at _ _,_,rfl,_,rfl,_,rfl,d,_,rfl,R.src.ls,fun L hL=>?_⟩
   rw [cut_nat s p w' (by omega)]
   have hLr:r≠L:=ne_of_none R.at_ hL
   generalize hys:(s.drop p).take w'=ys
   have yl:(ys.map V.int).length=ys.length:=List.length_map _
   refine ⟨L,_,rfl,SqL.of upd_same,for_rev (fun i σ H'=>H'=upd H L (.lst (ys.map V.int))/\∃v,σ=[some (.ref r),some (.int w'),some (.int ((p:Int) + w')),some (.int ((ys.reverse.take i).foldl (fun (n b:Int)=>n * 256 + b) 0)),v]) ⟨rfl,none,rfl⟩ (fun i σ H' _ ⟨e,_⟩=>by rw [e];exact SqL.of upd_same) ?_ ?_⟩
   ·rintro i x σ H' hx ⟨rfl,v,rfl⟩
    rw [<-List.map_reverse,List.getElem?_map] at hx
    obtain ⟨z,hz,rfl⟩:=Option.map_eq_some_iff.mp hx
    refine ⟨_,rfl,_,_,rfl,rfl,.inr ⟨by decide,by decide⟩,_,rfl,_,_,rfl,rfl,rfl,some (.int z),?_⟩
    rw [fold_take _ _ _ hz]
    rfl
   ·rintro σ H' ⟨rfl,v,rfl⟩
    refine ⟨_,rfl,_,rfl,r,CR,dx,_,rfl,by rw [upd_ne hLr];exact R.at_,T.cl,T.nA,rf_len _ _,_,rfl,?_⟩
    have e1:(p:Int) + (w':Int)=((p + w':Nat):Int):=by omega
    rw [yl,e1,rf_put,List.take_of_length_le (by simp),GM.val_fold,GM.val_octets ys (fun z hz=>R.src.byt z (List.mem_of_mem_drop (List.mem_of_mem_take (hys ▸ hz)))),<-hys,<-GM.octets_slice]
    exact run _ _ (But.updr (But.new hL)) upd_same rfl fresh_int
end
end Go
namespace L2
open PySem PySem.Spec PyProof.Rows
section
variable {X:Cx} {K:PySem.W.Frag} {pos:Pos}
theorem pg_tupK {es:List Expr} {k:Nat} {t:TGs} {n:Nat} (hK:X.K=K) (hc:X.calm=true) (h:PGs X es t)
  (hn:(assignEach es X.env).length=n:=by rfl) (hst:(assignEach es X.env).findIdx? (·.1)=none:=by rfl):PG X (.Tuple es k pos) (gTup K n t):=by
 subst hK
 exact pg_tup hc h hn hst
theorem ix_listK (hK:X.K=K):IxR X (rIxL K):=by
 subst hK
 exact ix_list
theorem ix_tupK (hK:X.K=K):IxR X (rIxT K):=by
 subst hK
 exact ix_tup
theorem pe_fldK {e:Expr} {f:Str} {ta:TE} (hK:X.K=K) (he:PE X e ta) (hb:attributeBase e f X.env (eval e X.env)=eval e X.env):PE X (.Attribute e f pos) (tFld K ta f):=by
 subst hK
 exact pe_fld he hb
theorem sl_listK (h:X.K=K):SlR X (rSlL K):=by
 subst h
 exact sl_list
end
section
variable {K:PySem.W.Frag} {a b:Addr} {xs us:List V} {g:TG} {te:TE} {vs:List Nat} {σ:St} {H1:Hp} {D:Addr} {Qd:Hp->Prop}
theorem Same.updN {H H':Hp} {D:Addr} {o:HO} (s:Same H H') (hD:H D=none):Same H (upd H' D o):=fun c o' e=>by rw [upd_ne (ne_of_none e hD)];exact s c o' e
theorem Same.new {H:Hp} {D:Addr} {o:HO} (hD:H D=none):Same H (upd H D o):=Same.updN (Same.refl H) hD
theorem lc_listV (ys:List V) (hlen:ys.length=xs.length) (hz:xs.length<=sizeLine) (hL:SqL K H1 a xs) (hD:H1 D=none)
  (hs:∀(i:Nat) (x y:V) (H:Hp) (Q:VK),xs[i]? = some x->ys[i]? = some y->Same H1 H->(∀H4,Same H H4->Q y H4)->g x (wipe σ vs) H fun σ2 H2=>wipe σ2 vs=wipe σ vs/\te σ2 H2 Q)
  (hd:∀H,Same H1 H->H D=some (.lst ys)->Qd H) :
  ∃W:Nat->Nat->Hp->Prop,(∃m,W 0 m (upd H1 D (.lst [])))/\∀i m H,W i m H->
   ((Itl K a).stop i H/\Qd H)\/((Itl K a).go i H/\∃Nx:Hp->Prop,(∀H',Nx H'->∃m',m' < m/\W (i + 1) m' H')/\∀x H',(Itl K a).yld i H x H'->g x (wipe σ vs) H' fun σ2 H2=>wipe σ2 vs=wipe σ vs/\tYes σ2 H2 fun b H3=>
    if b=true then te σ2 H3 fun y H4=>∃acc,H4 D=some (.lst acc)/\acc.length < sizeLine/\Nx (upd H4 D (.lst (acc ++ [y]))) else Nx H3):=by
 refine lc_list (fun i H=>Same H1 H/\H D=some (.lst (ys.take i))) ⟨Same.new hD,by rw [upd_same,List.take_zero]⟩ (fun i H _ p=>p.1.seq hL) ?_ fun H p=>hd H p.1 (by rw [p.2,<-hlen,List.take_length])
 rintro i x H hx ⟨s1,h1⟩
 have hi:i < xs.length:=(List.getElem?_eq_some_iff.mp hx).1
 have hy:ys[i]? = some (ys[i]'(by omega)):=by simp [show i < ys.length by omega]
 refine hs i x _ H _ hx hy s1 fun H4 s4=>?_
 refine ⟨_,s4 _ _ h1,by rw [List.length_take];omega,(s1.trans s4).updN hD,?_⟩
 rw [upd_same,List.take_add_one,hy]
 rfl
theorem lc_zip (Pv:Nat->Hp->Prop) (h0:Pv 0 (upd H1 D (.lst []))) (hl:∀i H,Pv i H->SqL K H a xs/\SqL K H b us)
  (hs:∀(i:Nat) (x u:V) (T:Addr) (H:Hp),xs[i]? = some x->us[i]? = some u->Pv i H->H T=none->g (.ref T) (wipe σ vs) (upd H T (.tup [x,u])) fun σ2 H2=>wipe σ2 vs=wipe σ vs/\tYes σ2 H2 fun b H3=>
   if b=true then te σ2 H3 fun y H4=>∃acc,H4 D=some (.lst acc)/\acc.length < sizeLine/\Pv (i + 1) (upd H4 D (.lst (acc ++ [y]))) else Pv (i + 1) H3) (hd:∀H,Pv (min xs.length us.length) H->Qd H) :
  ∃W:Nat->Nat->Hp->Prop,(∃m,W 0 m (upd H1 D (.lst [])))/\∀i m H,W i m H->
   ((Itz K a b).stop i H/\Qd H)\/((Itz K a b).go i H/\∃Nx:Hp->Prop,(∀H',Nx H'->∃m',m' < m/\W (i + 1) m' H')/\∀x H',(Itz K a b).yld i H x H'->g x (wipe σ vs) H' fun σ2 H2=>wipe σ2 vs=wipe σ vs/\tYes σ2 H2 fun b H3=>
    if b=true then te σ2 H3 fun y H4=>∃acc,H4 D=some (.lst acc)/\acc.length < sizeLine/\Nx (upd H4 D (.lst (acc ++ [y]))) else Nx H3):=by
 refine ⟨fun i m H=>m=min xs.length us.length - i/\i<=min xs.length us.length/\Pv i H,⟨_,rfl,Nat.zero_le _,h0⟩,?_⟩
 rintro i m H ⟨rfl,hi,p⟩
 obtain ⟨q1,q2⟩:=hl i H p
 by_cases hlt:i < min xs.length us.length
 ·have l1:i < xs.length:=by omega
  have l2:i < us.length:=by omega
  refine .inr ⟨⟨xs,us,xs[i],us[i],q1,q2,by simp [l1],by simp [l2]⟩,Pv (i + 1),fun H' p'=>⟨min xs.length us.length - (i + 1),by omega,rfl,hlt,p'⟩,fun v H' y=>?_⟩
  obtain ⟨T,x,u,rfl,hT,rfl,y1,y2⟩:=y
  exact hs i x u T H (y1 xs q1) (y2 us q2) p hT
 ·have e:i=min xs.length us.length:=by omega
  subst e
  exact .inl ⟨⟨xs,us,q1,q2,by omega⟩,hd H p⟩
theorem lc_zipV (ys:List V) (hlen:ys.length=min xs.length us.length) (hz:ys.length<=sizeLine) (hL:SqL K H1 a xs) (hL2:SqL K H1 b us) (hD:H1 D=none)
  (hs:∀(i:Nat) (x u y:V) (T:Addr) (H:Hp) (Q:VK),xs[i]? = some x->us[i]? = some u->ys[i]? = some y->Same H1 H->H T=some (.tup [x,u])->(∀H4,Same H H4->Q y H4)->g (.ref T) (wipe σ vs) H fun σ2 H2=>wipe σ2 vs=wipe σ vs/\te σ2 H2 Q)
  (hd:∀H,Same H1 H->H D=some (.lst ys)->Qd H) :
  ∃W:Nat->Nat->Hp->Prop,(∃m,W 0 m (upd H1 D (.lst [])))/\∀i m H,W i m H->
   ((Itz K a b).stop i H/\Qd H)\/((Itz K a b).go i H/\∃Nx:Hp->Prop,(∀H',Nx H'->∃m',m' < m/\W (i + 1) m' H')/\∀x H',(Itz K a b).yld i H x H'->g x (wipe σ vs) H' fun σ2 H2=>wipe σ2 vs=wipe σ vs/\tYes σ2 H2 fun b H3=>
    if b=true then te σ2 H3 fun y H4=>∃acc,H4 D=some (.lst acc)/\acc.length < sizeLine/\Nx (upd H4 D (.lst (acc ++ [y]))) else Nx H3):=by
 refine lc_zip (xs:=xs) (us:=us) (fun i H=>Same H1 H/\H D=some (.lst (ys.take i))) ⟨Same.new hD,by rw [upd_same,List.take_zero]⟩ (fun i H p=>⟨p.1.seq hL,p.1.seq hL2⟩) ?_ fun H p=>hd H p.1 (by rw [p.2,<-hlen,List.take_length])
 rintro i x u T H hx hu ⟨s1,h1⟩ hT
 have hi:i < xs.length:=(List.getElem?_eq_some_iff.mp hx).1
 have hi2:i < us.length:=(List.getElem?_eq_some_iff.mp hu).1
 have hy:ys[i]? = some (ys[i]'(by omega)):=by simp [show i < ys.length by omega]
 have s2:Same H (upd H T (.tup [x,u])):=Same.new hT
 refine hs i x u _ T _ _ hx hu hy (s1.trans s2) upd_same fun H4 s4=>?_
 refine ⟨_,s4 _ _ (s2 _ _ h1),by rw [List.length_take];omega,((s1.trans s2).trans s4).updN hD,?_⟩
 rw [upd_same,List.take_add_one,hy]
 rfl
theorem for_zip {tb:TS} {De:Ends} {H:Hp} (Pv:Nat->St->Hp->Prop) (h0:Pv 0 σ H) (hl:∀i σ H,Pv i σ H->SqL K H a xs/\SqL K H b us)
  (hs:∀(i:Nat) (x u:V) (T:Addr) (σ:St) (H:Hp),xs[i]? = some x->us[i]? = some u->Pv i σ H->H T=none->g (.ref T) σ (upd H T (.tup [x,u])) fun σ2 H2=>tb {De with nx:=Pv (i + 1),ct:=Pv (i + 1),bk:=De.nx} σ2 H2)
  (hd:∀σ H,Pv (min xs.length us.length) σ H->De.nx σ H) :
  ∃W:Nat->Nat->St->Hp->Prop,(∃m,W 0 m σ H)/\∀i m σ H,W i m σ H->
   ((Itz K a b).stop i H/\De.nx σ H)\/((Itz K a b).go i H/\∃N:St->Hp->Prop,(∀σ' H',N σ' H'->∃m',m' < m/\W (i + 1) m' σ' H')/\∀x H',(Itz K a b).yld i H x H'->g x σ H' fun σ2 H2=>tb {De with nx:=N,ct:=N,bk:=De.nx} σ2 H2):=by
 refine ⟨fun i m σ H=>m=min xs.length us.length - i/\i<=min xs.length us.length/\Pv i σ H,⟨_,rfl,Nat.zero_le _,h0⟩,?_⟩
 rintro i m σ H ⟨rfl,hi,p⟩
 obtain ⟨q1,q2⟩:=hl i σ H p
 by_cases hlt:i < min xs.length us.length
 ·have l1:i < xs.length:=by omega
  have l2:i < us.length:=by omega
  refine .inr ⟨⟨xs,us,xs[i],us[i],q1,q2,by simp [l1],by simp [l2]⟩,Pv (i + 1),fun σ' H' p'=>⟨min xs.length us.length - (i + 1),by omega,rfl,hlt,p'⟩,fun v H' y=>?_⟩
  obtain ⟨T,x,u,rfl,hT,rfl,y1,y2⟩:=y
  exact hs i x u T σ H (y1 xs q1) (y2 us q2) p hT
 ·have e:i=min xs.length us.length:=by omega
  subst e
  exact .inl ⟨⟨xs,us,q1,q2,by omega⟩,hd σ H p⟩
end
end L2
namespace L2
open PySem PySem.Spec PyProof.Rows
theorem iteNA {c A B:Prop} [Decidable c] (hc:¬c) (h:A):if (!decide c)=true then A else B:=by
 rw [decide_eq_false hc]
 exact iteT h
section
variable {X:Cx} {K:PySem.W.Frag}
end
end L2
namespace Go
open PySem L2
theorem paired_get {α β:Type} {F:α->β->Prop}:∀{l₁:List α} {l₂:List β} {i:Nat} {b:β},Paired F l₁ l₂->l₂[i]? = some b->∃a,l₁[i]? = some a/\F a b
 | _,_,_,_,.nil,e=>by simp at e
 | _,_,0,_,.cons r _,e=>by simp at e;subst e;exact ⟨_,rfl,r⟩
 | _,_,i + 1,b,.cons _ t,e=>by
  obtain ⟨a,h1,h2⟩:=paired_get (i:=i) (b:=b) t (by simpa using e)
  exact ⟨a,by simpa using h1,h2⟩
theorem paired_get' {α β:Type} {F:α->β->Prop}:∀{l₁:List α} {l₂:List β} {i:Nat} {a:α},Paired F l₁ l₂->l₁[i]? = some a->∃b,l₂[i]? = some b/\F a b
 | _,_,_,_,.nil,e=>by simp at e
 | _,_,0,_,.cons r _,e=>by simp at e;subst e;exact ⟨_,rfl,r⟩
 | _,_,i + 1,a,.cons _ t,e=>by
  obtain ⟨b,h1,h2⟩:=paired_get' (i:=i) (a:=a) t (by simpa using e)
  exact ⟨b,by simpa using h1,h2⟩
theorem paired_of {α β:Type} {F:α->β->Prop}:∀{l₁:List α} {l₂:List β},l₁.length=l₂.length->(∀(i:Nat) a b,l₁[i]? = some a->l₂[i]? = some b->F a b)->Paired F l₁ l₂
 | [],[],_,_=>.nil
 | [],_ :: _,h,_=>by simp at h
 | _ :: _,[],h,_=>by simp at h
 | a :: l₁,b :: l₂,h,f=>.cons (f 0 a b (by simp) (by simp)) (paired_of (by simpa using h) fun i x y hx hy=>f (i + 1) x y (by simpa using hx) (by simpa using hy))
theorem paired_both {α β:Type} {F:α->β->Prop} {l₁:List α} {l₂:List β} (h:Paired F l₁ l₂) {i:Nat} {a:α} {b:β} (ha:l₁[i]? = some a) (hb:l₂[i]? = some b):F a b:=by
 obtain ⟨a',e,q⟩:=paired_get h hb
 rw [ha] at e
 cases e
 exact q
theorem ints_at {xs:List Int} {j:Nat} {z:Int} (h:j < xs.length) (e:z=(j:Int)):atI (xs.map V.int) z=some (.int (xs.getD j 0)):=by
 refine at_of e ?_
 rw [List.getElem?_map]
 simp [h]
def Small (r:List Int):Prop:=∀z∈r,-4294967296 < z/\z < 4294967296
def natI (l:List Nat):List V:=l.map fun (n:Nat)=>V.int (n:Int)
def IntsAt (H:Hp) (a:Addr) (l:List Int):Prop:=H a=some (.lst (l.map V.int))
def ColsOf (K:PySem.W.Frag) (H:Hp) (cols:List (List Int)) (cas:List Addr):Prop:=Paired (fun (c:List Int) (a:Addr)=>SqL K H a (c.map V.int)) cols cas
def ScaledAt (H:Hp) (L:Addr) (rows:List Ql89.Row):Prop:=∃as:List Addr,H L=some (.lst (as.map V.ref))/\Paired (fun (y:Ql89.Row) (a:Addr)=>∃l,H a=some (.tup [.int y.add,.int y.mul,.int y.shift,.ref l])/\PairsAt H l (GM.sparse 0 y.w)) rows as
theorem ScaledAt.mono {H H':Hp} {L:Addr} {rows:List Ql89.Row} (h:ScaledAt H L rows) (s:Same H H'):ScaledAt H' L rows:=by
 obtain ⟨as,h1,h2⟩:=h
 exact ⟨as,s _ _ h1,Paired.mapP h2 fun y a ⟨l,q1,q2⟩=>⟨l,s _ _ q1,q2.mono s⟩⟩
structure RowOk (y:Ql89.Row) (d:Nat):Prop where
 len:y.w.length=d
 small:Small y.w
 mul:1<=y.mul/\y.mul < 2147483648
 shift:1<=y.shift/\y.shift<=62
end Go
namespace Go
open PySem L2
section
variable {P:Program} {w:World} {K:PySem.W.Frag} {mg:Str->Option Value} {base:Heap}
def spOut:Sp:=fun vs H Q _=>∃(x lo hi:Int),vs=[.int x,.int lo,.int hi]/\Q (.bl (decide (x < lo\/hi < x))) H
theorem scOut:FnScope ["number","low","high"] ["number","low","high"] (defScope sOut):=⟨rfl,rfl,rfl,by decide +kernel,rfl,by decide +kernel,by decide +kernel⟩
theorem ok_out {f:Addr} {fd:FuncData} (F:Fun K "outside" "outside" sOut f fd):FnOk P w K mg base CX0 1 f fd ["number","low","high"] spOut:=by
 refine F.ok scOut (fun vs H Q E h=>?_) (fun cdv A outer s H vs Q E hr h=>?_)
 ·obtain ⟨x,lo,hi,rfl,_⟩:=h
  rfl
 ·obtain ⟨x,lo,hi,rfl,h⟩:=h
  refine ⟨_,pss_one (ps_ret (pe_or (pe_cmpR op_lt (pv 0) (pv 1) (nomark _)) (pe_one (pe_cmpR op_gt (pv 0) (pv 2) (nomark _))))),?_⟩
  refine ⟨_,rfl,_,rfl,_,_,rfl,rfl,_,rfl,?_⟩
  refine ite2 (fun hc=>?_) (fun hc=>?_)
  ·have hc:=of_decide_eq_true hc
   rw [decide_eq_true (Or.inl hc)] at h
   exact h
  ·have hc:¬x < lo:=fun z=>hc (decide_eq_true z)
   refine ⟨_,rfl,_,rfl,_,_,rfl,rfl,?_⟩
   have e:decide (x < lo\/hi < x)=decide (hi < x):=by simp [hc]
   rw [e] at h
   exact h
abbrev OutFn (P:Program) (w:World) (K:PySem.W.Frag) (mg:Str->Option Value) (base:Heap) (f:Addr) (fd:FuncData):Prop:=GFn P w K mg base CX0 1 "outside" f fd ["number","low","high"] spOut
end
end Go
namespace Go
open PySem L2
section
variable {P:Program} {w:World} {K:PySem.W.Frag} {mg:Str->Option Value} {base:Heap} {C CR fF:Addr}
theorem scW:FnScope ["number","low","high","start"] ["number","low","high","start"] (defScope sW):=⟨rfl,rfl,rfl,by decide +kernel,rfl,by decide +kernel,by decide +kernel⟩
theorem ok_W {f fO:Addr} {fd fdF fdO:FuncData} (F:Fun K "within" "within" sW f fd) (T:Txt K mg C CR fF) (FF:FnOk P w K mg base CX0 1 fF fdF ["self","place","kind"] (spInit C)) (bF:Binds K fdF ["self","place","kind"] []) (O:OutFn P w K mg base fO fdO) :
  FnOk P w K mg base (CXF P w C) 3 f fd ["number","low","high","start"] (spW C):=by
 refine F.okX (C:=C) scW (fun vs H Q E h=>?_) (fun cdv A outer st H vs Q E hr h hX po hT=>?_)
 ·obtain ⟨x,lo,hi,p,rfl,_⟩:=h
  rfl
 ·obtain ⟨x,lo,hi,p,rfl,h⟩:=h
  have hr2:Room 2 _:=hr
  have hr1:Room 1 _:=hr.mono (by decide)
  refine ⟨_,pss_cons (ps_if (pt_truth (pe_call O.ok hr1 rfl O.glo O.kp O.b .nil pass0 (pa_cons (pv 0) (pa_cons (pv 1) (pa_cons (pv 2) pa_nil)))) (fun _=>rfl))
   (pss_one (ps_raise T.xc FF hr2 bF (fun _ _ _ _ z=>z) rfl rfl T.mgF hX (pa_cons (pv 3) (pa_cons pe_int pa_nil)))) pss_nil) (pss_one (ps_ret (pv 0))),?_⟩
  refine ⟨_,rfl,_,rfl,_,rfl,_,_,_,rfl,_,rfl,?_⟩
  refine ite2 (fun hc=>?_) (fun hc=>?_)
  ·have hc:=of_decide_eq_true hc
   rw [if_neg (by omega)] at h
   exact ⟨_,rfl,_,_,rfl,h⟩
  ·have hc:¬(x < lo\/hi < x):=fun z=>hc (decide_eq_true z)
   rw [if_pos (by omega)] at h
   exact ⟨_,rfl,h⟩
theorem scS:FnScope ["self","size","number","bits"] ["self","size"] (defScope sS):=⟨rfl,rfl,rfl,by decide +kernel,rfl,by decide +kernel,by decide +kernel⟩
theorem noU (d:Addr) (p:Nat):(rf d p).lookup ("unsigned" : Str)=none:=rf_no d p (by decide +kernel) (by decide +kernel)
theorem noS (d:Addr) (p:Nat):(rf d p).lookup ("signed" : Str)=none:=rf_no d p (by decide +kernel) (by decide +kernel)
theorem noUW (d:Addr) (p:Nat):(rf d p).lookup ("unsigned_within" : Str)=none:=rf_no d p (by decide +kernel) (by decide +kernel)
theorem noSW (d:Addr) (p:Nat):(rf d p).lookup ("signed_within" : Str)=none:=rf_no d p (by decide +kernel) (by decide +kernel)
theorem noNF (d:Addr) (p:Nat):(rf d p).lookup ("nothing_follows" : Str)=none:=rf_no d p (by decide +kernel) (by decide +kernel)
theorem signed_test (x b:Nat) (hb:1<=b):(((x:Int) / 2 ^ ((b:Int) - 1).toNat != 0)=true↔¬x < 2 ^ (b - 1)):=by
 have e:((b:Int) - 1).toNat=b - 1:=by omega
 rw [e]
 have e2:(x:Int) / 2 ^ (b - 1)=((x / 2 ^ (b - 1):Nat):Int):=by rw [Int.natCast_ediv];simp
 rw [e2,bne_iff_ne]
 have hp:0 < 2 ^ (b - 1):=Nat.two_pow_pos _
 constructor
 ·intro h c
  exact h (by rw [Nat.div_eq_of_lt c];rfl)
 ·intro h c
  have:x / 2 ^ (b - 1)=0:=by omega
  rcases Nat.div_eq_zero_iff.mp this with z | z <;> omega
theorem ok_S {f fU:Addr} {fd fdU:FuncData} (F:Fun K "signed" "Reader.signed" sS f fd) (T:Txt K mg C CR fF) (U:MFn P w K mg base (CXF P w C) 3 CR "unsigned" fU fdU ["self","size"] (spU K C CR)) :
  FnOk P w K mg base (CXF P w C) 4 f fd ["self","size"] (spS K C CR):=by
 refine F.okX (C:=C) scS (fun vs H Q E h=>?_) (fun cdv A outer st H vs Q E hr h hX po hT=>?_)
 ·obtain ⟨r,dx,d,s,p,w,rfl,_⟩:=h
  rfl
 ·obtain ⟨r,dx,d,s,p,w',rfl,⟨hw1,hw8⟩,R⟩:=h
  refine ⟨_,pss_cons (ps_set (i:=2) scS.nd rfl (Or.inl rfl) (pe_meth (pv 0) T.cl U.m U.ok hr U.b .nil (passX hX) (pa_cons (pv 1) pa_nil)))
   (pss_cons (ps_set (i:=3) scS.nd rfl (Or.inl rfl) (pe_op op_mul pe_int (pv 1)))
   (pss_one (ps_ret (pe_ifExp (pt_truth (pe_op op_shr (pv 2) (pe_op op_sub (pv 3) pe_int)) (fun _=>rfl)) (pe_op op_sub (pv 2) (pe_op op_shl pe_int (pv 3))) (pv 2))))),?_⟩
  have run:=R.run
  unfold numS at run
  rw [GM.run_bind] at run
  refine ⟨_,rfl,r,dx,_,rfl,R.at_,noU _ _,_,rfl,r,dx,d,s,p,w',rfl,⟨hw1,hw8⟩,Reads.call R.src (But.refl _ _) R.at_ run fun x q hok v H' e h' hv _=>?_⟩
  have hv:v=.int (x:Int):=hv
  subst hv
  have hok:∀v H',But r H H'->H' r=some (.ins CR dx (rf d q))->relI (Ql89.signed (8 * w') x) v H'->Fresh H v->Q v H':=hok
  refine ⟨_,rfl,_,_,rfl,rfl,.inl ⟨by decide,by decide⟩,?_⟩
  have e8:(8:Int) * (w':Int)=((8 * w':Nat):Int):=by omega
  refine ⟨_,rfl,_,rfl,_,_,rfl,rfl,_,_,rfl,rfl,(by show (0:Int)<=8 * (w':Int) - 1;omega),_,rfl,?_⟩
  refine ite2 (fun hc=>?_) (fun hc=>?_)
  ·have hc:((x:Int) / 2 ^ (8 * (w':Int) - 1).toNat != 0)=true:=hc
   rw [e8] at hc
   have hc:=(signed_test x (8 * w') (by omega)).mp hc
   refine ⟨_,rfl,_,rfl,_,_,rfl,rfl,⟨(by show (0:Int)<=8 * (w':Int);omega),(by show 8 * (w':Int)<=1000000;omega),by decide⟩,_,_,rfl,rfl,?_⟩
   refine hok _ _ e h' ?_ fresh_int
   show V.int ((x:Int) - 1 * 2 ^ (8 * (w':Int)).toNat)=V.int _
   unfold Ql89.signed
   rw [if_neg hc,e8,Int.one_mul,Int.toNat_natCast]
   simp
  ·have hc:x < 2 ^ (8 * w' - 1):=by
    by_cases z:x < 2 ^ (8 * w' - 1)
    ·exact z
    ·refine absurd ((signed_test x (8 * w') (by omega)).mpr z) ?_
     rw [<-e8]
     exact hc
   refine ⟨_,rfl,hok _ _ e h' ?_ fresh_int⟩
   show V.int _=V.int _
   unfold Ql89.signed
   rw [if_pos hc]
theorem scUW:FnScope ["self","size","low","high","start"] ["self","size","low","high"] (defScope sUW):=⟨rfl,rfl,rfl,by decide +kernel,rfl,by decide +kernel,by decide +kernel⟩
theorem ok_UW {f fU fW:Addr} {fd fdU fdW:FuncData} (F:Fun K "unsigned_within" "Reader.unsigned_within" sUW f fd) (T:Txt K mg C CR fF) (U:MFn P w K mg base (CXF P w C) 3 CR "unsigned" fU fdU ["self","size"] (spU K C CR))
  (W:GFn P w K mg base (CXF P w C) 3 "within" fW fdW ["number","low","high","start"] (spW C)):FnOk P w K mg base (CXF P w C) 4 f fd ["self","size","low","high"] (spUW K C CR):=by
 refine F.okX (C:=C) scUW (fun vs H Q E h=>?_) (fun cdv A outer st H vs Q E hr h hX po hT=>?_)
 ·obtain ⟨r,dx,d,s,p,w,lo,hi,rfl,_⟩:=h
  rfl
 ·obtain ⟨r,dx,d,s,p,w',lo,hi,rfl,hw,R⟩:=h
  refine ⟨_,pss_cons (ps_set (i:=4) scUW.nd rfl (Or.inl rfl) (pe_fld (pv 0) rfl))
   (pss_one (ps_ret (pe_call W.ok hr rfl W.glo W.kp W.b .nil (passX hX) (pa_cons (pe_meth (pv 0) T.cl U.m U.ok hr U.b .nil (passX hX) (pa_cons (pv 1) pa_nil)) (pa_cons (pv 2) (pa_cons (pv 3) (pa_cons (pv 4) pa_nil))))))),?_⟩
  have run:=R.run
  rw [GM.run_numIn] at run
  refine ⟨_,rfl,r,CR,dx,_,_,rfl,R.at_,T.cl,T.nA,rf_at _ _,?_⟩
  refine ⟨_,rfl,r,dx,_,rfl,R.at_,noU _ _,_,rfl,r,dx,d,s,p,w',rfl,hw,Reads.call R.src (But.refl _ _) R.at_ run fun x q hok v H' e h' hv _=>?_⟩
  have hv:v=.int (x:Int):=hv
  subst hv
  refine ⟨_,rfl,_,rfl,_,rfl,_,_,_,_,rfl,?_⟩
  by_cases hc:lo<=x/\x<=hi
  ·rw [if_pos hc] at hok
   rw [if_pos (by omega)]
   exact hok _ _ e h' rfl fresh_int
  ·rw [if_neg hc] at hok
   rw [if_neg (by omega)]
   exact fun dx' hdx=>hok dx' _ (e.trans (But.new hdx)) upd_same
theorem scNF:FnScope ["self"] ["self"] (defScope sNF):=⟨rfl,rfl,rfl,by decide +kernel,rfl,by decide +kernel,by decide +kernel⟩
theorem ok_NF {f:Addr} {fd fdF:FuncData} (F:Fun K "nothing_follows" "Reader.nothing_follows" sNF f fd) (T:Txt K mg C CR fF) (FF:FnOk P w K mg base CX0 1 fF fdF ["self","place","kind"] (spInit C)) (bF:Binds K fdF ["self","place","kind"] []) :
  FnOk P w K mg base (CXF P w C) 3 f fd ["self"] (spNF K C CR):=by
 refine F.okX (C:=C) scNF (fun vs H Q E h=>?_) (fun cdv A outer st H vs Q E hr h hX po hT=>?_)
 ·obtain ⟨r,dx,d,s,p,rfl,_⟩:=h
  rfl
 ·obtain ⟨r,dx,d,s,p,rfl,h1,S,h⟩:=h
  have hr2:Room 2 _:=hr
  refine ⟨_,pss_one (ps_if (pt_cmpR op_lt (pe_fld (pv 0) rfl) (pe_callB call_len_seq (by rfl) T.len PySem.boot_len (pa_cons (pe_fld (pv 0) rfl) pa_nil)) (nomark _))
    (pss_one (ps_raise T.xc FF hr2 bF (fun _ _ _ _ z=>z) rfl rfl T.mgF hX (pa_cons (pe_fld (pv 0) rfl) (pa_cons pe_int pa_nil)))) pss_nil),?_⟩
  have hlen:(s.map V.int).length=s.length:=List.length_map _
  refine ⟨_,rfl,r,CR,dx,_,_,rfl,h1,T.cl,T.nA,rf_at _ _,_,rfl,r,CR,dx,_,_,rfl,h1,T.cl,T.nD,rf_data _ _,d,_,rfl,.inl S.ls,_,_,rfl,rfl,_,rfl,?_⟩
  rw [hlen]
  refine ite2 (fun hc=>?_) (fun hc=>?_)
  ·have hc:=of_decide_eq_true hc
   rw [if_pos (by omega)] at h
   exact ⟨_,rfl,r,CR,dx,_,_,rfl,h1,T.cl,T.nA,rf_at _ _,_,_,rfl,h⟩
  ·have hc:¬((p:Int) < (s.length:Int)):=fun z=>hc (decide_eq_true z)
   rw [if_neg (by omega)] at h
   exact h
theorem scE:FnScope ["reader","start","number"] ["reader"] (defScope sRE):=⟨rfl,rfl,rfl,by decide +kernel,rfl,by decide +kernel,by decide +kernel⟩
theorem run_entry {l:Ql89.Bytes} {p:Nat} {ok:Int->Nat->Prop} {bad:Nat->Nat->Prop}:GM.Run entry l p ok bad↔GM.Run (Ql89.num 1) l p (fun x q=>if x=0 then bad p 3 else ok (Ql89.signed 8 x) q) bad:=by
 unfold entry
 rw [GM.run_bind,GM.run_here,GM.run_bind]
 constructor
 ·intro h
  refine GM.run_mono h (fun x q h=>?_) fun _ _ h=>h
  rw [GM.run_ite] at h
  exact h
 ·intro h
  refine GM.run_mono h (fun x q h=>?_) fun _ _ h=>h
  rw [GM.run_ite]
  exact h
theorem ok_E {f fS:Addr} {fd fdF fdS:FuncData} (F:Fun K "read_entry" "read_entry" sRE f fd) (T:Txt K mg C CR fF) (FF:FnOk P w K mg base CX0 1 fF fdF ["self","place","kind"] (spInit C)) (bF:Binds K fdF ["self","place","kind"] [])
  (S:MFn P w K mg base (CXF P w C) 4 CR "signed" fS fdS ["self","size"] (spS K C CR)):FnOk P w K mg base (CXF P w C) 5 f fd ["reader"] (spE K C CR):=by
 refine F.okX (C:=C) scE (fun vs H Q E h=>?_) (fun cdv A outer st H vs Q E hr h hX po hT=>?_)
 ·obtain ⟨r,dx,d,s,p,rfl,_⟩:=h
  rfl
 ·obtain ⟨r,dx,d,s,p,rfl,R⟩:=h
  have hr2:Room 2 _:=hr.mono (by decide)
  refine ⟨_,pss_cons (ps_set (i:=1) scE.nd rfl (Or.inl rfl) (pe_fld (pv 0) rfl))
   (pss_cons (ps_set (i:=2) scE.nd rfl (Or.inl rfl) (pe_meth (pv 0) T.cl S.m S.ok hr S.b .nil (passX hX) (pa_cons pe_int pa_nil)))
   (pss_cons (ps_if (pt_cmpR op_eq (pv 2) pe_int (nomark _)) (pss_one (ps_raise T.xc FF hr2 bF (fun _ _ _ _ z=>z) rfl rfl T.mgF hX (pa_cons (pv 1) (pa_cons pe_int pa_nil)))) pss_nil)
   (pss_one (ps_ret (pv 2))))),?_⟩
  have run:=GM.run_num_lt (run_entry.mp R.run)
  have run':GM.Run (numS 1) (Ql89Neutral.octets s) p (fun z q=>if z=0 then Bad C r H E p 3 else ∀v H',But r H H'->H' r=some (.ins CR dx (rf d q))->relI z v H'->Fresh H v->Q v H') (Bad C r H E):=by
   unfold numS
   rw [GM.run_bind]
   refine GM.run_mono run (fun x q h=>?_) fun _ _ h=>h
   obtain ⟨hx,h⟩:=h
   show if Ql89.signed (8 * 1) x=0 then _ else _
   by_cases h0:x=0
   ·rw [if_pos h0] at h
    rw [if_pos ((GM.signed_zero (by simpa using hx)).mpr h0)]
    exact h
   ·rw [if_neg h0] at h
    rw [if_neg (fun z=>h0 ((GM.signed_zero (by simpa using hx)).mp z))]
    exact h
  refine ⟨_,rfl,r,CR,dx,_,_,rfl,R.at_,T.cl,T.nA,rf_at _ _,?_⟩
  refine ⟨_,rfl,r,dx,_,rfl,R.at_,noS _ _,r,dx,d,s,p,1,rfl,⟨by decide,by decide⟩,Reads.call R.src (But.refl _ _) R.at_ run' fun z q hok v H' e h' hv _=>?_⟩
  have hv:v=.int z:=hv
  subst hv
  refine ⟨_,rfl,rfl,_,rfl,?_⟩
  refine ite2 (fun hc=>?_) (fun hc=>?_)
  ·have hc:z=0:=by
    have hc:=of_decide_eq_true hc
    injection hc
   rw [if_pos hc] at hok
   exact ⟨_,rfl,_,_,rfl,fun dx' hdx=>hok dx' _ (e.trans (But.new hdx)) upd_same⟩
  ·have hc:¬z=0:=fun q=>hc (decide_eq_true (by rw [q]))
   rw [if_neg hc] at hok
   exact ⟨_,rfl,hok _ _ e h' rfl fresh_int⟩
end
end Go
namespace Go
open PySem L2
theorem pe_const {X:Cx} {x:Str} {n:Int} {pos:Pos} (h:∃t,X.mg x=some (.int n t)) (hg:Gl X x) (hd:(x == ("__debug__" : Str))=false:=by decide):PE X (.Name x pos) (tC (.int n)):=by
 obtain ⟨t,e⟩:=h
 exact pe_glob hg e ⟨t,rfl⟩ hd
theorem shr_test (m b:Nat):(((m:Int) / 2 ^ (b:Int).toNat != 0)=true↔2 ^ b<=m):=by
 rw [Int.toNat_natCast]
 have e2:(m:Int) / 2 ^ b=((m / 2 ^ b:Nat):Int):=by rw [Int.natCast_ediv];simp
 rw [e2,bne_iff_ne]
 have hp:0 < 2 ^ b:=Nat.two_pow_pos _
 constructor
 ·intro h
  refine Nat.le_of_not_lt fun c=>h ?_
  rw [Nat.div_eq_of_lt c];rfl
 ·intro h c
  have:m / 2 ^ b=0:=by omega
  rcases Nat.div_eq_zero_iff.mp this with z | z <;> omega
section
variable {P:Program} {w:World} {K:PySem.W.Frag} {mg:Str->Option Value} {base:Heap} {C CR fF:Addr}
theorem scB:FnScope ["reader","first","wide","start","mask","pairs","column"] ["reader","first","wide"] (defScope sRB):=⟨rfl,rfl,rfl,by decide +kernel,rfl,by decide +kernel,by decide +kernel⟩
def muB (σ:St) (_:Hp):Nat:=match (σ[4]?:Option (Option V)) with
 | some (some (.int z))=>z.toNat
 | _=>0
theorem ok_B {f fU fE:Addr} {fd fdF fdU fdE:FuncData} (F:Fun K "read_block" "read_block" sRB f fd) (T:Txt K mg C CR fF) (FF:FnOk P w K mg base CX0 1 fF fdF ["self","place","kind"] (spInit C)) (bF:Binds K fdF ["self","place","kind"] [])
  (U:MFn P w K mg base (CXF P w C) 3 CR "unsigned" fU fdU ["self","size"] (spU K C CR)) (G:GFn P w K mg base (CXF P w C) 5 "read_entry" fE fdE ["reader"] (spE K C CR)):FnOk P w K mg base (CXF P w C) 6 f fd ["reader","first","wide"] (spB K C CR):=by
 refine F.okX (C:=C) scB (fun vs H Q E h=>?_) (fun cdv A outer st H vs Q E hr h hX po hT=>?_)
 ·obtain ⟨r,dx,d,s,p,first,wide,rfl,_⟩:=h
  rfl
 ·obtain ⟨r,dx,d,s,p,first,wide,rfl,hwide,R⟩:=h
  have hr2:Room 2 _:=hr.mono (by decide)
  have hr3:Room 3 _:=hr.mono (by decide)
  refine ⟨_,pss_cons (ps_set (i:=3) scB.nd rfl (Or.inl rfl) (pe_fld (pv 0) rfl))
   (pss_cons (ps_set (i:=4) scB.nd rfl (Or.inl rfl) (pe_meth (pv 0) T.cl U.m U.ok hr3 U.b .nil (passX hX) (pa_cons pe_int pa_nil)))
   (pss_cons (ps_if (pt_truth (pe_op op_shr (pv 4) (pv 2)) (fun _=>rfl)) (pss_one (ps_raise T.xc FF hr2 bF (fun _ _ _ _ z=>z) rfl rfl T.mgF hX (pa_cons (pv 3) (pa_cons pe_int pa_nil)))) pss_nil)
   (pss_cons (ps_set (i:=5) scB.nd rfl (Or.inl rfl) (pe_lst pa_nil))
   (pss_cons (ps_set (i:=6) scB.nd rfl (Or.inl rfl) (pv 1))
   (pss_cons (ps_while po (pt_truth (pv 4) (fun _=>rfl))
    (pss_cons (ps_if (pt_truth (pe_op op_and (pv 4) pe_int) (fun _=>rfl))
     (pss_one (ps_expr (pe_bm PySem.F.plainAttrs_list PySem.F.slot_list_append PySem.F.type_list_append mt_append (pv 5) (pa_cons (pe_tup (pa_cons (pv 6) (pa_cons (pe_call G.ok hr rfl G.glo G.kp G.b .nil (passX hX) (pa_cons (pv 0) pa_nil)) pa_nil))) pa_nil)))) pss_nil)
    (pss_cons (ps_set (i:=4) scB.nd rfl (Or.inl rfl) (pe_op op_shr (pv 4) pe_int))
    (pss_one (ps_aug (i:=6) scB.nd rfl (Or.inl rfl) pe_int ip_add)))))
   (pss_one (ps_ret (pv 5)))))))),?_⟩
  have run:=R.run
  rw [GM.run_chunk] at run
  refine ⟨_,rfl,r,CR,dx,_,_,rfl,R.at_,T.cl,T.nA,rf_at _ _,?_⟩
  refine ⟨_,rfl,r,dx,_,rfl,R.at_,noU _ _,r,dx,d,s,p,8,rfl,⟨by decide,by decide⟩,Reads.call R.src (But.refl _ _) R.at_ run fun m q hok v H1 e1 h1 hv _=>?_⟩
  have hv:v=.int (m:Int):=hv
  subst hv
  refine ⟨_,rfl,_,rfl,_,_,rfl,rfl,(by show (0:Int)<=(wide:Int);omega),_,rfl,?_⟩
  refine ite2 (fun hc=>?_) (fun hc=>?_)
  ·have hc:=(shr_test m wide).mp hc
   rw [if_pos hc] at hok
   exact ⟨_,rfl,_,_,rfl,fun dx' hdx=>hok dx' _ (e1.trans (But.new hdx)) upd_same⟩
  ·have hm:¬2 ^ wide<=m:=fun z=>hc ((shr_test m wide).mpr z)
   rw [if_neg hm] at hok
   refine ⟨Nat.zero_le _,fun L hL=>?_⟩
   refine ⟨_,rfl,?_⟩
   have hL0:H L=none:=e1.none' h1 hL
   have hLr:r≠L:=ne_of_none h1 hL
   dsimp only [gName,tSeq]
   refine while_by (fun σ H'=>∃(j q:Nat) (acc:List Int) (as:List Addr),σ=[some (.ref r),some (.int first),some (.int wide),some (.int p),some (.int ((m / 2 ^ j:Nat):Int)),some (.ref L),some (.int ((first + j:Nat):Int))]/\But r H H'/\H' r=some (.ins CR dx (rf d q))/\
    H' L=some (.lst (as.map V.ref))/\Pairs H' (GM.sparse first acc) as/\acc.length=j/\
    GM.Run (GM.cells m wide j) (Ql89Neutral.octets s) q (fun y q'=>∀v H',But r H H'->H' r=some (.ins CR dx (rf d q'))->relP first (acc ++ y) v H'->Fresh H v->Q v H') (Bad C r H E)) muB ?_ ?_ ?_
   ·refine ⟨0,q,[],[],?_,e1.upd hL0,by rw [upd_ne hLr];exact h1,upd_same,.nil,rfl,hok⟩
    rw [Nat.pow_zero,Nat.div_one]
    rfl
   ·rintro σ H2 ⟨j,q2,acc,as,rfl,e2,h2,hL2,hP,hacc,hrun⟩
    refine ⟨_,rfl,_,rfl,?_⟩
    refine ite2 (fun hc=>?_) (fun hc=>?_)
    ·have hne:m / 2 ^ j≠0:=by
      have hc:=bne_iff_ne.mp hc
      omega
     have hjm:2 ^ j<=m:=by
      refine Nat.le_of_not_lt fun z=>hne (Nat.div_eq_of_lt z)
     have hj:j < wide:=(Nat.pow_lt_pow_iff_right (by decide:1 < 2)).mp (by omega)
     have e5:((m / 2 ^ j:Nat):Int) / 2 ^ (1:Int).toNat=((m / 2 ^ (j + 1):Nat):Int):=by
      rw [Nat.pow_succ,<-Nat.div_div_eq_div_mul,Int.natCast_ediv (m / 2 ^ j) 2]
      rfl
     have e6:((first + j:Nat):Int) + 1=((first + (j + 1):Nat):Int):=by omega
     have hmu:m / 2 ^ (j + 1) < m / 2 ^ j:=by
      rw [Nat.pow_succ,<-Nat.div_div_eq_div_mul]
      exact Nat.div_lt_self (Nat.pos_of_ne_zero hne) (by decide)
     rw [GM.run_cells_step hj] at hrun
     refine ⟨_,rfl,_,_,rfl,rfl,_,rfl,?_⟩
     rw [PyProof.Rows.bitAnd_m1]
     refine ite2 (fun hb=>?_) (fun hb=>?_)
     ·have hb:m.testBit j=true:=by
       rw [GM.bit_half]
       have hb:=bne_iff_ne.mp hb
       exact decide_eq_true (by omega)
      rw [GM.run_cell_yes hb] at hrun
      have run':GM.Run entry (Ql89Neutral.octets s) q2 (fun x q'=>x≠0/\GM.Run (GM.cells m wide (j + 1)) (Ql89Neutral.octets s) q' (fun y q''=>∀v H',But r H H'->H' r=some (.ins CR dx (rf d q''))->relP first (acc ++ x :: y) v H'->Fresh H v->Q v H') (Bad C r H E)) (Bad C r H E):=by
       rw [run_entry]
       refine GM.run_mono (GM.run_num_lt hrun) (fun x q h=>?_) fun _ _ h=>h
       obtain ⟨hx,h⟩:=h
       by_cases h0:x=0
       ·rw [if_pos h0] at h |-
        exact h
       ·rw [if_neg h0] at h |-
        exact ⟨fun z=>h0 ((GM.signed_zero (by simpa using hx)).mp z),h⟩
      refine ⟨_,rfl,.inl ⟨rfl,_,SqL.of hL2⟩,_,rfl,_,rfl,r,dx,d,s,q2,rfl,Reads.call (R.src.but e2 R.at_) e2 h2 run' fun z q3 hok v H3 e3 h3 hv _=>?_⟩
      obtain ⟨hz,hok⟩:=hok
      have hv:v=.int z:=hv
      subst hv
      have hL3:H3 L=some (.lst (as.map V.ref)):=e3 L _ hLr.symm hL2
      have hal:as.length=(GM.sparse first acc).length:=(Paired.length hP).symm
      have hsl:=GM.sparse_le acc first
      refine ⟨by show 2<=sizeLine;decide,fun t ht=>?_⟩
      have hLt:L≠t:=ne_of_none hL3 ht
      have hrt:r≠t:=ne_of_none h3 ht
      have ht0:H t=none:=(e2.trans e3).none' h3 ht
      refine ⟨L,_,_,rfl,rfl,by rw [upd_ne hLt];exact hL3,by rw [List.length_map];exact small1000 (by omega),?_⟩
      refine ⟨_,rfl,_,_,rfl,rfl,(by show (0:Int)<=1;decide),?_⟩
      refine ⟨_,rfl,_,_,rfl,rfl,?_⟩
      refine ⟨⟨j + 1,q3,acc ++ [z],as ++ [t],?_,((e2.trans e3).upd ht0).upd hL0,by rw [upd_ne hLr,upd_ne hrt];exact h3,by rw [List.map_append];exact upd_same,?_,by rw [List.length_append,hacc];rfl,?_⟩,?_⟩
      ·show [some (V.ref r),some (V.int first),some (V.int wide),some (V.int p),some (V.int (((m / 2 ^ j:Nat):Int) / 2 ^ (1:Int).toNat)),some (V.ref L),some (V.int (((first + j:Nat):Int) + 1))]=_
       rw [e5,e6]
      ·rw [GM.sparse_snoc _ _ hz,hacc]
       refine paired_app (Pairs.upd ((hP.but e3 h2).mono fun b o e=>by rw [upd_ne (ne_of_none e ht)];exact e) (by rw [upd_ne hLt];exact hL3)) (.cons ?_ .nil)
       show upd _ L _ t=_
       rw [upd_ne hLt.symm,upd_same]
      ·simpa only [List.append_assoc,List.singleton_append] using hok
      ·show (((m / 2 ^ j:Nat):Int) / 2 ^ (1:Int).toNat).toNat < ((m / 2 ^ j:Nat):Int).toNat
       rw [e5,Int.toNat_natCast,Int.toNat_natCast]
       exact hmu
     ·have hb:m.testBit j=false:=by
       rw [GM.bit_half]
       refine decide_eq_false fun z=>hb ?_
       rw [bne_iff_ne]
       omega
      rw [GM.run_cell_no hb] at hrun
      refine ⟨_,rfl,_,_,rfl,rfl,(by show (0:Int)<=1;decide),?_⟩
      refine ⟨_,rfl,_,_,rfl,rfl,?_⟩
      refine ⟨⟨j + 1,q2,acc ++ [0],as,?_,e2,h2,hL2,by rw [GM.sparse_snoc0];exact hP,by rw [List.length_append,hacc];rfl,?_⟩,?_⟩
      ·show [some (V.ref r),some (V.int first),some (V.int wide),some (V.int p),some (V.int (((m / 2 ^ j:Nat):Int) / 2 ^ (1:Int).toNat)),some (V.ref L),some (V.int (((first + j:Nat):Int) + 1))]=_
       rw [e5,e6]
      ·simpa only [List.append_assoc,List.singleton_append] using hrun
      ·show (((m / 2 ^ j:Nat):Int) / 2 ^ (1:Int).toNat).toNat < ((m / 2 ^ j:Nat):Int).toNat
       rw [e5,Int.toNat_natCast,Int.toNat_natCast]
       exact hmu
    ·have h0:m / 2 ^ j=0:=by
      by_cases z:m / 2 ^ j=0
      ·exact z
      ·exact absurd (bne_iff_ne.mpr (show ((m / 2 ^ j:Nat):Int)≠0 by omega)) hc
     rw [GM.run_cells_none h0 _ rfl] at hrun
     refine ⟨_,rfl,hrun _ _ e2 h2 ⟨L,rfl,as,hL2,?_⟩ (fresh_ref hL0)⟩
     rw [GM.sparse_append,GM.sparse_zeros,List.append_nil]
     exact hP
   ·rintro σ H' Q Q' h ⟨v,e,k,t,q⟩
    exact ⟨v,e,k,t,h _ _ q⟩
end
end Go
namespace Go
open PySem L2
theorem rg64 (n:Nat) (h1:1<=n) (h2:n<=4096):RgC 0 (n:Int) 64 (Ql89.blocks n):=by
 have e:Builtin.Range.rangeSize 0 (n:Int) 64=(Ql89.blocks n:Int):=by
  unfold Builtin.Range.rangeSize Ql89.blocks
  rw [if_pos (by decide),if_pos (by omega)]
  omega
 have hb:Ql89.blocks n<=64:=by unfold Ql89.blocks;omega
 refine ⟨by decide,by decide,?_,e⟩
 have f:∀i:Int,-1000000<=i->i<=1000000->Builtin.Range.rangeFitsLong i=true:=fun i h1 h2=>by
  unfold Builtin.Range.rangeFitsLong
  rw [Bool.and_eq_true,decide_eq_true_eq,decide_eq_true_eq]
  omega
 unfold Builtin.Range.small
 rw [e,f 0 (by decide) (by decide),f (n:Int) (by omega) (by omega),f 64 (by decide) (by decide),f (Ql89.blocks n:Int) (by omega) (by omega),if_pos (by decide),f ((n:Int) + (64 - 1)) (by omega) (by omega),Bool.or_true]
 rfl
structure Txt2 (K:PySem.W.Frag) (mg:Str->Option Value) (CM:Addr):Prop where
 cl:Cls K CM
 nR:NoAttr K CM "rows"
 nC:NoAttr K CM "columns"
 nL:NoAttr K CM "lines"
 mgM:mg "Matrix" = some (.ref CM)
 rows:∃t,mg "MOST_ROWS" = some (.int 4096 t)
 cols:∃t,mg "MOST_COLUMNS" = some (.int 4096 t)
 places:∃t,mg "MOST_PLACES" = some (.int 1048576 t)
 block:∃t,mg "BLOCK" = some (.int 64 t)
 min:mg "min" = none
 range:mg "range" = none
theorem rc:¬(("rows" : Str) = "columns"):=by decide +kernel
theorem rl:¬(("rows" : Str) = "lines"):=by decide +kernel
theorem cl':¬(("columns" : Str) = "lines"):=by decide +kernel
def mf (a b c:V):List (Str×V):=putF "lines" c (putF "columns" b (putF "rows" a []))
theorem mf_rows (a b c:V):(mf a b c).lookup ("rows" : Str)=some a:=by
 unfold mf
 rw [lookup_putF,if_neg rl,lookup_putF,if_neg rc,lookup_putF,if_pos rfl]
theorem mf_cols (a b c:V):(mf a b c).lookup ("columns" : Str)=some b:=by
 unfold mf
 rw [lookup_putF,if_neg cl',lookup_putF,if_pos rfl]
theorem mf_lines (a b c:V):(mf a b c).lookup ("lines" : Str)=some c:=by
 unfold mf
 rw [lookup_putF,if_pos rfl]
def spMI (CM:Addr):Sp:=fun vs H Q _=>∃(x dx:Addr) (a b c:V),vs=[.ref x,a,b,c]/\H x=some (.ins CM dx [])/\Q .non (upd H x (.ins CM dx (mf a b c)))
def relM (CM:Addr) (H0:Hp) (m:Ql89.Matrix) (v:V) (H:Hp):Prop:=∃a dxm L,v=.ref a/\H a=some (.ins CM dxm (mf (.int m.rows) (.int m.cols) (.ref L)))/\LinesAt H L m.row/\m.row.length=m.rows/\(1<=m.rows/\m.rows<=4096)/\(1<=m.cols/\m.cols<=4096)/\(∀x∈m.row,x.length=m.cols)/\H0 L=none
def spM (K:PySem.W.Frag) (C CR CM:Addr):Sp:=fun vs H Q E=>∃(r dx d:Addr) (s:List Int) (p:Nat),vs=[.ref r]/\Reads K C CR r dx d s p Ql89.readMatrix (relM CM H) H Q E
section
variable {P:Program} {w:World} {K:PySem.W.Frag} {mg:Str->Option Value} {base:Heap} {C CR fF CM:Addr}
theorem scL:FnScope ["reader","columns","line","first"] ["reader","columns"] (defScope sRL):=⟨rfl,rfl,rfl,by decide +kernel,rfl,by decide +kernel,by decide +kernel⟩
theorem ok_L {f fB:Addr} {fd fdB:FuncData} (F:Fun K "read_line" "read_line" sRL f fd) (T:Txt K mg C CR fF) (T2:Txt2 K mg CM) (G:GFn P w K mg base (CXF P w C) 6 "read_block" fB fdB ["reader","first","wide"] (spB K C CR)) :
  FnOk P w K mg base (CXF P w C) 7 f fd ["reader","columns"] (spL K C CR):=by
 refine F.okX (C:=C) scL (fun vs H Q E h=>?_) (fun cdv A outer st H vs Q E hr h hX po hT=>?_)
 ·obtain ⟨r,dx,d,s,p,cols,rfl,_⟩:=h
  rfl
 ·obtain ⟨r,dx,d,s,p,cols,rfl,⟨hc1,hc2⟩,R⟩:=h
  refine ⟨_,pss_cons (ps_set (i:=2) scL.nd rfl (Or.inl rfl) (pe_lst pa_nil))
   (pss_cons (ps_for po rfl (pi_range3 rfl T2.range (pa_cons pe_int (pa_cons (pv 1) (pa_cons (pe_const T2.block rfl) pa_nil)))) (pg_name (i:=3) scL.nd rfl (Or.inl rfl))
    (pss_one (ps_expr (pe_bm PySem.F.plainAttrs_list PySem.F.slot_list_extend PySem.F.type_list_extend mt_extend (pv 2) (pa_cons (pe_call G.ok hr rfl G.glo G.kp G.b .nil (passX hX)
     (pa_cons (pv 0) (pa_cons (pv 3) (pa_cons (pe_callB (call_min2 rfl) (by rfl) T2.min PyProof.Rows.boot_min (pa_cons (pe_const T2.block rfl) (pa_cons (pe_op op_sub (pv 1) (pv 3)) pa_nil))) pa_nil)))) pa_nil)))))
   (pss_one (ps_ret (pv 2)))),?_⟩
  have run:=R.run
  rw [GM.run_row] at run
  refine ⟨Nat.zero_le _,fun L hL=>?_⟩
  have hLr:r≠L:=ne_of_none R.at_ hL
  refine ⟨_,rfl,_,_,_,Ql89.blocks cols,rfl,rg64 cols hc1 hc2,?_⟩
  refine for_rangeC (fun i σ H'=>∃(q:Nat) (acc:List Int) (as:List Addr) (v:Option V),σ=[some (.ref r),some (.int cols),some (.ref L),v]/\But r H H'/\H' r=some (.ins CR dx (rf d q))/\
    H' L=some (.lst (as.map V.ref))/\Pairs H' (GM.sparse 0 acc) as/\(i < Ql89.blocks cols->acc.length=64 * i)/\acc.length<=cols/\
    GM.Run (GM.blks cols i) (Ql89Neutral.octets s) q (fun y q'=>∀v H',But r H H'->H' r=some (.ins CR dx (rf d q'))->relP 0 (acc ++ y.flatten) v H'->Fresh H v->Q v H') (Bad C r H E)) ?_ ?_ ?_
  ·exact ⟨p,[],[],none,rfl,But.new hL,by rw [upd_ne hLr];exact R.at_,upd_same,.nil,fun _=>rfl,Nat.zero_le _,run⟩
  ·rintro i σ H2 hi ⟨q2,acc,as,v,rfl,e2,h2,hL2,hP,hacc,hac,hrun⟩
   have hacc:=hacc hi
   have hb:64 * i < cols:=by unfold Ql89.blocks at hi;omega
   rw [GM.run_blks_step hi] at hrun
   have run':=GM.run_chunk_len hrun
   refine ⟨_,rfl,.inl ⟨rfl,_,SqL.of hL2⟩,_,rfl,_,rfl,_,rfl,_,rfl,_,_,rfl,rfl,_,_,rfl,?_⟩
   have e3:(0:Int) + (i:Nat) * 64=((64 * i:Nat):Int):=by omega
   have e4:(if (cols:Int) - ((0:Int) + (i:Nat) * 64) < 64 then (cols:Int) - ((0:Int) + (i:Nat) * 64) else 64)=((min 64 (cols - 64 * i):Nat):Int):=by split <;> omega
   refine ⟨r,dx,d,s,q2,64 * i,min 64 (cols - 64 * i),by rw [e4,e3];rfl,by omega,Reads.call (R.src.but e2 R.at_) e2 h2 run' fun x q3 hok v3 H3 e5 h3 hv fr=>?_⟩
   obtain ⟨hx,hok⟩:=hok
   obtain ⟨L3,rfl,as3,hl3,hp3⟩:=hv
   have hL3:H3 L=some (.lst (as.map V.ref)):=e5 L _ hLr.symm hL2
   have hne:L≠L3:=ne_of_none hL2 (fr L3 rfl)
   have l1:as.length<=4096:=by have a:=Paired.length hP;have b:=GM.sparse_le acc 0;omega
   have l2:as3.length<=4096:=by have a:=Paired.length hp3;have b:=GM.sparse_le x (64 * i);omega
   have hs:8192<=sizeLine:=by decide
   refine ⟨L,L3,_,_,rfl,rfl,hL3,hl3,by rw [List.length_map,List.length_map];omega,?_⟩
   refine ⟨q3,acc ++ x,as ++ as3,_,rfl,(e2.trans e5).upd hL,by rw [upd_ne hLr];exact h3,by rw [List.map_append];exact upd_same,?_,?_,?_,?_⟩
   ·rw [GM.sparse_append,Nat.zero_add,hacc]
    exact paired_app (Pairs.upd (hP.but e5 h2) hL3) (Pairs.upd hp3 hL3)
   ·intro hi1
    have:64 * (i + 1) < cols:=by unfold Ql89.blocks at hi1;omega
    rw [List.length_append,hacc,hx]
    omega
   ·rw [List.length_append,hacc,hx]
    omega
   ·simpa only [List.flatten_cons,List.append_assoc] using hok
  ·rintro σ H2 ⟨q2,acc,as,v,rfl,e2,h2,hL2,hP,hacc,hac,hrun⟩
   rw [GM.run_blks_end (Nat.lt_irrefl _)] at hrun
   refine ⟨_,rfl,hrun _ _ e2 h2 ⟨L,rfl,as,hL2,?_⟩ (fresh_ref hL)⟩
   rw [List.flatten_nil,List.append_nil]
   exact hP
theorem scMI:FnScope ["self","rows","columns","lines"] ["self","rows","columns","lines"] (defScope sMI):=⟨rfl,rfl,rfl,by decide +kernel,rfl,by decide +kernel,by decide +kernel⟩
theorem ok_MI {f:Addr} {fd:FuncData} (F:Fun K "__init__" "Matrix.__init__" sMI f fd) (T:Txt2 K mg CM):FnOk P w K mg base CX0 1 f fd ["self","rows","columns","lines"] (spMI CM):=by
 refine F.ok scMI (fun vs H Q E h=>?_) (fun cdv A outer s H vs Q E hr h=>?_)
 ·obtain ⟨x,dx,a,b,c,rfl,_⟩:=h
  rfl
 ·obtain ⟨x,dx,a,b,c,rfl,hx,k⟩:=h
  refine ⟨_,pss_cons (ps_fld (pv 0) (pv 1) rfl) (pss_cons (ps_fld (pv 0) (pv 2) rfl) (pss_one (ps_fld (pv 0) (pv 3) rfl))),?_⟩
  refine ⟨_,rfl,_,rfl,x,CM,dx,_,rfl,hx,T.cl,T.nR,(by show 0 < 1000;decide),_,rfl,_,rfl,x,CM,dx,_,rfl,upd_same,T.cl,T.nC,(by show 1 < 1000;decide),_,rfl,_,rfl,x,CM,dx,_,rfl,upd_same,T.cl,T.nL,?_,?_⟩
  ·show (if ("rows" : Str) = "columns" then _ else _ :: _).length < 1000
   rw [if_neg rc]
   show 2 < 1000
   decide
  ·show Q .non _
   rw [upd_upd,upd_upd]
   exact k
def spShape:Sp:=fun vs H Q _=>∃(r c:Int),vs=[.int r,.int c]/\Q (.bl (decide ((1<=r/\r<=4096)/\(1<=c/\c<=4096)/\r * c<=1048576))) H
theorem scShape:FnScope ["rows","columns"] ["rows","columns"] (defScope sShape):=⟨rfl,rfl,rfl,by decide +kernel,rfl,by decide +kernel,by decide +kernel⟩
theorem ok_shape {f fO:Addr} {fd fdO:FuncData} (F:Fun K "shape_fits" "shape_fits" sShape f fd) (T2:Txt2 K mg CM) (O:OutFn P w K mg base fO fdO):FnOk P w K mg base CX0 2 f fd ["rows","columns"] spShape:=by
 refine F.ok scShape (fun vs H Q E h=>?_) (fun cdv A outer s H vs Q E hr h=>?_)
 ·obtain ⟨r,c,rfl,_⟩:=h
  rfl
 ·obtain ⟨r,c,rfl,h⟩:=h
  refine ⟨_,pss_cons (ps_if (PW.pt (pw_or (pt_truth (pe_call O.ok hr rfl O.glo O.kp O.b .nil pass0 (pa_cons (pv 0) (pa_cons pe_int (pa_cons (pe_const T2.rows rfl) pa_nil)))) (fun _=>rfl))
    (pw_or1 (pt_truth (pe_call O.ok hr rfl O.glo O.kp O.b .nil pass0 (pa_cons (pv 1) (pa_cons pe_int (pa_cons (pe_const T2.cols rfl) pa_nil)))) (fun _=>rfl))))) (pss_one (ps_ret pe_bl)) pss_nil)
   (pss_one (ps_ret (pe_cmpR op_le (pe_op op_mul (pv 0) (pv 1)) (pe_const T2.places rfl) (nomark _)))),?_⟩
  refine ⟨_,rfl,_,_,_,rfl,_,rfl,?_⟩
  refine ite2 (fun hc=>?_) (fun hc=>?_)
  ·have hc:=of_decide_eq_true hc
   rw [decide_eq_false (fun z=>by omega)] at h
   exact iteT h
  ·have hc:¬(r < 1\/4096 < r):=fun z=>hc (decide_eq_true z)
   refine ⟨_,rfl,_,_,_,rfl,_,rfl,?_⟩
   refine ite2 (fun hd=>?_) (fun hd=>?_)
   ·have hd:=of_decide_eq_true hd
    rw [decide_eq_false (fun z=>by omega)] at h
    exact h
   ·have hd:¬(c < 1\/4096 < c):=fun z=>hd (decide_eq_true z)
    refine ⟨_,rfl,_,rfl,_,_,rfl,rfl,.inl ⟨by omega,by omega⟩,_,_,rfl,rfl,?_⟩
    have e:decide ((1<=r/\r<=4096)/\(1<=c/\c<=4096)/\r * c<=1048576)=decide (r * c<=1048576):=by
     by_cases z:r * c<=1048576
     ·rw [decide_eq_true z]
      exact decide_eq_true ⟨⟨by omega,by omega⟩,⟨by omega,by omega⟩,z⟩
     ·rw [decide_eq_false z]
      exact decide_eq_false fun q=>z q.2.2
    rw [e] at h
    exact h
theorem scM:FnScope ["reader","rows","start","columns","lines","row"] ["reader"] (defScope sRM):=⟨rfl,rfl,rfl,by decide +kernel,rfl,by decide +kernel,by decide +kernel⟩
theorem LinesAt.upd {H:Hp} {L:Addr} {xs ys:List V} {rows:List (List Int)} {as:List Addr} (h:Lines H rows as) (hL:H L=some (.lst xs)) (hn:∀a∈as,a≠L):Lines (L2.upd H L (.lst ys)) rows as:=by
 induction h with
 | nil=>exact .nil
 | cons q t ih=>
  refine .cons ?_ (ih fun a ha=>hn a (List.mem_cons_of_mem _ ha))
  obtain ⟨bs,h1,h2⟩:=q
  exact ⟨bs,by rw [upd_ne (hn _ List.mem_cons_self)];exact h1,Pairs.upd h2 hL⟩
theorem ok_M {f fUW fL fMI fSh:Addr} {fd fdF fdUW fdL fdMI fdSh:FuncData} (F:Fun K "read_matrix" "read_matrix" sRM f fd) (T:Txt K mg C CR fF) (T2:Txt2 K mg CM) (FF:FnOk P w K mg base CX0 1 fF fdF ["self","place","kind"] (spInit C)) (bF:Binds K fdF ["self","place","kind"] [])
  (UW:MFn P w K mg base (CXF P w C) 4 CR "unsigned_within" fUW fdUW ["self","size","low","high"] (spUW K C CR)) (G:GFn P w K mg base (CXF P w C) 7 "read_line" fL fdL ["reader","columns"] (spL K C CR))
  (M:Mk K CM fMI) (FI:FnOk P w K mg base CX0 1 fMI fdMI ["self","rows","columns","lines"] (spMI CM)) (bI:Binds K fdMI ["self","rows","columns","lines"] []) (SF:GFn P w K mg base CX0 2 "shape_fits" fSh fdSh ["rows","columns"] spShape):FnOk P w K mg base (CXF P w C) 8 f fd ["reader"] (spM K C CR CM):=by
 refine F.okX (C:=C) scM (fun vs H Q E h=>?_) (fun cdv A outer st H vs Q E hr h hX po hT=>?_)
 ·obtain ⟨r,dx,d,s,p,rfl,_⟩:=h
  rfl
 ·obtain ⟨r,dx,d,s,p,rfl,R⟩:=h
  have hr2:Room 2 _:=hr.mono (by decide)
  have hr4:Room 4 _:=hr.mono (by decide)
  refine ⟨_,pss_cons (ps_set (i:=1) scM.nd rfl (Or.inl rfl) (pe_meth (pv 0) T.cl UW.m UW.ok hr4 UW.b .nil (passX hX) (pa_cons pe_int (pa_cons pe_int (pa_cons (pe_const T2.rows rfl) pa_nil)))))
   (pss_cons (ps_set (i:=2) scM.nd rfl (Or.inl rfl) (pe_fld (pv 0) rfl))
   (pss_cons (ps_set (i:=3) scM.nd rfl (Or.inr rfl) (pe_meth (pv 0) T.cl UW.m UW.ok hr4 UW.b .nil (passX hX) (pa_cons pe_int (pa_cons pe_int (pa_cons (pe_const T2.cols rfl) pa_nil)))))
   (pss_cons (ps_if (pt_not (pt_truth (pe_call SF.ok hr2 rfl SF.glo SF.kp SF.b .nil pass0 (pa_cons (pv 1) (pa_cons (pv 3) pa_nil))) (fun _=>rfl))) (pss_one (ps_raise T.xc FF hr2 bF (fun _ _ _ _ z=>z) rfl rfl T.mgF hX (pa_cons (pv 2) (pa_cons pe_int pa_nil)))) pss_nil)
   (pss_cons (ps_setLcX (i:=4) hT hX rfl scM.nd rfl rfl (sw_true rfl rfl rfl (by decide +kernel)) (pi_range1 rfl T2.range (pa_cons (pv 1) pa_nil)) (blkOk_by (own:=[("row",5)]) (by kernel_rfl))
    (fun _ _ _ _ _=>pg_name (i:=5) scM.nd rfl (Or.inl rfl)) (fun _ _ _ _ _=>pts_nil)
    (fun _ _ _ _ _ _ hx=>pe_call G.ok hr rfl G.glo G.kp G.b .nil (passX hx) (pa_cons (pv 0) (pa_cons (pv 3) pa_nil))))
   (pss_one (ps_ret (pe_make M FI hr2 rfl T2.mgM bI .nil pass0 (pa_cons (pv 1) (pa_cons (pv 3) (pa_cons (pv 4) pa_nil)))))))))),?_⟩
  have run:=R.run
  rw [GM.run_matrix] at run
  refine ⟨_,rfl,r,dx,_,rfl,R.at_,noUW _ _,r,dx,d,s,p,2,1,4096,rfl,⟨by decide,by decide⟩,Reads.call R.src (But.refl _ _) R.at_ (GM.run_numIn_of run) fun rows q1 hok v H1 e1 h1 hv _=>?_⟩
  obtain ⟨⟨hm1,hm2⟩,hok⟩:=hok
  have hv:v=.int (rows:Int):=hv
  subst hv
  refine ⟨_,rfl,r,CR,dx,_,_,rfl,h1,T.cl,T.nA,rf_at _ _,?_⟩
  refine ⟨_,rfl,r,dx,_,rfl,h1,noUW _ _,r,dx,d,s,q1,2,1,4096,rfl,⟨by decide,by decide⟩,Reads.call (R.src.but e1 R.at_) e1 h1 (GM.run_numIn_of hok) fun cols q2 hok v H2 e2 h2 hv _=>?_⟩
  obtain ⟨⟨hc1,hc2⟩,hok⟩:=hok
  have hv:v=.int (cols:Int):=hv
  subst hv
  have e12:But r H H2:=e1.trans e2
  refine ⟨_,rfl,_,rfl,_,_,rfl,_,rfl,?_⟩
  by_cases hpl:1048576 < rows * cols
  ·rw [if_pos hpl] at hok
   refine iteNA (fun z=>?_) ?_
   ·have z:=z.2.2
    rw [<-Int.natCast_mul] at z
    omega
   ·exact ⟨_,rfl,_,_,rfl,fun dx' hdx=>hok dx' _ (e12.trans (But.new hdx)) upd_same⟩
  ·rw [if_neg hpl] at hok
   refine iteNS ⟨⟨by omega,by omega⟩,⟨by omega,by omega⟩,by rw [<-Int.natCast_mul];omega⟩ ?_
   refine ⟨_,rfl,_,rfl,by omega,by omega,fun D hD=>?_⟩
   have hDr:r≠D:=ne_of_none h2 hD
   have hD0:H D=none:=e12.none' h2 hD
   have hs:8192<=sizeLine:=by decide
   refine lc_range (fun i H'=>∃(q:Nat) (acc:List (List Int)) (as:List Addr),But r H H'/\H' r=some (.ins CR dx (rf d q))/\H' D=some (.lst (as.map V.ref))/\Lines H' acc as/\(∀a∈as,a≠D)/\acc.length=i/\(∀x∈acc,x.length=cols)/\
    GM.Run (GM.rws (rows - i) cols) (Ql89Neutral.octets s) q (fun y q'=>∀v H',But r H H'->H' r=some (.ins CR dx (rf d q'))->relM CM H ⟨rows,cols,acc ++ y⟩ v H'->Fresh H v->Q v H') (Bad C r H E)) ?_ ?_ ?_
   ·exact ⟨q2,[],[],e12.upd hD0,by rw [upd_ne hDr];exact h2,upd_same,.nil,(fun _ z=>(nomatch z)),rfl,(fun _ z=>(nomatch z)),hok⟩
   ·rintro i H3 hi ⟨q,acc,as,e3,h3,hD3,hL,hne,hacc,hcl,hrun⟩
    have hi:i < rows:=by rw [Int.toNat_natCast] at hi;exact hi
    have e4:rows - i=rows - (i + 1) + 1:=by omega
    rw [e4,GM.run_rws_succ] at hrun
    refine ⟨rfl,_,rfl,_,rfl,r,dx,d,s,q,cols,rfl,⟨hc1,hc2⟩,Reads.call (R.src.but e3 R.at_) e3 h3 (GM.run_row_len hrun) fun x q4 hok v H4 e5 h4 hv fr=>?_⟩
    obtain ⟨hx,hok⟩:=hok
    obtain ⟨L4,rfl,hp⟩:=hv
    have hD4:H4 D=some (.lst (as.map V.ref)):=e5 D _ hDr.symm hD3
    have hne4:L4≠D:=fun z=>by have q:=fr L4 rfl;rw [z,hD3] at q;cases q
    have hal:acc.length=as.length:=Paired.length hL
    refine ⟨_,hD4,by rw [List.length_map];omega,q4,acc ++ [x],as ++ [L4],(e3.trans e5).upd hD0,by rw [upd_ne hDr];exact h4,by rw [List.map_append];exact upd_same,?_,?_,by rw [List.length_append,hacc];rfl,?_,?_⟩
    ·refine paired_app (LinesAt.upd (hL.but e5 h3) hD4 hne) (.cons ?_ .nil)
     obtain ⟨bs,b1,b2⟩:=hp
     exact ⟨bs,by rw [upd_ne hne4];exact b1,Pairs.upd b2 hD4⟩
    ·intro a ha
     rcases List.mem_append.mp ha with z | z
     ·exact hne a z
     ·have z:a=L4:=by simpa using z
      rw [z];exact hne4
    ·intro y hy
     rcases List.mem_append.mp hy with z | z
     ·exact hcl y z
     ·have z:y=x:=by simpa using z
      rw [z];exact hx
    ·simpa only [List.append_assoc,List.singleton_append] using hok
   ·rintro H3 ⟨q,acc,as,e3,h3,hD3,hL,hne,hacc,hcl,hrun⟩
    rw [Int.toNat_natCast] at hacc hrun
    rw [Nat.sub_self,GM.run_rws_zero,List.append_nil] at hrun
    refine ⟨_,rfl,_,rfl,_,rfl,fun x dxm nx ndx nex=>⟨x,dxm,_,_,_,rfl,upd_same,rfl,?_⟩⟩
    have x0:H x=none:=e3.none' h3 nx
    have d0:H dxm=none:=e3.none' h3 ndx
    have hrx:r≠x:=ne_of_none h3 nx
    have hrd:r≠dxm:=ne_of_none h3 ndx
    have sm:Same H3 (upd (upd (upd H3 dxm (.own x)) x (.ins CM dxm [])) x (.ins CM dxm (mf (.int rows) (.int cols) (.ref D)))):=fun b o e=>by
     rw [upd_ne (ne_of_none e nx),upd_ne (ne_of_none e nx),upd_ne (ne_of_none e ndx)];exact e
    refine hrun _ _ (((e3.upd d0).upd x0).upd x0) (sm _ _ h3) ⟨x,dxm,D,rfl,upd_same,⟨as,sm _ _ hD3,hL.mono sm⟩,hacc,⟨hm1,hm2⟩,⟨hc1,hc2⟩,hcl,hD0⟩ (fresh_ref x0)
end
end Go
namespace Go
open PySem L2
theorem mem_zipWith {α β γ:Type} {f:α->β->γ}:∀{l:List α} {m:List β} {z:γ},z∈List.zipWith f l m->∃a∈l,∃b∈m,z=f a b
 | [],_,_,h=>by simp at h
 | _ :: _,[],_,h=>by simp at h
 | a :: l,b :: m,z,h=>by
  rw [List.zipWith_cons_cons] at h
  rcases List.mem_cons.mp h with e | h
  ·exact ⟨a,List.mem_cons_self,b,List.mem_cons_self,e⟩
  ·obtain ⟨a',h1,b',h2,e⟩:=mem_zipWith h
   exact ⟨a',List.mem_cons_of_mem _ h1,b',List.mem_cons_of_mem _ h2,e⟩
structure Attrs (K:PySem.W.Frag) (C:Addr) (l:List Str):Prop where
 cl:Cls K C
 no:∀f∈l,NoAttr K C f
def netA:List Str:=["words","width","heads","inner","places","word_power","place_power","falling","bend","word_lines","place_lines","layers","last_gains","leanings","fall_shift"]
def layA:List Str:=["first_gains","query","key","value","fall_shift","out","second_gains","up","down"]
def kepA:List Str:=["key_columns","value_columns"]
def FI (H:Hp) (fs:List (Str×V)) (f:Str) (l:List Int):Prop:=∃a,fs.lookup f=some (.ref a)/\IntsAt H a l
def FS (H:Hp) (fs:List (Str×V)) (f:Str) (l:List Ql89.Row):Prop:=∃a,fs.lookup f=some (.ref a)/\ScaledAt H a l
def FM (H:Hp) (fs:List (Str×V)) (f:Str) (l:List (List Int)):Prop:=∃a,fs.lookup f=some (.ref a)/\LinesAt H a l
def FN (fs:List (Str×V)) (f:Str) (n:Nat):Prop:=fs.lookup f=some (.int (n:Int))
theorem FI.mono {H H':Hp} {fs:List (Str×V)} {f:Str} {l:List Int} (h:FI H fs f l) (s:Same H H'):FI H' fs f l:=by obtain ⟨a,h1,h2⟩:=h;exact ⟨a,h1,s _ _ h2⟩
theorem FS.mono {H H':Hp} {fs:List (Str×V)} {f:Str} {l:List Ql89.Row} (h:FS H fs f l) (s:Same H H'):FS H' fs f l:=by obtain ⟨a,h1,h2⟩:=h;exact ⟨a,h1,h2.mono s⟩
theorem FM.mono {H H':Hp} {fs:List (Str×V)} {f:Str} {l:List (List Int)} (h:FM H fs f l) (s:Same H H'):FM H' fs f l:=by obtain ⟨a,h1,h2⟩:=h;exact ⟨a,h1,h2.mono s⟩
structure LayerF (H:Hp) (fs:List (Str×V)) (y:Ql89.Layer):Prop where
 g1:FI H fs "first_gains" y.g1
 q:FS H fs "query" y.query
 k:FS H fs "key" y.key
 v:FS H fs "value" y.value
 c:FN fs "fall_shift" y.c
 o:FS H fs "out" y.out
 g2:FI H fs "second_gains" y.g2
 u:FS H fs "up" y.up
 d:FS H fs "down" y.down
def LayerAt (CL:Addr) (H:Hp) (y:Ql89.Layer) (a:Addr):Prop:=∃dx fs,H a=some (.ins CL dx fs)/\LayerF H fs y
theorem LayerAt.mono {CL a:Addr} {H H':Hp} {y:Ql89.Layer} (h:LayerAt CL H y a) (s:Same H H'):LayerAt CL H' y a:=by
 obtain ⟨dx,fs,h1,h2⟩:=h
 exact ⟨dx,fs,s _ _ h1,h2.g1.mono s,h2.q.mono s,h2.k.mono s,h2.v.mono s,h2.c,h2.o.mono s,h2.g2.mono s,h2.u.mono s,h2.d.mono s⟩
structure NetF (CL:Addr) (H:Hp) (fs:List (Str×V)) (n:Ql89.Net):Prop where
 words:FN fs "words" n.words
 width:FN fs "width" n.width
 heads:FN fs "heads" n.heads
 inner:FN fs "inner" n.inner
 places:FN fs "places" n.places
 e0:FN fs "word_power" n.e0
 e1:FN fs "place_power" n.e1
 fal:∃a,fs.lookup ("falling" : Str)=some (.ref a)/\H a=some (.lst (natI n.falling))
 bend:FI H fs "bend" n.bend
 emb:FM H fs "word_lines" n.emb.row
 pos:FM H fs "place_lines" n.pos.row
 lay:∃a as,fs.lookup ("layers" : Str)=some (.ref a)/\H a=some (.lst (as.map V.ref))/\Paired (LayerAt CL H) n.layers as
 g:FI H fs "last_gains" n.g
 lean:FI H fs "leanings" n.lean
 c:FN fs "fall_shift" n.c
def NetAt (CN CL:Addr) (H:Hp) (n:Ql89.Net) (a:Addr):Prop:=∃dx fs,H a=some (.ins CN dx fs)/\NetF CL H fs n
theorem NetAt.mono {CN CL a:Addr} {H H':Hp} {n:Ql89.Net} (h:NetAt CN CL H n a) (s:Same H H'):NetAt CN CL H' n a:=by
 obtain ⟨dx,fs,h1,h2⟩:=h
 refine ⟨dx,fs,s _ _ h1,h2.words,h2.width,h2.heads,h2.inner,h2.places,h2.e0,h2.e1,?_,h2.bend.mono s,h2.emb.mono s,h2.pos.mono s,?_,h2.g.mono s,h2.lean.mono s,h2.c⟩
 ·obtain ⟨b,b1,b2⟩:=h2.fal
  exact ⟨b,b1,s _ _ b2⟩
 ·obtain ⟨b,as,b1,b2,b3⟩:=h2.lay
  exact ⟨b,as,b1,s _ _ b2,Paired.mapP b3 fun y c q=>q.mono s⟩
def Byte (l:List Int):Prop:=∀z∈l,-128<=z/\z<=127
structure LayerOk (y:Ql89.Layer) (d inner:Nat):Prop where
 g1:y.g1.length=d
 q:y.query.length=d/\∀x∈y.query,RowOk x d
 k:y.key.length=d/\∀x∈y.key,RowOk x d
 v:y.value.length=d/\∀x∈y.value,RowOk x d
 o:y.out.length=d/\∀x∈y.out,RowOk x d
 g2:y.g2.length=d
 u:y.up.length=inner/\∀x∈y.up,RowOk x d
 dn:y.down.length=d/\∀x∈y.down,RowOk x inner
structure NetOk (n:Ql89.Net):Prop where
 words:1<=n.words/\n.words<=4096
 width:1<=n.width/\n.width<=256
 heads:1<=n.heads/\n.heads<=8/\n.width % n.heads=0
 inner:1<=n.inner/\n.inner<=1024
 places:1<=n.places/\n.places<=256
 e0:n.e0<=7
 e1:n.e1<=7
 fal:n.falling.length=256/\1<=n.falling.getD 0 0/\∀x∈n.falling,x<=65535
 bend:n.bend.length=256/\Byte n.bend
 emb:n.emb.row.length=n.words/\∀x∈n.emb.row,x.length=n.width/\Byte x
 pos:n.pos.row.length=n.places/\∀x∈n.pos.row,x.length=n.width/\Byte x
 lay:∀y∈n.layers,LayerOk y n.width n.inner
 g:n.g.length=n.width
 lean:n.lean.length=n.words
def Off (A:List Addr) (H H':Hp):Prop:=∀b o,b∉A->H b=some o->H' b=some o
theorem Off.of {A:List Addr} {H H':Hp} (s:Same H H'):Off A H H':=fun b o _ e=>s b o e
theorem Off.trans {A:List Addr} {H H1 H2:Hp} (a:Off A H H1) (b:Off A H1 H2):Off A H H2:=fun c o n e=>b c o n (a c o n e)
theorem Off.same {A:List Addr} {H0 H H':Hp} (s:Same H0 H) (hA:∀a∈A,H0 a=none) (h:Off A H H'):Same H0 H':=fun b o e=>h b o (fun z=>by rw [hA b z] at e;cases e) (s b o e)
theorem Off.mono {A B:List Addr} {H H':Hp} (h:Off A H H') (s:∀a∈A,a∈B):Off B H H':=fun b o n e=>h b o (fun z=>n (s b z)) e
theorem Off.free {A:List Addr} {H H':Hp} (h:Off A H H') (hA:∀a∈A,∃o,H' a=some o) {l:Addr} (e:H' l=none):H l=none:=by
 cases q:H l with
 | none=>rfl
 | some o=>
  by_cases z:l∈A
  ·obtain ⟨o',q'⟩:=hA l z
   rw [q'] at e;cases e
  ·rw [h l o z q] at e;cases e
def colsOf (d:Nat) (past:List (List Int)):List (List Int):=(List.range d).map fun (j:Nat)=>past.map fun (x:List Int)=>x.getD j 0
def ColsAt (H:Hp) (cols:List (List Int)) (as:List Addr):Prop:=Paired (fun (c:List Int) (a:Addr)=>IntsAt H a c) cols as
theorem ColsAt.cols {K:PySem.W.Frag} {H:Hp} {cols:List (List Int)} {as:List Addr} (h:ColsAt H cols as):ColsOf K H cols as:=Paired.mapP h fun c a q=>SqL.of q
theorem ColsAt.off {A:List Addr} {H H':Hp} {cols:List (List Int)} {as:List Addr} (h:ColsAt H cols as) (o:Off A H H') (hn:∀a∈as,a∉A):ColsAt H' cols as:=by
 induction h with
 | nil=>exact .nil
 | cons q t ih=>exact .cons (o _ _ (hn _ List.mem_cons_self) q) (ih fun a ha=>hn a (List.mem_cons_of_mem _ ha))
theorem ColsAt.mono {H H':Hp} {cols:List (List Int)} {as:List Addr} (h:ColsAt H cols as) (s:Same H H'):ColsAt H' cols as:=Paired.mapP h fun c a q=>s _ _ q
structure KeptAt (CK:Addr) (H:Hp) (a:Addr) (d:Nat) (past:List Ql89.Pair) (ks vs:List Addr):Prop where
 ob:∃dx fs kc vc,H a=some (.ins CK dx fs)/\fs.lookup ("key_columns" : Str)=some (.ref kc)/\fs.lookup ("value_columns" : Str)=some (.ref vc)/\fs.lookup ("keep" : Str)=none/\fs.lookup ("keep_only" : Str)=none/\fs.length<=10/\H kc=some (.lst (ks.map V.ref))/\H vc=some (.lst (vs.map V.ref))/\kc∉ks ++ vs/\vc∉ks ++ vs
 ck:ColsAt H (colsOf d (past.map (·.1))) ks
 cv:ColsAt H (colsOf d (past.map (·.2))) vs
 nd:(ks ++ vs).Nodup
theorem KeptAt.off {CK a:Addr} {A:List Addr} {H H':Hp} {d:Nat} {past:List Ql89.Pair} {ks vs:List Addr} (h:KeptAt CK H a d past ks vs) (o:Off A H H') (hA:∀b∈A,∃l,H b=some (.lst l)/\∃is:List Int,l=is.map V.int) (hd:∀b∈ks ++ vs,b∉A) (hpos:0 < d):KeptAt CK H' a d past ks vs:=by
 obtain ⟨dx,fs,kc,vc,h1,h2,h3,h4,h4',h5,h6,h7,h8,h9⟩:=h.ob
 have la:∀l:List Addr,l≠[]->∀c,H c=some (.lst (l.map V.ref))->c∉A:=fun l hl c hc z=>by
  obtain ⟨m,e,is,rfl⟩:=hA c z
  rw [hc] at e
  have e:=Option.some.inj e
  injection e with e
  cases l with
  | nil=>exact hl rfl
  | cons x r=>
   cases is with
   | nil=>cases e
   | cons y t=>
    have:=(List.cons.inj e).1
    cases this
 have na:a∉A:=fun z=>by
  obtain ⟨m,e,_⟩:=hA a z
  rw [h1] at e
  cases e
 have lk:ks.length=d:=by
  have:=Paired.length h.ck
  unfold colsOf at this
  simpa using this.symm
 have lv:vs.length=d:=by
  have:=Paired.length h.cv
  unfold colsOf at this
  simpa using this.symm
 refine ⟨⟨dx,fs,kc,vc,o _ _ na h1,h2,h3,h4,h4',h5,o _ _ (la ks (fun z=>by rw [z] at lk;simp at lk;omega) kc h6) h6,o _ _ (la vs (fun z=>by rw [z] at lv;simp at lv;omega) vc h7) h7,h8,h9⟩,h.ck.off o fun b hb=>hd b (List.mem_append_left _ hb),h.cv.off o fun b hb=>hd b (List.mem_append_right _ hb),h.nd⟩
end Go
namespace Go
open PySem L2
section
variable {P:Program} {w:World} {K:PySem.W.Frag} {mg:Str->Option Value} {base:Heap} {C CR fF CM:Addr}
theorem scSW:FnScope ["self","size","low","high","start"] ["self","size","low","high"] (defScope sSW):=⟨rfl,rfl,rfl,by decide +kernel,rfl,by decide +kernel,by decide +kernel⟩
theorem ok_SW {f fS fW:Addr} {fd fdS fdW:FuncData} (F:Fun K "signed_within" "Reader.signed_within" sSW f fd) (T:Txt K mg C CR fF) (S:MFn P w K mg base (CXF P w C) 4 CR "signed" fS fdS ["self","size"] (spS K C CR))
  (W:GFn P w K mg base (CXF P w C) 3 "within" fW fdW ["number","low","high","start"] (spW C)):FnOk P w K mg base (CXF P w C) 5 f fd ["self","size","low","high"] (spSW K C CR):=by
 refine F.okX (C:=C) scSW (fun vs H Q E h=>?_) (fun cdv A outer st H vs Q E hr h hX po hT=>?_)
 ·obtain ⟨r,dx,d,s,p,w,lo,hi,rfl,_⟩:=h
  rfl
 ·obtain ⟨r,dx,d,s,p,w',lo,hi,rfl,hw,R⟩:=h
  have hr3:Room 3 _:=hr.mono (by decide)
  refine ⟨_,pss_cons (ps_set (i:=4) scSW.nd rfl (Or.inl rfl) (pe_fld (pv 0) rfl))
   (pss_one (ps_ret (pe_call W.ok hr3 rfl W.glo W.kp W.b .nil (passX hX) (pa_cons (pe_meth (pv 0) T.cl S.m S.ok hr S.b .nil (passX hX) (pa_cons (pv 1) pa_nil)) (pa_cons (pv 2) (pa_cons (pv 3) (pa_cons (pv 4) pa_nil))))))),?_⟩
  have run:=R.run
  rw [GM.run_signedIn] at run
  have run':GM.Run (numS w') (Ql89Neutral.octets s) p (fun z q=>if lo<=z/\z<=hi then (∀v H',But r H H'->H' r=some (.ins CR dx (rf d q))->relI z v H'->Fresh H v->Q v H') else Bad C r H E p 2) (Bad C r H E):=by
   unfold numS
   rw [GM.run_bind]
   exact run
  refine ⟨_,rfl,r,CR,dx,_,_,rfl,R.at_,T.cl,T.nA,rf_at _ _,?_⟩
  refine ⟨_,rfl,r,dx,_,rfl,R.at_,noS _ _,_,rfl,r,dx,d,s,p,w',rfl,hw,Reads.call R.src (But.refl _ _) R.at_ run' fun x q hok v H' e h' hv _=>?_⟩
  have hv:v=.int x:=hv
  subst hv
  refine ⟨_,rfl,_,rfl,_,rfl,_,_,_,_,rfl,?_⟩
  by_cases hc:lo<=x/\x<=hi
  ·rw [if_pos hc] at hok |-
   exact hok _ _ e h' rfl fresh_int
  ·rw [if_neg hc] at hok |-
   exact fun dx' hdx=>hok dx' _ (e.trans (But.new hdx)) upd_same
def relTL (x:Ql89.Matrix) (v:V) (H:Hp):Prop:=∃L,v=.ref L/\LinesAt H L x.row/\GM.MatOk x
def spTL (K:PySem.W.Frag) (C CR:Addr):Sp:=fun vs H Q E=>∃(r dx d:Addr) (s:List Int) (p rows cols:Nat),vs=[.ref r,.int rows,.int cols]/\Reads K C CR r dx d s p (Ql89.readShaped rows cols) relTL H Q E
theorem scTL:FnScope ["reader","rows","columns","start","matrix"] ["reader","rows","columns"] (defScope sTL):=⟨rfl,rfl,rfl,by decide +kernel,rfl,by decide +kernel,by decide +kernel⟩
theorem ok_TL {f fM:Addr} {fd fdF fdM:FuncData} (F:Fun K "read_told_lines" "read_told_lines" sTL f fd) (T:Txt K mg C CR fF) (T2:Txt2 K mg CM) (FF:FnOk P w K mg base CX0 1 fF fdF ["self","place","kind"] (spInit C)) (bF:Binds K fdF ["self","place","kind"] [])
  (G:GFn P w K mg base (CXF P w C) 8 "read_matrix" fM fdM ["reader"] (spM K C CR CM)):FnOk P w K mg base (CXF P w C) 9 f fd ["reader","rows","columns"] (spTL K C CR):=by
 refine F.okX (C:=C) scTL (fun vs H Q E h=>?_) (fun cdv A outer st H vs Q E hr h hX po hT=>?_)
 ·obtain ⟨r,dx,d,s,p,rows,cols,rfl,_⟩:=h
  rfl
 ·obtain ⟨r,dx,d,s,p,rows,cols,rfl,R⟩:=h
  have hr2:Room 2 _:=hr.mono (by decide)
  refine ⟨_,pss_cons (ps_set (i:=3) scTL.nd rfl (Or.inl rfl) (pe_fld (pv 0) rfl))
   (pss_cons (ps_set (i:=4) scTL.nd rfl (Or.inl rfl) (pe_call G.ok hr rfl G.glo G.kp G.b .nil (passX hX) (pa_cons (pv 0) pa_nil)))
   (pss_cons (ps_if (PW.pt (pw_or (pt_cmpR op_ne (pe_fld (pv 4) rfl) (pv 1) (nomark _)) (pw_or1 (pt_cmpR op_ne (pe_fld (pv 4) rfl) (pv 2) (nomark _))))) (pss_one (ps_raise T.xc FF hr2 bF (fun _ _ _ _ z=>z) rfl rfl T.mgF hX (pa_cons (pv 3) (pa_cons pe_int pa_nil)))) pss_nil)
   (pss_one (ps_ret (pe_fld (pv 4) rfl))))),?_⟩
  have run:=GM.run_shaped R.run
  refine ⟨_,rfl,r,CR,dx,_,_,rfl,R.at_,T.cl,T.nA,rf_at _ _,?_⟩
  refine ⟨_,rfl,r,dx,d,s,p,rfl,Reads.call R.src (But.refl _ _) R.at_ run fun m q hok v H' e h' hv fr=>?_⟩
  obtain ⟨mok,hok⟩:=hok
  obtain ⟨am,dxm,L,rfl,hm,hL,hrows,hb1,hb2,hcl,hL0⟩:=hv
  refine ⟨_,rfl,am,CM,dxm,_,_,rfl,hm,T2.cl,T2.nR,mf_rows _ _ _,_,rfl,rfl,_,rfl,?_⟩
  have key:∀a b:Nat,((!decide (V.int (a:Int)=V.int (b:Int)))=true↔a≠b):=fun a b=>by
   rw [Bool.not_eq_true',decide_eq_false_iff_not]
   constructor
   ·intro h z;exact h (by rw [z])
   ·intro h z
    injection z with z
    exact h (by omega)
  refine ite2 (fun hc=>?_) (fun hc=>?_)
  ·have hc:m.rows≠rows:=(key _ _).mp hc
   rw [if_neg (fun z=>hc z.1)] at hok
   refine iteT ?_
   exact ⟨_,rfl,_,_,rfl,fun dx' hdx=>hok dx' _ (e.trans (But.new hdx)) upd_same⟩
  ·have hc:m.rows=rows:=by
    by_cases z:m.rows=rows
    ·exact z
    ·exact absurd ((key _ _).mpr z) hc
   refine ⟨_,rfl,am,CM,dxm,_,_,rfl,hm,T2.cl,T2.nC,mf_cols _ _ _,_,rfl,rfl,_,rfl,?_⟩
   refine ite2 (fun hd=>?_) (fun hd=>?_)
   ·have hd:m.cols≠cols:=(key _ _).mp hd
    rw [if_neg (fun z=>hd z.2)] at hok
    exact ⟨_,rfl,_,_,rfl,fun dx' hdx=>hok dx' _ (e.trans (But.new hdx)) upd_same⟩
   ·have hd:m.cols=cols:=by
     by_cases z:m.cols=cols
     ·exact z
     ·exact absurd ((key _ _).mpr z) hd
    rw [if_pos ⟨hc,hd⟩] at hok
    exact ⟨_,rfl,am,CM,dxm,_,_,rfl,hm,T2.cl,T2.nL,mf_lines _ _ _,hok _ _ e h' ⟨L,rfl,hL,mok⟩ (fresh_ref hL0)⟩
theorem lc_reads {α:Type} {act:Ql89.R α} {r dx d D:Addr} {s:List Int} {q0 n:Nat} {lo:Int} {H1:Hp} {g:TG} {te:TE} {vs:List Nat} {σ:L2.St} {Qd:Hp->Prop} {ok:List α->Nat->Prop} {bad:Nat->Nat->Prop} (RV:α->V->Hp->Prop)
  (h1:H1 r=some (.ins CR dx (rf d q0))) (hD:H1 D=none) (hn:n<=100000) (run:GM.Run (Ql89.times_ n act) (Ql89Neutral.octets s) q0 ok bad)
  (m1:∀(x:α) v H' H'' q l,H' r=some (.ins CR dx (rf d q))->H' D=some (.lst l)->But r H' H''->RV x v H'->RV x v H'') (m2:∀(x:α) v H' l l',H' D=some (.lst l)->RV x v H'->RV x v (upd H' D (.lst l')))
  (hs:∀(i:Nat) (H':Hp) (q:Nat) (ok':α->Nat->Prop) (Q':VK),i < n->But r H1 H'->H' r=some (.ins CR dx (rf d q))->(∃l,H' D=some (.lst l))->GM.Run act (Ql89Neutral.octets s) q ok' bad->
   (∀x v q' H'',But r H' H''->H'' r=some (.ins CR dx (rf d q'))->RV x v H''->ok' x q'->Q' v H'')->g (.int (lo + i)) (wipe σ vs) H' fun σ2 H2=>wipe σ2 vs=wipe σ vs/\te σ2 H2 Q')
  (hd:∀xs us q H',But r H1 H'->H' r=some (.ins CR dx (rf d q))->H' D=some (.lst us)->Paired (fun (x:α) (u:V)=>RV x u H') xs us->xs.length=n->ok xs q->Qd H') :
  ∃W:Nat->Nat->Hp->Prop,(∃m,W 0 m (upd H1 D (.lst [])))/\∀i m H,W i m H->
   ((Itr lo n).stop i H/\Qd H)\/((Itr lo n).go i H/\∃Nx:Hp->Prop,(∀H',Nx H'->∃m',m' < m/\W (i + 1) m' H')/\∀x H',(Itr lo n).yld i H x H'->g x (wipe σ vs) H' fun σ2 H2=>wipe σ2 vs=wipe σ vs/\tYes σ2 H2 fun b H3=>
    if b=true then te σ2 H3 fun y H4=>∃acc,H4 D=some (.lst acc)/\acc.length < sizeLine/\Nx (upd H4 D (.lst (acc ++ [y]))) else Nx H3):=by
 have hDr:r≠D:=ne_of_none h1 hD
 have hsz:200000<=sizeLine:=by decide
 refine lc_range (fun i H'=>∃(q:Nat) (acc:List α) (us:List V),But r H1 H'/\H' r=some (.ins CR dx (rf d q))/\H' D=some (.lst us)/\Paired (fun (x:α) (u:V)=>RV x u H') acc us/\acc.length=i/\GM.Run (Ql89.times_ (n - i) act) (Ql89Neutral.octets s) q (fun y q'=>ok (acc ++ y) q') bad) ?_ ?_ ?_
 ·exact ⟨q0,[],[],But.new hD,by rw [upd_ne hDr];exact h1,upd_same,.nil,rfl,run⟩
 ·rintro i H' hi ⟨q,acc,us,e,h',hD',hP,hacc,hrun⟩
  have e4:n - i=n - (i + 1) + 1:=by omega
  rw [e4,GM.run_times_succ] at hrun
  refine hs i H' q _ _ hi e h' ⟨us,hD'⟩ hrun fun x v q' H'' e2 h2 hRV hok=>?_
  have hD2:H'' D=some (.lst us):=e2 D _ hDr.symm hD'
  have hal:acc.length=us.length:=Paired.length hP
  refine ⟨us,hD2,by omega,q',acc ++ [x],us ++ [v],(e.trans e2).upd hD,by rw [upd_ne hDr];exact h2,upd_same,?_,by rw [List.length_append,hacc];rfl,?_⟩
  ·exact paired_app (Paired.mapP hP fun x u z=>m2 x u H'' _ _ hD2 (m1 x u H' H'' _ _ h' hD' e2 z)) (.cons (m2 x v H'' _ _ hD2 hRV) .nil)
  ·simpa only [List.append_assoc,List.singleton_append] using hok
 ·rintro H' ⟨q,acc,us,e,h',hD',hP,hacc,hrun⟩
  rw [Nat.sub_self,GM.run_times_zero,List.append_nil] at hrun
  exact hd acc us q H' e h' hD' hP hacc hrun
theorem paired_ints {xs:List Int} {us:List V} {H:Hp} (h:Paired (fun (x:Int) (u:V)=>relI x u H) xs us):us=xs.map V.int:=by
 induction h with
 | nil=>rfl
 | cons q t ih=>
  have q:_=V.int _:=q
  rw [q,ih]
  rfl
def relL (xs:List Int) (v:V) (H:Hp):Prop:=∃a,v=.ref a/\IntsAt H a xs
def spGains (K:PySem.W.Frag) (C CR:Addr):Sp:=fun vs H Q E=>∃(r dx d:Addr) (s:List Int) (p n:Nat),vs=[.ref r,.int n]/\n<=4096/\Reads K C CR r dx d s p (Ql89.readGains n) relL H Q E
theorem scGains:FnScope ["reader","width","column"] ["reader","width"] (defScope sGains):=⟨rfl,rfl,rfl,by decide +kernel,rfl,by decide +kernel,by decide +kernel⟩
theorem ok_gains {f fS:Addr} {fd fdS:FuncData} (F:Fun K "read_gains" "read_gains" sGains f fd) (T:Txt K mg C CR fF) (hrange:mg "range" = none) (S:MFn P w K mg base (CXF P w C) 4 CR "signed" fS fdS ["self","size"] (spS K C CR)) :
  FnOk P w K mg base (CXF P w C) 5 f fd ["reader","width"] (spGains K C CR):=by
 refine F.okX (C:=C) scGains (fun vs H Q E h=>?_) (fun cdv A outer st H vs Q E hr h hX po hT=>?_)
 ·obtain ⟨r,dx,d,s,p,n,rfl,_⟩:=h
  rfl
 ·obtain ⟨r,dx,d,s,p,n,rfl,hn,R⟩:=h
  refine ⟨_,pss_one (ps_ret (pe_lcX hT hX rfl scGains.nd (pi_range1 rfl hrange (pa_cons (pv 1) pa_nil)) (blkOk_by (own:=[("column",2)]) (by kernel_rfl)) (fun _ _ _ _ _=>pg_name (i:=2) scGains.nd rfl (Or.inl rfl)) (fun _ _ _ _ _=>pts_nil)
   (fun _ _ _ _ _ _ hx=>pe_meth (pv 0) T.cl S.m S.ok hr S.b .nil (passX hx) (pa_cons pe_int pa_nil)))),?_⟩
  refine ⟨_,rfl,_,rfl,by omega,by omega,fun D hD=>?_⟩
  rw [Int.toNat_natCast]
  refine lc_reads relI R.at_ hD (by omega) (show GM.Run (Ql89.times_ n (Ql89.signedIn 2 (-32768) 32767)) _ p _ (Bad C r H E) from R.run) (fun _ _ _ _ _ _ _ _ _ h=>h) (fun _ _ _ _ _ _ h=>h) ?_ ?_
  ·intro i H' q ok' Q' hi e h' hDl hrun kQ
   have hrun':GM.Run (numS 2) (Ql89Neutral.octets s) q ok' (Bad C r H E):=by
    unfold numS
    rw [GM.run_bind]
    exact GM.run_signed_two hrun
   refine ⟨rfl,_,rfl,r,dx,_,rfl,h',noS _ _,r,dx,d,s,q,2,rfl,⟨by decide,by decide⟩,Reads.call (R.src.but e R.at_) e h' hrun' fun x q' hok v H'' e2 h2 hv _=>?_⟩
   exact kQ x v q' H'' e2 h2 hv hok
  ·intro xs us q H' e h' hD' hP hxl hok
   rw [paired_ints hP] at hD'
   exact hok _ _ e h' ⟨D,rfl,hD'⟩ (fresh_ref hD)
end
end Go
namespace GM
open Ql89
def scaleAct:R (Int×Nat×Nat):=do
 let a <-signedIn 4 (-(2 ^ 30)) (2 ^ 30)
 let m <-numIn 4 1 (2 ^ 31 - 1)
 let s <-numIn 1 1 62
 pure (a,m,s)
section
variable {l:Bytes} {p:Nat} {bad:Nat->Nat->Prop}
theorem run_numIn_in {w lo hi:Nat} {ok:Nat->Nat->Prop} (h:Run (numIn w lo hi) l p ok bad):Run (numIn w lo hi) l p (fun x q=>(lo<=x/\x<=hi)/\ok x q) bad:=by
 rw [run_numIn] at h
 exact run_numIn_of h
theorem run_scale {ok:Int×Nat×Nat->Nat->Prop}:Run scaleAct l p ok bad↔Run (signedIn 4 (-(2 ^ 30)) (2 ^ 30)) l p (fun a q=>Run (numIn 4 1 (2 ^ 31 - 1)) l q (fun m q=>Run (numIn 1 1 62) l q (fun s q=>ok (a,m,s) q) bad) bad) bad:=by
 unfold scaleAct
 rw [run_bind]
 constructor
 ·intro h
  refine run_mono h (fun a q h=>?_) fun _ _ h=>h
  rw [run_bind] at h
  refine run_mono h (fun m q h=>?_) fun _ _ h=>h
  rw [run_bind] at h
  exact h
 ·intro h
  refine run_mono h (fun a q h=>?_) fun _ _ h=>h
  rw [run_bind]
  refine run_mono h (fun m q h=>?_) fun _ _ h=>h
  rw [run_bind]
  exact h
theorem run_scaled {rows cols:Nat} {ok:List Row->Nat->Prop} (h:Run (readScaled rows cols) l p ok bad):Run (times_ rows scaleAct) l p (fun h q=>Run (readShaped rows cols) l q (fun m q'=>ok (List.zipWith (fun (x:Int×Nat×Nat) (w:List Int)=>(⟨x.1,x.2.1,x.2.2,w⟩:Row)) h m.row) q') bad) bad:=by
 have h:Run (times_ rows scaleAct >>= fun h=>readShaped rows cols >>= fun m=>pure (List.zipWith (fun (x:Int×Nat×Nat) (w:List Int)=>(⟨x.1,x.2.1,x.2.2,w⟩:Row)) h m.row)) l p ok bad:=h
 rw [run_bind] at h
 refine run_mono h (fun a q h=>?_) fun _ _ h=>h
 rw [run_bind] at h
 exact h
theorem run_shaped' {rows cols:Nat} {ok:Matrix->Nat->Prop} (h:Run (readShaped rows cols) l p ok bad):Run (readShaped rows cols) l p (fun m q=>(m.rows=rows/\m.cols=cols)/\ok m q) bad:=by
 unfold readShaped at h |-
 rw [run_bind,run_here,run_bind] at h |-
 refine run_mono h (fun m q h=>?_) fun _ _ h=>h
 rw [run_ite] at h |-
 by_cases c:m.rows=rows/\m.cols=cols
 ·rw [if_pos c] at h |-
  exact ⟨c,h⟩
 ·rw [if_neg c] at h |-
  exact h
theorem run_falling_succ {n lo hi:Nat} {ok:List Nat->Nat->Prop}:Run (readFalling (n + 1) lo hi) l p ok bad↔Run (numIn 2 lo hi) l p (fun x q=>Run (readFalling n 0 x) l q (fun y q'=>ok (x :: y) q') bad) bad:=by
 show Run (numIn 2 lo hi >>= fun x=>readFalling n 0 x >>= fun y=>pure (x :: y)) l p ok bad↔_
 rw [run_bind]
 constructor
 ·intro h
  refine run_mono h (fun a q h=>?_) fun _ _ h=>h
  rw [run_bind] at h
  exact h
 ·intro h
  refine run_mono h (fun a q h=>?_) fun _ _ h=>h
  rw [run_bind]
  exact h
end
end GM
namespace Go
open PySem L2
structure ScOk (x:Int×Nat×Nat):Prop where
 mul:1<=x.2.1/\x.2.1 < 2147483648
 shift:1<=x.2.2/\x.2.2<=62
structure Txt3 (mg:Str->Option Value):Prop where
 added:∃t,mg "MOST_ADDED" = some (.int 1073741824 t)
 mult:∃t,mg "MOST_MULTIPLIED" = some (.int 2147483647 t)
 lean:∃t,mg "MOST_LEANING" = some (.int 16777216 t)
 shift:∃t,mg "MOST_SHIFT" = some (.int 62 t)
 fall:∃t,mg "MOST_FALL_SHIFT" = some (.int 24 t)
 table:∃t,mg "TABLE_SIZE" = some (.int 256 t)
 zip:mg "zip" = none
 range:mg "range" = none
section
variable {P:Program} {w:World} {K:PySem.W.Frag} {mg:Str->Option Value} {base:Heap} {C CR fF CM:Addr}
def relSc (x:Int×Nat×Nat) (v:V) (H:Hp):Prop:=∃t,v=.ref t/\H t=some (.tup [.int x.1,.int (x.2.1:Int),.int (x.2.2:Int)])/\ScOk x
def spSc (K:PySem.W.Frag) (C CR:Addr):Sp:=fun vs H Q E=>∃(r dx d:Addr) (s:List Int) (p:Nat),vs=[.ref r]/\Reads K C CR r dx d s p GM.scaleAct relSc H Q E
theorem scSc:FnScope ["reader","added","multiplied"] ["reader"] (defScope sScale):=⟨rfl,rfl,rfl,by decide +kernel,rfl,by decide +kernel,by decide +kernel⟩
theorem ok_Sc {f fU fS:Addr} {fd fdU fdS:FuncData} (F:Fun K "read_scale" "read_scale" sScale f fd) (T:Txt K mg C CR fF) (T3:Txt3 mg) (UW:MFn P w K mg base (CXF P w C) 4 CR "unsigned_within" fU fdU ["self","size","low","high"] (spUW K C CR))
  (SW:MFn P w K mg base (CXF P w C) 5 CR "signed_within" fS fdS ["self","size","low","high"] (spSW K C CR)):FnOk P w K mg base (CXF P w C) 6 f fd ["reader"] (spSc K C CR):=by
 refine F.okX (C:=C) scSc (fun vs H Q E h=>?_) (fun cdv A outer st H vs Q E hr h hX po hT=>?_)
 ·obtain ⟨r,dx,d,s,p,rfl,_⟩:=h
  rfl
 ·obtain ⟨r,dx,d,s,p,rfl,R⟩:=h
  have hr4:Room 4 _:=hr.mono (by decide)
  refine ⟨_,pss_cons (ps_set (i:=1) scSc.nd rfl (Or.inl rfl) (pe_meth (pv 0) T.cl SW.m SW.ok hr SW.b .nil (passX hX) (pa_cons pe_int (pa_cons (pe_un un_neg (pe_const T3.added rfl)) (pa_cons (pe_const T3.added rfl) pa_nil)))))
   (pss_cons (ps_set (i:=2) scSc.nd rfl (Or.inl rfl) (pe_meth (pv 0) T.cl UW.m UW.ok hr4 UW.b .nil (passX hX) (pa_cons pe_int (pa_cons pe_int (pa_cons (pe_const T3.mult rfl) pa_nil)))))
   (pss_one (ps_ret (pe_tup (pa_cons (pv 1) (pa_cons (pv 2) (pa_cons (pe_meth (pv 0) T.cl UW.m UW.ok hr4 UW.b .nil (passX hX) (pa_cons pe_int (pa_cons pe_int (pa_cons (pe_const T3.shift rfl) pa_nil)))) pa_nil))))))),?_⟩
  have run:=GM.run_scale.mp R.run
  refine ⟨_,rfl,r,dx,_,rfl,R.at_,noSW _ _,_,rfl,r,dx,d,s,p,4,-(2 ^ 30),2 ^ 30,rfl,⟨by decide,by decide⟩,Reads.call R.src (But.refl _ _) R.at_ run fun a q1 hok v H1 e1 h1 hv _=>?_⟩
  have hv:v=.int a:=hv
  subst hv
  refine ⟨_,rfl,r,dx,_,rfl,h1,noUW _ _,r,dx,d,s,q1,4,1,2 ^ 31 - 1,rfl,⟨by decide,by decide⟩,Reads.call (R.src.but e1 R.at_) e1 h1 (GM.run_numIn_in hok) fun m q2 hok v H2 e2 h2 hv _=>?_⟩
  have hv:v=.int (m:Int):=hv
  subst hv
  obtain ⟨⟨m1,m2⟩,hok⟩:=hok
  have e12:=e1.trans e2
  refine ⟨_,rfl,_,rfl,_,rfl,r,dx,_,rfl,h2,noUW _ _,r,dx,d,s,q2,1,1,62,rfl,⟨by decide,by decide⟩,Reads.call (R.src.but e12 R.at_) e12 h2 (GM.run_numIn_in hok) fun sh q3 hok v H3 e3 h3 hv _=>?_⟩
  have hv:v=.int (sh:Int):=hv
  subst hv
  obtain ⟨⟨s1,s2⟩,hok⟩:=hok
  refine ⟨by show 3<=sizeLine;decide,fun t ht=>?_⟩
  have e13:=e12.trans e3
  have hrt:r≠t:=ne_of_none h3 ht
  exact hok _ _ (e13.upd (e13.none' h3 ht)) (by rw [upd_ne hrt];exact h3) ⟨t,rfl,upd_same,⟨⟨m1,by show m < 2147483648;omega⟩,⟨s1,s2⟩⟩⟩ (fresh_ref (e13.none' h3 ht))
def relS (rows cols:Nat) (x:List Ql89.Row) (v:V) (H:Hp):Prop:=∃a,v=.ref a/\ScaledAt H a x/\x.length=rows/\∀y∈x,RowOk y cols
def spScaled (K:PySem.W.Frag) (C CR:Addr):Sp:=fun vs H Q E=>∃(r dx d:Addr) (s:List Int) (p rows cols:Nat),vs=[.ref r,.int rows,.int cols]/\rows<=4096/\Reads K C CR r dx d s p (Ql89.readScaled rows cols) (relS rows cols) H Q E
theorem scScaled:FnScope ["reader","rows","columns","scales","lines","row","scale","line"] ["reader","rows","columns"] (defScope sScaled):=⟨rfl,rfl,rfl,by decide +kernel,rfl,by decide +kernel,by decide +kernel⟩
theorem byte_small {x:List Int} (h:∀z∈x,GM.isB z):Small x:=fun z hz=>by
 have:=h z hz
 unfold GM.isB at this
 omega
theorem ok_Scaled {f fS fT:Addr} {fd fdS fdT:FuncData} (F:Fun K "read_scaled" "read_scaled" sScaled f fd) (T:Txt K mg C CR fF) (T3:Txt3 mg) (Sc:GFn P w K mg base (CXF P w C) 6 "read_scale" fS fdS ["reader"] (spSc K C CR))
  (TL:GFn P w K mg base (CXF P w C) 9 "read_told_lines" fT fdT ["reader","rows","columns"] (spTL K C CR)):FnOk P w K mg base (CXF P w C) 10 f fd ["reader","rows","columns"] (spScaled K C CR):=by
 refine F.okX (C:=C) scScaled (fun vs H Q E h=>?_) (fun cdv A outer st H vs Q E hr h hX po hT=>?_)
 ·obtain ⟨r,dx,d,s,p,rows,cols,rfl,_⟩:=h
  rfl
 ·obtain ⟨r,dx,d,s,p,rows,cols,rfl,hrows,R⟩:=h
  have hr6:Room 6 _:=hr.mono (by decide)
  refine ⟨_,pss_cons (ps_setLcX (i:=3) hT hX rfl scScaled.nd rfl rfl (sw_true rfl rfl rfl (by decide +kernel)) (pi_range1 rfl T3.range (pa_cons (pv 1) pa_nil)) (blkOk_by (own:=[("row",5)]) (by kernel_rfl)) (fun _ _ _ _ _=>pg_name (i:=5) scScaled.nd rfl (Or.inl rfl)) (fun _ _ _ _ _=>pts_nil)
    (fun _ _ _ _ _ _ hx=>pe_call Sc.ok hr6 rfl Sc.glo Sc.kp Sc.b .nil (passX hx) (pa_cons (pv 0) pa_nil)))
   (pss_cons (ps_set (i:=4) scScaled.nd rfl (Or.inl rfl) (pe_call TL.ok hr rfl TL.glo TL.kp TL.b .nil (passX hX) (pa_cons (pv 0) (pa_cons (pv 1) (pa_cons (pv 2) pa_nil)))))
   (pss_one (ps_ret (pe_lc rfl scScaled.nd (pi_zip rfl T3.zip (pa_cons (pv 3) (pa_cons (pv 4) pa_nil))) (blkOk_by (own:=[("scale",6),("line",7)]) (by kernel_rfl))
    (fun _ _ _ _ _=>pg_tupK (K:=K) (n:=2) rfl rfl (pgs_cons (pg_name (i:=6) scScaled.nd rfl (Or.inl rfl)) (pgs_cons (pg_name (i:=7) scScaled.nd rfl (Or.inl rfl)) pgs_nil))) (fun _ _ _ _ _=>pts_nil)
    (fun _ _ _ _ _=>pe_tup (pa_cons (pe_ix (ix_tupK (K:=K) rfl) (pv 6) pe_int (fun _ _=>rfl)) (pa_cons (pe_ix (ix_tupK (K:=K) rfl) (pv 6) pe_int (fun _ _=>rfl)) (pa_cons (pe_ix (ix_tupK (K:=K) rfl) (pv 6) pe_int (fun _ _=>rfl)) (pa_cons (pv 7) pa_nil))))))))),?_⟩
  have run:=GM.run_scaled R.run
  have hsz:200000<=sizeLine:=by decide
  refine ⟨_,rfl,_,rfl,by omega,by omega,fun D hD=>?_⟩
  rw [Int.toNat_natCast]
  refine lc_reads relSc R.at_ hD (by omega) run ?_ ?_ ?_ ?_
  ·rintro x v H' H'' q l h' hDl e ⟨t,rfl,ht,ok⟩
   exact ⟨t,rfl,e _ _ (ne_of ht h' (by intro z;cases z)) ht,ok⟩
  ·rintro x v H' l l' hDl ⟨t,rfl,ht,ok⟩
   exact ⟨t,rfl,by rw [upd_ne (ne_of ht hDl (by intro z;cases z))];exact ht,ok⟩
  ·intro i H' q ok' Q' hi e h' hDl hrun kQ
   refine ⟨rfl,_,rfl,r,dx,d,s,q,rfl,Reads.call (R.src.but e R.at_) e h' hrun fun x q' hok v H'' e2 h2 hv _=>?_⟩
   exact kQ x v q' H'' e2 h2 hv hok
  intro xs us q1 H1 e1 h1 hD1 hP hxl hok
  refine ⟨_,rfl,_,rfl,_,rfl,r,dx,d,s,q1,rows,cols,rfl,Reads.call (R.src.but e1 R.at_) e1 h1 (GM.run_shaped' hok) fun m q2 hok v H2 e2 h2 hv fr=>?_⟩
  obtain ⟨⟨hm1,hm2⟩,hok⟩:=hok
  obtain ⟨L,rfl,⟨las,hL,hLs⟩,mok⟩:=hv
  have hul:xs.length=us.length:=Paired.length hP
  have hll:m.row.length=las.length:=Paired.length hLs
  have hDr:r≠D:=ne_of_none R.at_ hD
  have hD2:H2 D=some (.lst us):=e2 D _ hDr.symm hD1
  have hP2:Paired (fun x u=>relSc x u H2) xs us:=Paired.mapP hP fun x u ⟨t,q1,q2,q3⟩=>⟨t,q1,e2 _ _ (ne_of q2 h1 (by intro z;cases z)) q2,q3⟩
  have e12:But r H H2:=e1.trans e2
  refine ⟨_,rfl,_,rfl,D,L,_,_,rfl,SqL.of hD2,SqL.of hL,fun D3 hD3=>?_⟩
  have hrD3:r≠D3:=ne_of_none h2 hD3
  refine lc_zip (xs:=us) (us:=las.map V.ref) (fun i H'=>Same H2 H'/\∃as:List Addr,H' D3=some (.lst (as.map V.ref))/\Paired (fun (y:Ql89.Row) (a:Addr)=>∃l,H' a=some (.tup [.int y.add,.int y.mul,.int y.shift,.ref l])/\PairsAt H2 l (GM.sparse 0 y.w)) ((List.zipWith (fun (x:Int×Nat×Nat) (w:List Int)=>(⟨x.1,x.2.1,x.2.2,w⟩:Ql89.Row)) xs m.row).take i) as)
   ⟨Same.new hD3,[],upd_same,.nil⟩ (fun i H' p=>⟨p.1.seq (SqL.of hD2),p.1.seq (SqL.of hL)⟩) ?_ ?_
  ·rintro i u lv T4 H' hu hlv ⟨s1,as,hA,hAP⟩ hT4
   obtain ⟨x,hx,t,rfl,ht,sok⟩:=paired_get hP2 hu
   rw [List.getElem?_map] at hlv
   obtain ⟨la,hla,rfl⟩:=Option.map_eq_some_iff.mp hlv
   obtain ⟨wl,hwl,hwp⟩:=paired_get hLs hla
   have hi:i < us.length:=(List.getElem?_eq_some_iff.mp hu).1
   have sT:Same H' (upd H' T4 (.tup [V.ref t,V.ref la])):=Same.new hT4
   have ht':=(s1.trans sT) _ _ ht
   refine ⟨T4,_,rfl,SqT.of upd_same,rfl,_,_,rfl,_,_,rfl,rfl,rfl,_,rfl,t,_,_,_,rfl,rfl,SqT.of ht',at_of (j:=0) rfl rfl,_,rfl,t,_,_,_,rfl,rfl,SqT.of ht',at_of (j:=1) rfl rfl,_,rfl,t,_,_,_,rfl,rfl,SqT.of ht',at_of (j:=2) rfl rfl,_,rfl,by show 4<=sizeLine;decide,fun t5 ht5=>?_⟩
   have s5:Same (upd H' T4 (.tup [V.ref t,V.ref la])) (upd (upd H' T4 (.tup [V.ref t,V.ref la])) t5 (.tup [V.int x.1,V.int (x.2.1:Int),V.int (x.2.2:Int),V.ref la])):=Same.new ht5
   have hA5:=s5 _ _ (sT _ _ hA)
   have hasl:as.length<=i:=by
    have:=Paired.length hAP
    rw [List.length_take] at this
    omega
   refine ⟨_,hA5,by rw [List.length_map];omega,((s1.trans sT).trans s5).updN hD3,as ++ [t5],by rw [List.map_append];exact upd_same,?_⟩
   have hz:(List.zipWith (fun (x:Int×Nat×Nat) (w:List Int)=>(⟨x.1,x.2.1,x.2.2,w⟩:Ql89.Row)) xs m.row)[i]? = some ⟨x.1,x.2.1,x.2.2,wl⟩:=by rw [List.getElem?_zipWith,hx,hwl]
   rw [List.take_add_one,hz]
   have hDt:D3≠t5:=ne_of_none (sT _ _ hA) ht5
   refine paired_app (Paired.mapP hAP fun y a ⟨l,q1,q2⟩=>⟨l,?_,q2⟩) (.cons ⟨la,?_,hwp⟩ .nil)
   ·rw [upd_ne (ne_of q1 hA (by intro z;cases z))]
    exact s5 _ _ (sT _ _ q1)
   ·show L2.upd _ D3 _ t5=_
    rw [upd_ne hDt.symm,upd_same]
  ·rintro H' ⟨s1,as,hA,hAP⟩
   have hzl:(List.zipWith (fun (x:Int×Nat×Nat) (w:List Int)=>(⟨x.1,x.2.1,x.2.2,w⟩:Ql89.Row)) xs m.row).length=rows:=by
    rw [List.length_zipWith,hxl,mok.len,hm1]
    omega
   rw [List.take_of_length_le (by rw [hzl,List.length_map];have:=mok.len;omega)] at hAP
   have hD30:H D3=none:=e12.none' h2 hD3
   refine hok _ _ (e12.trans (But.of s1)) (s1 _ _ h2) ⟨D3,rfl,⟨as,hA,Paired.mapP hAP fun y a ⟨l,q1,q2⟩=>⟨l,q1,q2.mono s1⟩⟩,hzl,fun y hy=>?_⟩ (fresh_ref hD30)
   obtain ⟨x,hx,wl,hwl,rfl⟩:=mem_zipWith hy
   obtain ⟨i,hi⟩:=List.getElem?_of_mem hx
   obtain ⟨u,_,t,_,_,sok⟩:=paired_get' hP2 hi
   obtain ⟨q1,q2⟩:=mok.row wl hwl
   exact ⟨by rw [<-hm2];exact q1,byte_small q2,sok.mul,sok.shift⟩
end
end Go
namespace GM
open Ql89
def headsAct (width:Nat):R Nat:=here >>= fun p=>numIn 1 1 8 >>= fun h=>if width % h≠0 then fault p 2 else pure h
theorem run_heads {width:Nat} {l:Bytes} {p:Nat} {bad:Nat->Nat->Prop} {ok:Nat->Nat->Prop}:Run (headsAct width) l p ok bad↔Run (numIn 1 1 8) l p (fun h q=>if width % h≠0 then bad p 2 else ok h q) bad:=by
 unfold headsAct
 rw [run_bind,run_here,run_bind]
 constructor
 ·intro h
  refine run_mono h (fun a q h=>?_) fun _ _ h=>h
  rw [run_ite] at h
  exact h
 ·intro h
  refine run_mono h (fun a q h=>?_) fun _ _ h=>h
  rw [run_ite]
  exact h
end GM
namespace Go
open PySem L2
section
variable {P:Program} {w:World} {K:PySem.W.Frag} {mg:Str->Option Value} {base:Heap} {C CR fF CM CN CL:Addr}
def spHeads (K:PySem.W.Frag) (C CR:Addr):Sp:=fun vs H Q E=>∃(r dx d:Addr) (s:List Int) (p width:Nat),vs=[.ref r,.int width]/\Reads K C CR r dx d s p (GM.headsAct width) relN H Q E
theorem scHeads:FnScope ["reader","width","start","heads"] ["reader","width"] (defScope sHeads):=⟨rfl,rfl,rfl,by decide +kernel,rfl,by decide +kernel,by decide +kernel⟩
theorem ok_heads {f fU:Addr} {fd fdF fdU:FuncData} (F:Fun K "read_heads" "read_heads" sHeads f fd) (T:Txt K mg C CR fF) (FF:FnOk P w K mg base CX0 1 fF fdF ["self","place","kind"] (spInit C)) (bF:Binds K fdF ["self","place","kind"] [])
  (UW:MFn P w K mg base (CXF P w C) 4 CR "unsigned_within" fU fdU ["self","size","low","high"] (spUW K C CR)):FnOk P w K mg base (CXF P w C) 5 f fd ["reader","width"] (spHeads K C CR):=by
 refine F.okX (C:=C) scHeads (fun vs H Q E h=>?_) (fun cdv A outer st H vs Q E hr h hX po hT=>?_)
 ·obtain ⟨r,dx,d,s,p,width,rfl,_⟩:=h
  rfl
 ·obtain ⟨r,dx,d,s,p,width,rfl,R⟩:=h
  have hr2:Room 2 _:=hr.mono (by decide)
  refine ⟨_,pss_cons (ps_set (i:=2) scHeads.nd rfl (Or.inl rfl) (pe_fld (pv 0) rfl))
   (pss_cons (ps_set (i:=3) scHeads.nd rfl (Or.inl rfl) (pe_meth (pv 0) T.cl UW.m UW.ok hr UW.b .nil (passX hX) (pa_cons pe_int (pa_cons pe_int (pa_cons pe_int pa_nil)))))
   (pss_cons (ps_if (pt_cmpR op_ne (pe_op op_mod (pv 1) (pv 3)) pe_int (nomark _)) (pss_one (ps_raise T.xc FF hr2 bF (fun _ _ _ _ z=>z) rfl rfl T.mgF hX (pa_cons (pv 2) (pa_cons pe_int pa_nil)))) pss_nil)
   (pss_one (ps_ret (pv 3))))),?_⟩
  have run:=GM.run_numIn_in (GM.run_heads.mp R.run)
  refine ⟨_,rfl,r,CR,dx,_,_,rfl,R.at_,T.cl,T.nA,rf_at _ _,?_⟩
  refine ⟨_,rfl,r,dx,_,rfl,R.at_,noUW _ _,r,dx,d,s,p,1,1,8,rfl,⟨by decide,by decide⟩,Reads.call R.src (But.refl _ _) R.at_ run fun h q hok v H' e h' hv _=>?_⟩
  have hv:v=.int (h:Int):=hv
  subst hv
  obtain ⟨⟨h1,h2⟩,hok⟩:=hok
  refine ⟨_,rfl,_,rfl,_,_,rfl,rfl,(by show (0:Int) < (h:Int);omega),rfl,_,rfl,?_⟩
  have em:(width:Int) % (h:Int)=((width % h:Nat):Int):=by rw [Int.natCast_emod]
  refine ite2 (fun hc=>?_) (fun hc=>?_)
  ·have hc:width % h≠0:=fun z=>by
    have hc:(!decide (V.int ((width:Int) % (h:Int))=V.int 0))=true:=hc
    rw [em,z] at hc
    exact absurd hc (by decide)
   rw [if_pos hc] at hok
   exact ⟨_,rfl,_,_,rfl,fun dx' hdx=>hok dx' _ (e.trans (But.new hdx)) upd_same⟩
  ·have hc:¬width % h≠0:=fun z=>hc (by
    show (!decide (V.int ((width:Int) % (h:Int))=V.int 0))=true
    rw [Bool.not_eq_true',decide_eq_false_iff_not,em]
    intro y
    injection y with y
    omega)
   rw [if_neg hc] at hok
   exact ⟨_,rfl,hok _ _ e h' rfl fresh_int⟩
def relF (x:List Nat) (v:V) (H:Hp):Prop:=∃a,v=.ref a/\H a=some (.lst (natI x))
def spFal (K:PySem.W.Frag) (C CR:Addr):Sp:=fun vs H Q E=>∃(r dx d:Addr) (s:List Int) (p:Nat),vs=[.ref r]/\Reads K C CR r dx d s p (Ql89.readFalling 256 1 65535) relF H Q E
theorem scFal:FnScope ["reader","falling"] ["reader"] (defScope sFal):=⟨rfl,rfl,rfl,by decide +kernel,rfl,by decide +kernel,by decide +kernel⟩
def muFal (D:Addr) (_:L2.St) (H:Hp):Nat:=match H D with
 | some (.lst l)=>256 - l.length
 | _=>0
theorem natI_last {acc:List Nat} {z:Nat}:atI (natI (acc ++ [z])) (-1)=some (.int (z:Int)):=by
 unfold atI ixN
 have hl:(natI (acc ++ [z])).length=acc.length + 1:=by unfold natI;simp
 rw [hl,if_neg (by decide),if_pos (by omega)]
 have e:((-1:Int) + ((acc.length + 1:Nat):Int)).toNat=acc.length:=by omega
 rw [e]
 show (natI (acc ++ [z]))[acc.length]? = _
 unfold natI
 rw [List.getElem?_map]
 simp
theorem ok_fal {f fU:Addr} {fd fdU:FuncData} (F:Fun K "read_falling" "read_falling" sFal f fd) (T:Txt K mg C CR fF) (T3:Txt3 mg) (UW:MFn P w K mg base (CXF P w C) 4 CR "unsigned_within" fU fdU ["self","size","low","high"] (spUW K C CR)) :
  FnOk P w K mg base (CXF P w C) 5 f fd ["reader"] (spFal K C CR):=by
 refine F.okX (C:=C) scFal (fun vs H Q E h=>?_) (fun cdv A outer st H vs Q E hr h hX po hT=>?_)
 ·obtain ⟨r,dx,d,s,p,rfl,_⟩:=h
  rfl
 ·obtain ⟨r,dx,d,s,p,rfl,R⟩:=h
  refine ⟨_,pss_cons (ps_set (i:=1) scFal.nd rfl (Or.inl rfl) (pe_lst (pa_cons (pe_meth (pv 0) T.cl UW.m UW.ok hr UW.b .nil (passX hX) (pa_cons pe_int (pa_cons pe_int (pa_cons pe_int pa_nil)))) pa_nil)))
   (pss_cons (ps_while po (pt_cmpR op_lt (pe_callB call_len_seq (by rfl) T.len PySem.boot_len (pa_cons (pv 1) pa_nil)) (pe_const T3.table rfl) (nomark _))
    (pss_one (ps_expr (pe_bm PySem.F.plainAttrs_list PySem.F.slot_list_append PySem.F.type_list_append mt_append (pv 1) (pa_cons (pe_meth (pv 0) T.cl UW.m UW.ok hr UW.b .nil (passX hX) (pa_cons pe_int (pa_cons pe_int (pa_cons (pe_ix ix_list (pv 1) (pe_un un_neg pe_int) (fun _ _=>rfl)) pa_nil)))) pa_nil)))))
   (pss_one (ps_ret (pv 1)))),?_⟩
  have run:=GM.run_falling_succ.mp R.run
  have hsz:1000<=sizeLine:=by decide
  refine ⟨_,rfl,r,dx,_,rfl,R.at_,noUW _ _,r,dx,d,s,p,2,1,65535,rfl,⟨by decide,by decide⟩,Reads.call R.src (But.refl _ _) R.at_ run fun x q hok v H1 e1 h1 hv _=>?_⟩
  have hv:v=.int (x:Int):=hv
  subst hv
  refine ⟨by show 1<=sizeLine;decide,fun D hD=>?_⟩
  have hD0:H D=none:=e1.none' h1 hD
  have hDr:r≠D:=ne_of_none h1 hD
  dsimp only [gName,tSeq]
  refine while_by (fun σ H'=>∃(q:Nat) (acc:List Nat) (z:Nat),σ=[some (.ref r),some (.ref D)]/\But r H H'/\H' r=some (.ins CR dx (rf d q))/\H' D=some (.lst (natI (acc ++ [z])))/\acc.length<=255/\
   GM.Run (Ql89.readFalling (255 - acc.length) 0 z) (Ql89Neutral.octets s) q (fun y q'=>∀v H',But r H H'->H' r=some (.ins CR dx (rf d q'))->relF (acc ++ z :: y) v H'->Fresh H v->Q v H') (Bad C r H E)) (muFal D) ?_ ?_ ?_
  ·exact ⟨q,[],x,rfl,e1.upd hD0,by rw [upd_ne hDr];exact h1,upd_same,by simp,hok⟩
  ·rintro σ H2 ⟨q2,acc,z,rfl,e2,h2,hD2,hl,hrun⟩
   have hnl:(natI (acc ++ [z])).length=acc.length + 1:=by unfold natI;simp
   refine ⟨_,rfl,D,_,rfl,.inl (SqL.of hD2),_,_,rfl,rfl,_,rfl,?_⟩
   rw [hnl]
   refine ite2 (fun hc=>?_) (fun hc=>?_)
   ·have hc:=of_decide_eq_true hc
    have e3:255 - acc.length=(255 - (acc.length + 1)) + 1:=by omega
    rw [e3] at hrun
    have run2:=GM.run_falling_succ.mp hrun
    refine ⟨_,rfl,.inl ⟨rfl,_,SqL.of hD2⟩,_,rfl,r,dx,_,rfl,h2,noUW _ _,_,rfl,_,rfl,D,_,_,_,rfl,rfl,SqL.of hD2,natI_last,r,dx,d,s,q2,2,0,z,rfl,⟨by decide,by decide⟩,Reads.call (R.src.but e2 R.at_) e2 h2 run2 fun y q3 hok v H3 e3 h3 hv _=>?_⟩
    have hv:v=.int (y:Int):=hv
    subst hv
    have hD3:H3 D=some (.lst (natI (acc ++ [z]))):=e3 D _ hDr.symm hD2
    refine ⟨D,_,_,rfl,rfl,hD3,by rw [hnl];omega,⟨q3,acc ++ [z],y,rfl,(e2.trans e3).upd hD0,by rw [upd_ne hDr];exact h3,?_,by rw [List.length_append];show acc.length + 1<=255;omega,?_⟩,?_⟩
    ·rw [upd_same]
     unfold natI
     rw [List.map_append (l₁:=acc ++ [z])]
     rfl
    ·have e5:(acc ++ [z]).length=acc.length + 1:=by rw [List.length_append];rfl
     rw [e5]
     simpa only [List.append_assoc,List.singleton_append] using hok
    ·unfold muFal
     rw [upd_same,hD2]
     show 256 - (natI (acc ++ [z]) ++ [V.int (y:Int)]).length < 256 - (natI (acc ++ [z])).length
     rw [List.length_append,hnl]
     show 256 - (acc.length + 1 + 1) < 256 - (acc.length + 1)
     omega
   ·have hc:¬(((acc.length + 1:Nat):Int) < 256):=fun z=>hc (decide_eq_true z)
    have e4:255 - acc.length=0:=by omega
    rw [e4] at hrun
    exact ⟨_,rfl,hrun _ _ e2 h2 ⟨D,rfl,hD2⟩ (fresh_ref hD0)⟩
  ·rintro σ H' Q Q' h ⟨v1,e1,p1,ys,a1,a2,i,j,a3,a4,kk,e4,q⟩
   exact ⟨v1,e1,p1,ys,a1,a2,i,j,a3,a4,kk,e4,h _ _ q⟩
end
end Go
namespace Go
open PySem L2
theorem ColsAt.grow {H:Hp} {cols:List (List Int)} {as:List Addr} {i:Nat} {a:Addr} {c:List Int} (h:ColsAt H cols as) (nd:as.Nodup) (ha:as[i]? = some a):ColsAt (L2.upd H a (.lst (c.map V.int))) (cols.set i c) as:=by
 have hl:=Paired.length h
 refine paired_of (by simpa using hl) fun j x b hx hb=>?_
 by_cases hj:j=i
 ·subst hj
  rw [ha] at hb
  cases hb
  have hlt:j < cols.length:=by rw [hl];exact (List.getElem?_eq_some_iff.mp ha).1
  rw [List.getElem?_set_self hlt] at hx
  cases hx
  exact upd_same
 ·rw [List.getElem?_set_ne (Ne.symm hj)] at hx
  have hne:b≠a:=fun z=>hj (nd_ix nd (z ▸ hb) ha)
  show L2.upd H a _ b=_
  rw [upd_ne hne]
  exact paired_both h hx hb
structure Laid (H1 H:Hp) (D:Addr) (cols:List (List Int)) (as:List Addr):Prop where
 sm:Same H1 H
 at_:H D=some (.lst (as.map V.ref))
 cols:ColsAt H cols as
 nd:as.Nodup
 new:∀b∈as,H1 b=none/\b≠D
theorem Laid.more {H1 H:Hp} {D p:Addr} {cols:List (List Int)} {as:List Addr} {c:List Int} (h:Laid H1 H D cols as) (hD:H1 D=none) (hp:H p=none):Laid H1 (upd (upd H p (.lst (c.map V.int))) D (.lst (as.map V.ref ++ [V.ref p]))) D (cols ++ [c]) (as ++ [p]):=by
 have hDp:D≠p:=ne_of_none h.at_ hp
 have s1:Same H (upd H p (.lst (c.map V.int))):=Same.new hp
 have hpas:p∉as:=fun z=>by
  obtain ⟨i,hi⟩:=List.getElem?_of_mem z
  obtain ⟨c',_,q⟩:=paired_get h.cols hi
  have q:H p=some _:=q
  rw [q] at hp
  cases hp
 refine ⟨(h.sm.trans s1).updN hD,by rw [List.map_append];exact upd_same,?_,?_,fun b hb=>?_⟩
 ·refine paired_app (paired_of (Paired.length h.cols) fun i c' a hc ha=>?_) (.cons ?_ .nil)
  ·have hne:a≠D:=(h.new a (List.mem_of_getElem? ha)).2
   show upd _ D _ a=_
   rw [upd_ne hne]
   exact s1 _ _ (paired_both h.cols hc ha)
  ·show upd _ D _ p=_
   rw [upd_ne hDp.symm,upd_same]
 ·refine List.nodup_append.mpr ⟨h.nd,by simp,fun a ha b hb z=>?_⟩
  have:b=p:=by simpa using hb
  exact hpas (by rw [<-this,<-z];exact ha)
 ·rcases List.mem_append.mp hb with z | z
  ·exact h.new b z
  ·have:b=p:=by simpa using z
   rw [this]
   exact ⟨h.sm.free hp,hDp.symm⟩
theorem lc_empty {n:Nat} {g:TG} {vs:List Nat} {σ:L2.St} {H1:Hp} {D:Addr} {Qd:Hp->Prop} (hD:H1 D=none) (hn:n<=4096) (hg:∀(v:V) (H:Hp) (Q:L2.St->Hp->Prop),(∀σ2,wipe σ2 vs=wipe σ vs->Q σ2 H)->g v (wipe σ vs) H Q) (hd:∀H as,Laid H1 H D (List.replicate n []) as->Qd H) :
  ∃W:Nat->Nat->Hp->Prop,(∃m,W 0 m (upd H1 D (.lst [])))/\∀i m H,W i m H->
   ((Itr 0 n).stop i H/\Qd H)\/((Itr 0 n).go i H/\∃Nx:Hp->Prop,(∀H',Nx H'->∃m',m' < m/\W (i + 1) m' H')/\∀x H',(Itr 0 n).yld i H x H'->g x (wipe σ vs) H' fun σ2 H2=>wipe σ2 vs=wipe σ vs/\tYes σ2 H2 fun b H3=>
    if b=true then tLst tNil σ2 H3 fun y H4=>∃acc,H4 D=some (.lst acc)/\acc.length < sizeLine/\Nx (upd H4 D (.lst (acc ++ [y]))) else Nx H3):=by
 have hsz:5000<=sizeLine:=by decide
 refine lc_range (fun i H=>∃as,Laid H1 H D (List.replicate i []) as) ⟨[],Same.new hD,upd_same,.nil,List.nodup_nil,fun _ z=>by simp at z⟩ ?_ fun H ⟨as,p⟩=>hd H as p
 rintro i H hi ⟨as,p⟩
 refine hg _ _ _ fun σ2 hσ=>⟨hσ,Nat.zero_le _,fun q hq=>?_⟩
 have hl:as.length=i:=by have:=Paired.length p.cols;simpa using this.symm
 have hDq:D≠q:=ne_of_none p.at_ hq
 refine ⟨as.map V.ref,by rw [upd_ne hDq];exact p.at_,by rw [List.length_map];omega,as ++ [q],?_⟩
 have:=p.more (c:=[]) hD hq
 rw [List.replicate_succ']
 exact this
end Go
namespace Go
open PySem PySem.Spec PyProof.Rows L2
theorem mt_bits {X:Cx}:MtR X "int.bit_length" (fun x xs H Q=>∃i,x=.int i/\xs=[]/\Q (.int ((Builtin.Int.intBits i:Nat):Int)) H):=by
 intro pins s σ H x xs v us Q I rx rv h
 obtain ⟨i,rfl,rfl,q⟩:=h
 obtain ⟨t,rfl⟩:=rx
 cases rv
 exact call_gives F.slot_int_bit_length (typeIs_int s i t) F.entry_int_bit_length (F.args_int_bit_length_1 _) (AutoIntG2.int_bit_length_int_0 i t) ⟨.int _,H,I.tok _,⟨_,rfl⟩,q⟩
section
variable {P:Program} {w:World} {K:PySem.W.Frag} {mg:Str->Option Value} {base:Heap}
def spNear:Sp:=fun vs H Q _=>∃(a:Int) (b:Nat),vs=[.int a,.int b]/\(0 < b/\b < 500000000)/\Q (.int (Ql89.near a b)) H
theorem scNear:FnScope ["a","b"] ["a","b"] (defScope sNear):=⟨rfl,rfl,rfl,by decide +kernel,rfl,by decide +kernel,by decide +kernel⟩
theorem ok_near {f:Addr} {fd:FuncData} (F:Fun K "near" "near" sNear f fd):FnOk P w K mg base CX0 1 f fd ["a","b"] spNear:=by
 refine F.ok scNear (fun vs H Q E h=>?_) (fun cdv A outer s H vs Q E hr h=>?_)
 ·obtain ⟨a,b,rfl,_⟩:=h
  rfl
 ·obtain ⟨a,b,rfl,⟨h1,h2⟩,k⟩:=h
  refine ⟨_,pss_one (ps_ret (pe_op op_fdiv (pe_op op_add (pe_op op_mul pe_int (pv 0)) (pv 1)) (pe_op op_mul pe_int (pv 1)))),?_⟩
  refine ⟨_,rfl,_,_,rfl,rfl,.inl ⟨by decide,by decide⟩,_,rfl,_,_,rfl,rfl,_,rfl,_,_,rfl,rfl,.inl ⟨by decide,by decide⟩,_,_,rfl,rfl,⟨?_,?_⟩,k⟩
  ·show (0:Int) < 2 * (b:Int)
   omega
  ·show 2 * (b:Int) < 1073741824
   omega
def spHeld:Sp:=fun vs H Q _=>∃(z top:Int),vs=[.int z,.int top]/\0<=top/\Q (.int (Ql89.held (-top - 1) top z)) H
theorem scHeld:FnScope ["number","top"] ["number","top"] (defScope sHeld):=⟨rfl,rfl,rfl,by decide +kernel,rfl,by decide +kernel,by decide +kernel⟩
theorem ok_held {f:Addr} {fd:FuncData} (F:Fun K "held" "held" sHeld f fd) (hmax:mg "max" = none) (hmin:mg "min" = none):FnOk P w K mg base CX0 1 f fd ["number","top"] spHeld:=by
 refine F.ok scHeld (fun vs H Q E h=>?_) (fun cdv A outer s H vs Q E hr h=>?_)
 ·obtain ⟨z,t,rfl,_⟩:=h
  rfl
 ·obtain ⟨z,top,rfl,h1,k⟩:=h
  refine ⟨_,pss_one (ps_ret (pe_callB (call_max2 rfl) (by rfl) hmax PyProof.Rows.boot_max (pa_cons (pe_op op_sub (pe_un un_neg (pv 1)) pe_int) (pa_cons (pe_callB (call_min2 rfl) (by rfl) hmin PyProof.Rows.boot_min (pa_cons (pv 1) (pa_cons (pv 0) pa_nil))) pa_nil)))),?_⟩
  refine ⟨_,rfl,_,rfl,_,_,rfl,rfl,_,rfl,_,rfl,_,_,rfl,_,_,rfl,?_⟩
  show Q (.int _) H
  rw [<-GM.held_eq top z h1] at k
  exact k
def spRoot:Sp:=fun vs H Q _=>∃(n:Nat),vs=[.int n]/\n < 2 ^ 34/\Q (.int (Ql89.root n:Int)) H
theorem scRoot:FnScope ["square","found"] ["square"] (defScope sRoot):=⟨rfl,rfl,rfl,by decide +kernel,rfl,by decide +kernel,by decide +kernel⟩
def muR (σ:L2.St) (_:Hp):Nat:=match (σ[1]?:Option (Option V)) with
 | some (some (.int z))=>z.toNat
 | _=>0
theorem bits_lt (n:Nat):n < 2 ^ Builtin.Int.intBits (n:Int):=by
 unfold Builtin.Int.intBits
 by_cases h:(n:Int)=0
 ·rw [if_pos (by rw [h];rfl)]
  show n < 1
  omega
 ·rw [if_neg (by simpa using h),Int.natAbs_natCast]
  exact Nat.lt_log2_self
theorem bits_le {n m:Nat} (h:n < 2 ^ m):Builtin.Int.intBits (n:Int)<=m:=by
 unfold Builtin.Int.intBits
 by_cases h0:(n:Int)=0
 ·rw [if_pos (by rw [h0];rfl)]
  omega
 ·rw [if_neg (by simpa using h0),Int.natAbs_natCast]
  have hn:n≠0:=by omega
  exact (Nat.log2_lt hn).mpr h
theorem ok_root {f:Addr} {fd:FuncData} (F:Fun K "root" "root" sRoot f fd):FnOk P w K mg base CX0 1 f fd ["square"] spRoot:=by
 refine F.ok scRoot (fun vs H Q E h=>?_) (fun cdv A outer s H vs Q E hr h=>?_)
 ·obtain ⟨n,rfl,_⟩:=h
  rfl
 ·obtain ⟨n,rfl,hn,k⟩:=h
  refine ⟨_,pss_cons (ps_set (i:=1) scRoot.nd rfl (Or.inl rfl) (pe_op op_shl pe_int (pe_op op_fdiv (pe_op op_add (pe_bm0 PySem.F.plainAttrs_int PySem.F.slot_int_bit_length PySem.F.type_int_bit_length mt_bits (pv 0)) pe_int) pe_int)))
   (pss_cons (ps_while PassesOwn.never (pt_cmpR op_gt (pe_op op_mul (pv 1) (pv 1)) (pv 0) (nomark _)) (pss_one (ps_set (i:=1) scRoot.nd rfl (Or.inl rfl) (pe_op op_fdiv (pe_op op_add (pv 1) (pe_op op_fdiv (pv 0) (pv 1))) pe_int))))
   (pss_one (ps_ret (pv 1)))),?_⟩
  have hb:=bits_lt n
  have hb2:=bits_le hn
  generalize hB:Builtin.Int.intBits (n:Int)=B at hb hb2
  have hs:=GM.root_spec hn
  refine ⟨_,rfl,rfl,_,rfl,rfl,_,_,rfl,rfl,_,_,rfl,rfl,⟨by decide,by decide⟩,_,_,rfl,rfl,⟨?_,?_,by decide⟩,?_⟩
  ·show (0:Int)<=(((Builtin.Int.intBits (n:Int):Nat):Int) + 1) / 2
   omega
  ·show (((Builtin.Int.intBits (n:Int):Nat):Int) + 1) / 2<=1000000
   omega
  have e0:(1:Int) * 2 ^ ((((Builtin.Int.intBits (n:Int):Nat):Int) + 1) / 2).toNat=((2 ^ ((B + 1) / 2):Nat):Int):=by
   rw [hB,Int.one_mul]
   have e:(((B:Nat):Int) + 1) / 2=(((B + 1) / 2:Nat):Int):=by omega
   rw [e,Int.toNat_natCast]
   simp
  have hp:2 ^ ((B + 1) / 2)<=2 ^ 17:=Nat.pow_le_pow_right (by decide) (by omega)
  have hge:GM.Run (pure ():Ql89.R Unit) [] 0 (fun _ _=>True) (fun _ _=>True):=trivial
  dsimp only [gName,tSeq]
  refine while_by (fun σ H'=>∃(x:Nat),σ=[some (.int n),some (.int x)]/\H'=H/\Ql89.root n<=x/\x<=2 ^ 17) muR ?_ ?_ ?_
  ·refine ⟨2 ^ ((B + 1) / 2),?_,rfl,?_,hp⟩
   ·show [some (V.int n),some (V.int ((1:Int) * 2 ^ ((((Builtin.Int.intBits (n:Int):Nat):Int) + 1) / 2).toNat))]=_
    rw [e0]
   ·refine Nat.le_of_lt (GM.sq_lt hs.1 (Nat.lt_of_lt_of_le hb ?_))
    rw [<-Nat.pow_add]
    exact Nat.pow_le_pow_right (by decide) (by omega)
  ·rintro σ H' ⟨x,rfl,rfl,hx,hx2⟩
   refine ⟨_,rfl,_,rfl,_,_,rfl,rfl,.inl ⟨by omega,by omega⟩,_,rfl,_,_,rfl,rfl,_,rfl,?_⟩
   rw [<-Int.natCast_mul]
   refine ite2 (fun hc=>?_) (fun hc=>?_)
   ·have hc:n < x * x:=by
     have hc:=of_decide_eq_true hc
     omega
    have hx0:0 < x:=by
     refine Nat.pos_of_ne_zero fun z=>?_
     rw [z] at hc
     omega
    refine ⟨_,rfl,_,rfl,_,rfl,_,_,rfl,rfl,⟨?_,?_⟩,_,_,rfl,rfl,_,_,rfl,rfl,⟨by decide,by decide⟩,⟨(x + n / x) / 2,?_,rfl,GM.newton_ge hx0 hs.1,?_⟩,?_⟩
    ·show (0:Int) < (x:Int)
     omega
    ·show (x:Int) < 1073741824
     omega
    ·show [some (V.int n),some (V.int (((x:Int) + (n:Int) / (x:Int)) / 2))]=_
     rw [<-Int.natCast_ediv,<-Int.natCast_add]
     rfl
    ·have:=GM.newton_lt hc
     omega
    ·show (((x:Int) + (n:Int) / (x:Int)) / 2).toNat < ((x:Nat):Int).toNat
     rw [<-Int.natCast_ediv,<-Int.natCast_add,Int.toNat_natCast]
     have:=GM.newton_lt hc
     omega
   ·have hc:x * x<=n:=by
     refine Nat.le_of_not_lt fun z=>hc (decide_eq_true ?_)
     omega
    refine ⟨_,rfl,?_⟩
    rw [GM.root_is hn hc hx]
    exact k
  ·rintro σ H' Q Q' h ⟨v1,e1,v2,e2,i,j,a1,a2,c,y,e3,i2,j2,a3,a4,kk,e4,q⟩
   exact ⟨v1,e1,v2,e2,i,j,a1,a2,c,y,e3,i2,j2,a3,a4,kk,e4,h _ _ q⟩
end
end Go
namespace Go
open PySem L2
section
variable {P:Program} {w:World} {K:PySem.W.Frag} {mg:Str->Option Value} {base:Heap}
def spLS (K:PySem.W.Frag):Sp:=fun vs H Q _=>∃(L g:Addr) (r xs:List Int),vs=[.ref L,.ref g]/\PairsAt H L (GM.sparse 0 r)/\SqL K H g (xs.map V.int)/\r.length<=xs.length/\r.length<=100000/\Small r/\∀H',Same H H'->Q (.int (Ql89.dot r xs)) H'
theorem scLS:FnScope ["line","given","column","number"] ["line","given"] (defScope sLSum):=⟨rfl,rfl,rfl,by decide +kernel,rfl,by decide +kernel,by decide +kernel⟩
theorem ok_LS {f:Addr} {fd:FuncData} (F:Fun K "line_sum" "line_sum" sLSum f fd) (hsum:mg "sum" = none):FnOk P w K mg base CX0 1 f fd ["line","given"] (spLS K):=by
 refine F.ok scLS (fun vs H Q E h=>?_) (fun cdv A outer s H vs Q E hr h=>?_)
 ·obtain ⟨L,g,r,xs,rfl,_⟩:=h
  rfl
 ·obtain ⟨L,g,r,xs,rfl,⟨as,hL,hP⟩,hg,hl,hr1,hsm,k⟩:=h
  refine ⟨_,pss_one (ps_ret (pe_callB (cr_sum rfl) (by rfl) hsum PyProof.Rows.boot_sum (pa_cons
   (pe_lc rfl scLS.nd (pi_list (pv 0)) (blkOk_by (own:=[("column",2),("number",3)]) (by kernel_rfl))
    (fun _ _ _ _ _=>pg_tupK (K:=K) (n:=2) rfl rfl (pgs_cons (pg_name (i:=2) scLS.nd rfl (Or.inl rfl)) (pgs_cons (pg_name (i:=3) scLS.nd rfl (Or.inl rfl)) pgs_nil)))
    (fun _ _ _ _ _=>pts_nil)
    (fun _ _ _ _ _=>pe_op op_mul (pv 3) (pe_ix (ix_listK (K:=K) rfl) (pv 1) (pv 2) (fun _ _=>rfl)))) pa_nil))),?_⟩
  have hal:(GM.sparse 0 r).length=as.length:=Paired.length hP
  have hsl:=GM.sparse_le r 0
  have hs:100000<=sizeLine:=by decide
  refine ⟨_,rfl,L,rfl,⟨_,SqL.of hL⟩,fun D hD=>?_⟩
  refine lc_listV (xs:=as.map V.ref) (((GM.sparse 0 r).map fun (p:Int×Int)=>p.2 * xs.getD p.1.toNat 0).map V.int) (by simp [hal]) (by rw [List.length_map];omega) (SqL.of hL) hD ?_ ?_
  ·intro i x y H' Q' hx hy s1 kQ
   rw [List.getElem?_map] at hx
   obtain ⟨t,ht,rfl⟩:=Option.map_eq_some_iff.mp hx
   obtain ⟨p,hp,hpt⟩:=paired_get hP ht
   rw [List.map_map,List.getElem?_map,hp] at hy
   cases hy
   obtain ⟨j,hj,e1,e2⟩:=GM.sparse_mem r 0 p (List.mem_of_getElem? hp)
   have hz:=hsm p.2 (List.mem_of_getElem? e2)
   rw [Nat.zero_add] at e1
   refine ⟨t,_,rfl,SqT.of (s1 _ _ hpt),rfl,_,_,rfl,_,_,rfl,rfl,rfl,_,rfl,_,rfl,_,rfl,g,_,_,_,rfl,rfl,s1.seq hg,ints_at (j:=j) (by omega) e1,_,_,rfl,rfl,.inl ⟨by omega,by omega⟩,?_⟩
   have e3:p.1.toNat=j:=by omega
   have kQ:=kQ H' (Same.refl _)
   show Q' (.int (p.2 * xs.getD j 0)) H'
   rw [<-e3]
   exact kQ
  ·intro H' s1 hD'
   refine ⟨D,_,rfl,SqL.of hD',?_⟩
   rw [<-GM.dot_sparse r xs hl]
   exact k H' s1
end
end Go
namespace Go
open PySem L2
section
variable {P:Program} {w:World} {K:PySem.W.Frag} {mg:Str->Option Value} {base:Heap}
def spWeigh (K:PySem.W.Frag):Sp:=fun vs H Q _=>∃(fa na:Addr) (fal:List Nat) (c:Nat) (a:List Int),vs=[.ref fa,.int c,.ref na]/\SqL K H fa (natI fal)/\fal.length=256/\SqL K H na (a.map V.int)/\0 < a.length/\a.length<=100000/\
 ∀D H',H D=none->Same H H'->H' D=some (.lst (natI (Ql89.weights fal c a)))->Q (.ref D) H'
theorem scWeigh:FnScope ["falling","shift","numbers","greatest","last","number"] ["falling","shift","numbers"] (defScope sWeigh):=⟨rfl,rfl,rfl,by decide +kernel,rfl,by decide +kernel,by decide +kernel⟩
theorem ok_weigh {f:Addr} {fd:FuncData} (F:Fun K "weigh" "weigh" sWeigh f fd) (hmax:mg "max" = none) (hmin:mg "min" = none) (hlen:mg "len" = none):FnOk P w K mg base CX0 1 f fd ["falling","shift","numbers"] (spWeigh K):=by
 refine F.ok scWeigh (fun vs H Q E h=>?_) (fun cdv A outer s H vs Q E hr h=>?_)
 ·obtain ⟨fa,na,fal,c,a,rfl,_⟩:=h
  rfl
 ·obtain ⟨fa,na,fal,c,a,rfl,hf,hf2,hn,hn1,hn2,k⟩:=h
  refine ⟨_,pss_cons (ps_set (i:=3) scWeigh.nd rfl (Or.inr rfl) (pe_callB (cr_max rfl) (by rfl) hmax PyProof.Rows.boot_max (pa_cons (pv 2) pa_nil)))
   (pss_cons (ps_set (i:=4) scWeigh.nd rfl (Or.inr rfl) (pe_op op_sub (pe_callB call_len_seq (by rfl) hlen PySem.boot_len (pa_cons (pv 0) pa_nil)) pe_int))
   (pss_one (ps_ret (pe_lc rfl scWeigh.nd (pi_list (pv 2)) (blkOk_by (own:=[("number",5)]) (by kernel_rfl)) (fun _ _ _ _ _=>pg_name (i:=5) scWeigh.nd rfl (Or.inl rfl)) (fun _ _ _ _ _=>pts_nil)
    (fun _ _ _ _ _=>pe_ix (ix_listK (K:=K) rfl) (pv 0) (pe_callB (call_min2 rfl) (by rfl) hmin PyProof.Rows.boot_min (pa_cons (pv 4) (pa_cons (pe_op op_shr (pe_op op_sub (pv 3) (pv 5)) (pv 1)) pa_nil))) (fun _ _=>rfl)))))),?_⟩
  refine ⟨_,rfl,na,a,rfl,hn,hn1,fun m hm hm2=>?_⟩
  have hg:=GM.greatest_is hm hm2
  have hs:100000<=sizeLine:=by decide
  have fl:(natI fal).length=256:=by unfold natI;rw [List.length_map];exact hf2
  refine ⟨_,rfl,fa,_,rfl,.inl hf,_,_,rfl,rfl,?_⟩
  refine ⟨_,rfl,na,rfl,⟨_,hn⟩,fun D hD=>?_⟩
  refine lc_listV (xs:=a.map V.int) (natI (Ql89.weights fal c a)) (by unfold natI Ql89.weights;simp) (by rw [List.length_map];omega) hn hD ?_ ?_
  ·intro i x y H' Q' hx hy s1 kQ
   rw [List.getElem?_map] at hx
   obtain ⟨z,hz,rfl⟩:=Option.map_eq_some_iff.mp hx
   unfold natI Ql89.weights at hy
   rw [List.map_map,List.getElem?_map,hz] at hy
   cases hy
   have hzm:=hm2 z (List.mem_of_getElem? hz)
   refine ⟨rfl,_,rfl,_,rfl,_,rfl,_,rfl,_,_,rfl,rfl,_,rfl,_,_,rfl,rfl,(by show (0:Int)<=(c:Int);omega),_,_,rfl,fa,_,_,V.int ((fal.getD (min 255 ((m - z).toNat / 2 ^ c)) 0:Nat):Int),rfl,rfl,s1.seq hf,at_of (j:=min 255 ((m - z).toNat / 2 ^ c)) ?_ ?_,?_⟩
   ·show (if (m - z) / 2 ^ (c:Int).toNat < (((natI fal).length:Nat):Int) - 1 then (m - z) / 2 ^ (c:Int).toNat else (((natI fal).length:Nat):Int) - 1)=_
    rw [fl,Int.toNat_natCast]
    obtain ⟨u,hu⟩:∃u:Nat,m - z=(u:Int):=⟨(m - z).toNat,by omega⟩
    rw [hu,Int.toNat_natCast]
    have e:(u:Int) / 2 ^ c=((u / 2 ^ c:Nat):Int):=by rw [Int.natCast_ediv];simp
    rw [e]
    split <;> omega
   ·unfold natI
    rw [List.getElem?_map]
    have hlt:min 255 ((m - z).toNat / 2 ^ c) < fal.length:=by omega
    simp [hlt]
   ·have kQ:=kQ H' (Same.refl _)
    show Q' (.int _) H'
    rw [hg] at kQ
    exact kQ
  ·intro H' s1 hD'
   exact k D H' hD s1 hD'
end
end Go
namespace Go
open PySem L2
theorem natI_ints (l:List Nat):natI l=(l.map fun (n:Nat)=>(n:Int)).map V.int:=by unfold natI;rw [List.map_map];rfl
theorem sum_nats:∀(l:List Nat),(l.map fun (n:Nat)=>(n:Int)).sum=((l.sum:Nat):Int)
 | []=>rfl
 | a :: r=>by rw [List.map_cons,List.sum_cons,List.sum_cons,sum_nats r];omega
theorem natI_at {l:List Nat} {j:Nat} (h:j < l.length):(natI l)[j]? = some (.int ((l.getD j 0:Nat):Int)):=by
 unfold natI
 rw [List.getElem?_map]
 simp [h]
theorem upTo_at:∀(l:List Nat) (j u:Nat),j < l.length->(l.take j).sum<=u->u < (l.take (j + 1)).sum->Ql89.upTo u l=j
 | [],j,u,h,_,_=>by simp at h
 | a :: r,0,u,_,_,h=>by
  unfold Ql89.upTo
  rw [if_pos (by simpa using h)]
 | a :: r,j + 1,u,h1,h2,h3=>by
  unfold Ql89.upTo
  rw [List.take_succ_cons,List.sum_cons] at h2 h3
  rw [if_neg (by omega),upTo_at r j (u - a) (by simpa using h1) (by omega) (by omega)]
  omega
theorem take_sum (l:List Nat) (j:Nat) (h:j < l.length):(l.take (j + 1)).sum=(l.take j).sum + l.getD j 0:=by
 have e:l[j]? = some (l.getD j 0):=by simp [h]
 rw [List.take_add_one,e,List.sum_append]
 show _ + [l.getD j 0].sum=_
 rw [List.sum_cons,List.sum_nil]
 omega
section
variable {P:Program} {w:World} {K:PySem.W.Frag} {mg:Str->Option Value} {base:Heap}
def spFA (K:PySem.W.Frag):Sp:=fun vs H Q _=>∃(wa:Addr) (ws:List Nat) (u:Nat),vs=[.ref wa,.int u]/\SqL K H wa (natI ws)/\u < ws.sum/\Q (.int ((Ql89.upTo u ws:Nat):Int)) H
theorem scFA:FnScope ["weights","bound","word","so_far"] ["weights","bound"] (defScope sFirst):=⟨rfl,rfl,rfl,by decide +kernel,rfl,by decide +kernel,by decide +kernel⟩
def muF (n:Nat) (σ:L2.St) (_:Hp):Nat:=match (σ[2]?:Option (Option V)) with
 | some (some (.int z))=>n - z.toNat
 | _=>0
theorem ok_FA {f:Addr} {fd:FuncData} (F:Fun K "first_above" "first_above" sFirst f fd):FnOk P w K mg base CX0 1 f fd ["weights","bound"] (spFA K):=by
 refine F.ok scFA (fun vs H Q E h=>?_) (fun cdv A outer s H vs Q E hr h=>?_)
 ·obtain ⟨wa,ws,u,rfl,_⟩:=h
  rfl
 ·obtain ⟨wa,ws,u,rfl,hw,hu,k⟩:=h
  refine ⟨_,pss_cons (ps_set (i:=2) scFA.nd rfl (Or.inl rfl) pe_int)
   (pss_cons (ps_set (i:=3) scFA.nd rfl (Or.inl rfl) (pe_ix ix_list (pv 0) pe_int (fun _ _=>rfl)))
   (pss_cons (ps_while PassesOwn.never (pt_cmpR op_le (pv 3) (pv 1) (nomark _))
    (pss_cons (ps_aug (i:=2) scFA.nd rfl (Or.inl rfl) pe_int ip_add) (pss_one (ps_aug (i:=3) scFA.nd rfl (Or.inl rfl) (pe_ix ix_list (pv 0) (pv 2) (fun _ _=>rfl)) ip_add))))
   (pss_one (ps_ret (pv 2))))),?_⟩
  have hpos:0 < ws.length:=by
   refine Nat.pos_of_ne_zero fun z=>?_
   rw [List.length_eq_zero_iff.mp z] at hu
   simp at hu
  refine ⟨_,rfl,wa,_,_,_,rfl,rfl,hw,at_of (j:=0) rfl (natI_at hpos),?_⟩
  dsimp only [gName,tSeq]
  refine while_by (fun σ H'=>∃(j:Nat),σ=[some (.ref wa),some (.int u),some (.int j),some (.int (((ws.take (j + 1)).sum:Nat):Int))]/\H'=H/\j < ws.length/\(ws.take j).sum<=u) (muF ws.length) ?_ ?_ ?_
  ·refine ⟨0,?_,rfl,hpos,by simp⟩
   rw [take_sum ws 0 hpos]
   simp
   rfl
  ·rintro σ H' ⟨j,rfl,rfl,hj,hj2⟩
   refine ⟨_,rfl,_,rfl,_,_,rfl,rfl,_,rfl,?_⟩
   refine ite2 (fun hc=>?_) (fun hc=>?_)
   ·have hc:(ws.take (j + 1)).sum<=u:=by
     have hc:=of_decide_eq_true hc
     omega
    have hj3:j + 1 < ws.length:=by
     refine Nat.lt_of_not_le fun z=>?_
     rw [List.take_of_length_le z] at hc
     omega
    refine ⟨_,rfl,_,_,rfl,rfl,?_⟩
    refine ⟨_,rfl,_,rfl,_,rfl,wa,_,_,_,rfl,rfl,hw,at_of (j:=j + 1) (by show (j:Int) + 1=_;omega) (natI_at hj3),_,_,rfl,rfl,⟨j + 1,?_,rfl,hj3,hc⟩,?_⟩
    ·show [some (V.ref wa),some (V.int u),some (V.int ((j:Int) + 1)),some (V.int ((((ws.take (j + 1)).sum:Nat):Int) + ((ws.getD (j + 1) 0:Nat):Int)))]=_
     rw [take_sum ws (j + 1) hj3]
     simp
    ·show ws.length - ((j:Int) + 1).toNat < ws.length - ((j:Nat):Int).toNat
     omega
   ·have hc:u < (ws.take (j + 1)).sum:=by
     refine Nat.lt_of_not_le fun z=>hc (decide_eq_true ?_)
     omega
    refine ⟨_,rfl,?_⟩
    rw [upTo_at ws j u hj hj2 hc] at k
    exact k
  ·rintro σ H' Q Q' h ⟨v1,e1,v2,e2,i,j,a1,a2,kk,e4,q⟩
   exact ⟨v1,e1,v2,e2,i,j,a1,a2,kk,e4,h _ _ q⟩
def SmallN (l:List Nat):Prop:=∀n∈l,n < 4294967296
def wsum (ws:List Nat) (v:List Int):Int:=Ql89.total (List.zipWith (fun (p:Nat) (q:Int)=>(p:Int) * q) ws v)
def spWS (K:PySem.W.Frag):Sp:=fun vs H Q _=>∃(wa ca:Addr) (ws:List Nat) (v:List Int),vs=[.ref wa,.ref ca]/\SqL K H wa (natI ws)/\SqL K H ca (v.map V.int)/\ws.length<=100000/\SmallN ws/\∀H',Same H H'->Q (.int (wsum ws v)) H'
theorem scWS:FnScope ["weights","column","weight","number"] ["weights","column"] (defScope sWSum):=⟨rfl,rfl,rfl,by decide +kernel,rfl,by decide +kernel,by decide +kernel⟩
theorem ok_WS {f:Addr} {fd:FuncData} (F:Fun K "weighted_sum" "weighted_sum" sWSum f fd) (hsum:mg "sum" = none) (hzip:mg "zip" = none):FnOk P w K mg base CX0 1 f fd ["weights","column"] (spWS K):=by
 refine F.ok scWS (fun vs H Q E h=>?_) (fun cdv A outer s H vs Q E hr h=>?_)
 ·obtain ⟨wa,ca,ws,v,rfl,_⟩:=h
  rfl
 ·obtain ⟨wa,ca,ws,v,rfl,hw,hv,hl,hsm,k⟩:=h
  refine ⟨_,pss_one (ps_ret (pe_callB (cr_sum rfl) (by rfl) hsum PyProof.Rows.boot_sum (pa_cons
   (pe_lc rfl scWS.nd (pi_zip rfl hzip (pa_cons (pv 0) (pa_cons (pv 1) pa_nil))) (blkOk_by (own:=[("weight",2),("number",3)]) (by kernel_rfl))
    (fun _ _ _ _ _=>pg_tupK (K:=K) (n:=2) rfl rfl (pgs_cons (pg_name (i:=2) scWS.nd rfl (Or.inl rfl)) (pgs_cons (pg_name (i:=3) scWS.nd rfl (Or.inl rfl)) pgs_nil)))
    (fun _ _ _ _ _=>pts_nil)
    (fun _ _ _ _ _=>pe_op op_mul (pv 2) (pv 3))) pa_nil))),?_⟩
  have hs:100000<=sizeLine:=by decide
  have l1:(natI ws).length=ws.length:=by unfold natI;simp
  refine ⟨_,rfl,_,rfl,wa,ca,_,_,rfl,hw,hv,fun D hD=>?_⟩
  refine lc_zipV (xs:=natI ws) (us:=v.map V.int) ((List.zipWith (fun (p:Nat) (q:Int)=>(p:Int) * q) ws v).map V.int) (by simp [l1]) (by simp;omega) hw hv hD ?_ ?_
  ·intro i x u y T H' Q' hx hu hy s1 hT kQ
   unfold natI at hx
   rw [List.getElem?_map] at hx hu hy
   obtain ⟨p,hp,rfl⟩:=Option.map_eq_some_iff.mp hx
   obtain ⟨q,hq,rfl⟩:=Option.map_eq_some_iff.mp hu
   rw [List.getElem?_zipWith,hp,hq] at hy
   cases hy
   have hz:=hsm p (List.mem_of_getElem? hp)
   exact ⟨T,_,rfl,SqT.of hT,rfl,_,_,rfl,_,_,rfl,rfl,rfl,_,rfl,_,rfl,_,_,rfl,rfl,.inl ⟨by omega,by omega⟩,kQ H' (Same.refl _)⟩
  ·intro H' s1 hD'
   refine ⟨D,_,rfl,SqL.of hD',?_⟩
   rw [<-GM.total_eq]
   exact k H' s1
def spMix (K:PySem.W.Frag):Sp:=fun vs H Q _=>∃(wa va:Addr) (ws:List Nat) (cols:List (List Int)) (cas:List Addr),vs=[.ref wa,.ref va]/\SqL K H wa (natI ws)/\SqL K H va (cas.map V.ref)/\ColsOf K H cols cas/\cols.length<=100000/\
 ws.length<=100000/\SmallN ws/\(0 < ws.sum/\ws.sum < 500000000)/\∀D H',H D=none->Same H H'->H' D=some (.lst ((cols.map (Ql89.mixed ws)).map V.int))->Q (.ref D) H'
theorem scMix:FnScope ["weights","value_columns","total","column"] ["weights","value_columns"] (defScope sMixed):=⟨rfl,rfl,rfl,by decide +kernel,rfl,by decide +kernel,by decide +kernel⟩
theorem ok_mix {f fN fS:Addr} {fd fdN fdS:FuncData} (F:Fun K "mixed" "mixed" sMixed f fd) (hsum:mg "sum" = none) (N:GFn P w K mg base CX0 1 "near" fN fdN ["a","b"] spNear) (S:GFn P w K mg base CX0 1 "weighted_sum" fS fdS ["weights","column"] (spWS K)) :
  FnOk P w K mg base CX0 2 f fd ["weights","value_columns"] (spMix K):=by
 refine F.ok scMix (fun vs H Q E h=>?_) (fun cdv A outer s H vs Q E hr h=>?_)
 ·obtain ⟨wa,va,ws,cols,cas,rfl,_⟩:=h
  rfl
 ·obtain ⟨wa,va,ws,cols,cas,rfl,hw,hv,hc,hl,hl2,hsm,⟨ht1,ht2⟩,k⟩:=h
  refine ⟨_,pss_cons (ps_set (i:=2) scMix.nd rfl (Or.inr rfl) (pe_callB (cr_sum rfl) (by rfl) hsum PyProof.Rows.boot_sum (pa_cons (pv 0) pa_nil)))
   (pss_one (ps_ret (pe_lc rfl scMix.nd (pi_list (pv 1)) (blkOk_by (own:=[("column",3)]) (by kernel_rfl)) (fun _ _ _ _ _=>pg_name (i:=3) scMix.nd rfl (Or.inl rfl)) (fun _ _ _ _ _=>pts_nil)
    (fun _ _ _ _ _=>pe_call N.ok hr rfl N.glo N.kp N.b .nil pass0 (pa_cons (pe_call S.ok hr rfl S.glo S.kp S.b .nil pass0 (pa_cons (pv 0) (pa_cons (pv 3) pa_nil))) (pa_cons (pv 2) pa_nil)))))),?_⟩
  have hs:100000<=sizeLine:=by decide
  have hcl:cols.length=cas.length:=Paired.length hc
  refine ⟨_,rfl,wa,ws.map fun (n:Nat)=>(n:Int),rfl,by rw [<-natI_ints];exact hw,?_⟩
  rw [sum_nats]
  refine ⟨_,rfl,va,rfl,⟨_,hv⟩,fun D hD=>?_⟩
  refine lc_listV (xs:=cas.map V.ref) ((cols.map (Ql89.mixed ws)).map V.int) (by simp [hcl]) (by rw [List.length_map];omega) hv hD ?_ ?_
  ·intro i x y H' Q' hx hy s1 kQ
   rw [List.getElem?_map] at hx
   obtain ⟨t,ht,rfl⟩:=Option.map_eq_some_iff.mp hx
   obtain ⟨c,hcc,hct⟩:=paired_get hc ht
   rw [List.map_map,List.getElem?_map,hcc] at hy
   cases hy
   refine ⟨rfl,_,rfl,_,rfl,wa,t,ws,c,rfl,s1.seq hw,s1.seq hct,hl2,hsm,fun H2 s2=>?_⟩
   exact ⟨_,rfl,_,_,rfl,⟨ht1,ht2⟩,kQ H2 s2⟩
  ·intro H' s1 hD'
   exact k D H' hD s1 hD'
end
end Go
namespace Go
open PySem L2
section
variable {P:Program} {w:World} {K:PySem.W.Frag} {mg:Str->Option Value} {base:Heap}
def spJoin (K:PySem.W.Frag):Sp:=fun vs H Q _=>∃(ra ma:Addr) (r m:List Int),vs=[.ref ra,.ref ma]/\SqL K H ra (r.map V.int)/\SqL K H ma (m.map V.int)/\r.length<=100000/\∀D H',H D=none->Same H H'->H' D=some (.lst ((Ql89.added r m).map V.int))->Q (.ref D) H'
theorem scJoin:FnScope ["r","more","a","b"] ["r","more"] (defScope sJoined):=⟨rfl,rfl,rfl,by decide +kernel,rfl,by decide +kernel,by decide +kernel⟩
theorem ok_join {f fH:Addr} {fd fdH:FuncData} (F:Fun K "joined" "joined" sJoined f fd) (hzip:mg "zip" = none) (hW:∃t,mg "WORD_TOP" = some (.int 32767 t)) (N:GFn P w K mg base CX0 1 "held" fH fdH ["number","top"] spHeld):FnOk P w K mg base CX0 2 f fd ["r","more"] (spJoin K):=by
 refine F.ok scJoin (fun vs H Q E h=>?_) (fun cdv A outer s H vs Q E hr h=>?_)
 ·obtain ⟨ra,ma,r,m,rfl,_⟩:=h
  rfl
 ·obtain ⟨ra,ma,r,m,rfl,h1,h2,hl,k⟩:=h
  refine ⟨_,pss_one (ps_ret (pe_lc rfl scJoin.nd (pi_zip rfl hzip (pa_cons (pv 0) (pa_cons (pv 1) pa_nil))) (blkOk_by (own:=[("a",2),("b",3)]) (by kernel_rfl))
    (fun _ _ _ _ _=>pg_tupK (K:=K) (n:=2) rfl rfl (pgs_cons (pg_name (i:=2) scJoin.nd rfl (Or.inl rfl)) (pgs_cons (pg_name (i:=3) scJoin.nd rfl (Or.inl rfl)) pgs_nil)))
    (fun _ _ _ _ _=>pts_nil)
    (fun _ _ _ _ _=>pe_call N.ok hr rfl N.glo N.kp N.b .nil pass0 (pa_cons (pe_op op_add (pv 2) (pv 3)) (pa_cons (pe_const hW rfl) pa_nil))))),?_⟩
  have hs:100000<=sizeLine:=by decide
  refine ⟨_,rfl,_,rfl,ra,ma,_,_,rfl,h1,h2,fun D hD=>?_⟩
  refine lc_zipV (xs:=r.map V.int) (us:=m.map V.int) ((Ql89.added r m).map V.int) (by unfold Ql89.added;simp) (by unfold Ql89.added;simp;omega) h1 h2 hD ?_ ?_
  ·intro i x u y T H' Q' hx hu hy s1 hT kQ
   unfold Ql89.added at hy
   rw [List.getElem?_map] at hx hu hy
   obtain ⟨p,hp,rfl⟩:=Option.map_eq_some_iff.mp hx
   obtain ⟨q,hq,rfl⟩:=Option.map_eq_some_iff.mp hu
   rw [List.getElem?_zipWith,hp,hq] at hy
   cases hy
   exact ⟨T,_,rfl,SqT.of hT,rfl,_,_,rfl,_,_,rfl,rfl,rfl,_,rfl,_,rfl,_,_,rfl,rfl,_,_,rfl,by decide,kQ H' (Same.refl _)⟩
  ·intro H' s1 hD'
   exact k D H' hD s1 hD'
def Word (r:List Int):Prop:=∀z∈r,-32768<=z/\z<=32767
def spLev (K:PySem.W.Frag):Sp:=fun vs H Q _=>∃(ra ga:Addr) (r g:List Int),vs=[.ref ra,.ref ga]/\SqL K H ra (r.map V.int)/\SqL K H ga (g.map V.int)/\(0 < r.length/\r.length<=256)/\Word r/\∀D H',H D=none->Same H H'->H' D=some (.lst ((Ql89.level g r).map V.int))->Q (.ref D) H'
theorem scLev:FnScope ["r","gains","q","number","gain"] ["r","gains"] (defScope sLevelled):=⟨rfl,rfl,rfl,by decide +kernel,rfl,by decide +kernel,by decide +kernel⟩
theorem sq_le {z:Int} (h:-32768<=z/\z<=32767):0<=z * z/\z * z<=1073741824:=by
 have h1:z.natAbs<=32768:=by omega
 have h2:=Nat.mul_le_mul h1 h1
 have e:((z.natAbs * z.natAbs:Nat):Int)=z * z:=Int.natAbs_mul_self' z ▸ (by rw [Int.natCast_mul])
 omega
theorem sqsum:∀(r:List Int),Word r->0<=Ql89.total (r.map fun (x:Int)=>x * x)/\Ql89.total (r.map fun (x:Int)=>x * x)<=1073741824 * (r.length:Int)
 | [],_=>by simp [Ql89.total]
 | a :: r,h=>by
  have ih:=sqsum r fun z hz=>h z (List.mem_cons_of_mem _ hz)
  have ha:=sq_le (h a List.mem_cons_self)
  rw [GM.total_eq] at ih |-
  rw [List.map_cons,List.sum_cons,List.length_cons]
  omega
theorem ok_lev {f fR fN fH:Addr} {fd fdR fdN fdH:FuncData} (F:Fun K "levelled" "levelled" sLevelled f fd) (hsum:mg "sum" = none) (hlen:mg "len" = none) (hzip:mg "zip" = none) (hB:∃t,mg "BYTE_TOP" = some (.int 127 t))
  (R:GFn P w K mg base CX0 1 "root" fR fdR ["square"] spRoot) (N:GFn P w K mg base CX0 1 "near" fN fdN ["a","b"] spNear) (D':GFn P w K mg base CX0 1 "held" fH fdH ["number","top"] spHeld):FnOk P w K mg base CX0 2 f fd ["r","gains"] (spLev K):=by
 refine F.ok scLev (fun vs H Q E h=>?_) (fun cdv A outer s H vs Q E hr h=>?_)
 ·obtain ⟨ra,ga,r,g,rfl,_⟩:=h
  rfl
 ·obtain ⟨ra,ga,r,g,rfl,h1,h2,⟨hl1,hl2⟩,hw,k⟩:=h
  refine ⟨_,pss_cons (ps_set (i:=2) scLev.nd rfl (Or.inr rfl) (pe_call R.ok hr rfl R.glo R.kp R.b .nil pass0 (pa_cons (pe_op op_fdiv (pe_callB (cr_sum rfl) (by rfl) hsum PyProof.Rows.boot_sum (pa_cons
    (pe_lc rfl scLev.nd (pi_list (pv 0)) (blkOk_by (own:=[("number",3)]) (by kernel_rfl)) (fun _ _ _ _ _=>pg_name (i:=3) scLev.nd rfl (Or.inl rfl)) (fun _ _ _ _ _=>pts_nil) (fun _ _ _ _ _=>pe_op op_mul (pv 3) (pv 3))) pa_nil))
    (pe_callB call_len_seq (by rfl) hlen PySem.boot_len (pa_cons (pv 0) pa_nil))) pa_nil)))
   (pss_one (ps_ret (pe_lc rfl scLev.nd (pi_zip rfl hzip (pa_cons (pv 0) (pa_cons (pv 1) pa_nil))) (blkOk_by (own:=[("number",3),("gain",4)]) (by kernel_rfl))
    (fun _ _ _ _ _=>pg_tupK (K:=K) (n:=2) rfl rfl (pgs_cons (pg_name (i:=3) scLev.nd rfl (Or.inl rfl)) (pgs_cons (pg_name (i:=4) scLev.nd rfl (Or.inl rfl)) pgs_nil)))
    (fun _ _ _ _ _=>pts_nil)
    (fun _ _ _ _ _=>pe_call D'.ok hr rfl D'.glo D'.kp D'.b .nil pass0 (pa_cons (pe_call N.ok hr rfl N.glo N.kp N.b .nil pass0 (pa_cons (pe_op op_mul (pv 3) (pv 4)) (pa_cons (pe_op op_mul pe_int (pe_op op_add (pv 2) pe_int)) pa_nil))) (pa_cons (pe_const hB rfl) pa_nil)))))),?_⟩
  have hs:100000<=sizeLine:=by decide
  have hsq:=sqsum r hw
  refine ⟨_,rfl,ra,rfl,⟨_,h1⟩,fun D1 hD1=>?_⟩
  refine lc_listV (xs:=r.map V.int) ((r.map fun (x:Int)=>x * x).map V.int) (by simp) (by rw [List.length_map];omega) h1 hD1 ?_ ?_
  ·intro i x y H' Q' hx hy s1 kQ
   rw [List.getElem?_map] at hx
   obtain ⟨z,hz,rfl⟩:=Option.map_eq_some_iff.mp hx
   rw [List.map_map,List.getElem?_map,hz] at hy
   cases hy
   have hzw:=hw z (List.mem_of_getElem? hz)
   exact ⟨rfl,_,rfl,_,rfl,_,_,rfl,rfl,.inl ⟨by omega,by omega⟩,kQ H' (Same.refl _)⟩
  intro H1 s1 hD1'
  refine ⟨D1,_,rfl,SqL.of hD1',_,rfl,ra,_,rfl,.inl (s1.seq h1),_,_,rfl,rfl,⟨?_,?_⟩,?_⟩
  ·show (0:Int) < (((r.map V.int).length:Nat):Int)
   rw [List.length_map]
   omega
  ·show (((r.map V.int).length:Nat):Int) < 1073741824
   rw [List.length_map]
   omega
  rw [<-GM.total_eq,List.length_map]
  obtain ⟨S,hS⟩:∃S:Nat,Ql89.total (r.map fun (x:Int)=>x * x)=(S:Int):=⟨(Ql89.total (r.map fun (x:Int)=>x * x)).toNat,by omega⟩
  have hq:S / r.length<=1073741824:=by
   refine Nat.div_le_of_le_mul ?_
   rw [hS] at hsq
   have:=hsq.2
   rw [Nat.mul_comm]
   omega
  refine ⟨S / r.length,?_,by omega,?_⟩
  ·show [V.int (Ql89.total (r.map fun (x:Int)=>x * x) / (r.length:Int))] ++ []=_
   rw [hS,<-Int.natCast_ediv]
   rfl
  have hroot:=GM.root_spec (n:=S / r.length) (by omega)
  have hrl:Ql89.root (S / r.length)<=32768:=by
   refine Nat.le_of_not_lt fun z=>?_
   have:=Nat.mul_le_mul (Nat.succ_le_of_lt z) (Nat.succ_le_of_lt z)
   omega
  refine ⟨_,rfl,_,rfl,ra,ga,_,_,rfl,s1.seq h1,s1.seq h2,fun D hD=>?_⟩
  have eL:(Ql89.level g r).length=min r.length g.length:=by unfold Ql89.level;simp
  refine lc_zipV (xs:=r.map V.int) (us:=g.map V.int) ((Ql89.level g r).map V.int) (by simp [eL]) (by rw [List.length_map,eL];omega) (s1.seq h1) (s1.seq h2) hD ?_ ?_
  ·intro i x u y T H' Q' hx hu hy s2 hT kQ
   unfold Ql89.level at hy
   rw [List.getElem?_map] at hx hu hy
   obtain ⟨p,hp,rfl⟩:=Option.map_eq_some_iff.mp hx
   obtain ⟨q,hq2,rfl⟩:=Option.map_eq_some_iff.mp hu
   rw [List.getElem?_zipWith,hp,hq2] at hy
   cases hy
   have hpw:=hw p (List.mem_of_getElem? hp)
   rw [hS,Int.toNat_natCast] at kQ
   refine ⟨T,_,rfl,SqT.of hT,rfl,_,_,rfl,_,_,rfl,rfl,rfl,_,rfl,_,rfl,_,_,rfl,rfl,.inl ⟨by omega,by omega⟩,_,rfl,_,_,rfl,rfl,_,_,rfl,rfl,.inl ⟨by decide,by decide⟩,p * q,64 * (Ql89.root (S / r.length) + 1),?_,by omega,_,_,rfl,by decide,kQ H' (Same.refl _)⟩
   show [V.int (p * q),V.int (64 * ((Ql89.root (S / r.length):Int) + 1))] ++ []=_
   rw [show (64 * ((Ql89.root (S / r.length):Int) + 1))=((64 * (Ql89.root (S / r.length) + 1):Nat):Int) by omega]
   rfl
  ·intro H' s2 hD'
   exact k D H' (s1.free hD) (s1.trans s2) hD'
end
end Go
namespace Go
open PySem L2
section
variable {P:Program} {w:World} {K:PySem.W.Frag} {mg:Str->Option Value} {base:Heap}
def thr (top:Int) (rows:List Ql89.Row) (x:List Int):List Int:=rows.map fun (y:Ql89.Row)=>Ql89.held (-top - 1) top (y.of x)
def spThr (K:PySem.W.Frag):Sp:=fun vs H Q _=>∃(sa ga:Addr) (top:Int) (rows:List Ql89.Row) (xs:List Int),vs=[.ref sa,.ref ga,.int top]/\ScaledAt H sa rows/\SqL K H ga (xs.map V.int)/\(∀y∈rows,RowOk y xs.length)/\rows.length<=100000/\xs.length<=100000/\0<=top/\
 ∀D H',H D=none->Same H H'->H' D=some (.lst ((thr top rows xs).map V.int))->Q (.ref D) H'
theorem scThr:FnScope ["scaled","given","top","passed","added","multiplied","shift","line","t"] ["scaled","given","top"] (defScope sThrough):=⟨rfl,rfl,rfl,by decide +kernel,rfl,by decide +kernel,by decide +kernel⟩
theorem ok_thr {f fL fH:Addr} {fd fdL fdH:FuncData} (F:Fun K "through" "through" sThrough f fd) (L:GFn P w K mg base CX0 1 "line_sum" fL fdL ["line","given"] (spLS K)) (D':GFn P w K mg base CX0 1 "held" fH fdH ["number","top"] spHeld) :
  FnOk P w K mg base CX0 2 f fd ["scaled","given","top"] (spThr K):=by
 refine F.ok scThr (fun vs H Q E h=>?_) (fun cdv A outer s H vs Q E hr h=>?_)
 ·obtain ⟨sa,ga,tp,rows,xs,rfl,_⟩:=h
  rfl
 ·obtain ⟨sa,ga,tp,rows,xs,rfl,⟨as,hS,hP⟩,hg,hrow,hl,hl2,ht,k⟩:=h
  refine ⟨_,pss_cons (ps_set (i:=3) scThr.nd rfl (Or.inl rfl) (pe_lst pa_nil))
   (pss_cons (ps_for PassesOwn.never rfl (pi_list (pv 0)) (pg_tup (n:=4) rfl (pgs_cons (pg_name (i:=4) scThr.nd rfl (Or.inl rfl)) (pgs_cons (pg_name (i:=5) scThr.nd rfl (Or.inl rfl)) (pgs_cons (pg_name (i:=6) scThr.nd rfl (Or.inl rfl)) (pgs_cons (pg_name (i:=7) scThr.nd rfl (Or.inl rfl)) pgs_nil)))))
    (pss_cons (ps_set (i:=8) scThr.nd rfl (Or.inl rfl) (pe_op op_add (pv 4) (pe_call L.ok hr rfl L.glo L.kp L.b .nil pass0 (pa_cons (pv 7) (pa_cons (pv 1) pa_nil)))))
    (pss_one (ps_expr (pe_bm PySem.F.plainAttrs_list PySem.F.slot_list_append PySem.F.type_list_append mt_append (pv 3) (pa_cons (pe_call D'.ok hr rfl D'.glo D'.kp D'.b .nil pass0
     (pa_cons (pe_op op_shr (pe_op op_add (pe_op op_mul (pv 8) (pv 5)) (pe_op op_shl pe_int (pe_op op_sub (pv 6) pe_int))) (pv 6)) (pa_cons (pv 2) pa_nil))) pa_nil))))))
   (pss_one (ps_ret (pv 3)))),?_⟩
  have hs:200000<=sizeLine:=by decide
  have hal:rows.length=as.length:=Paired.length hP
  refine ⟨Nat.zero_le _,fun D hD=>?_⟩
  refine ⟨_,rfl,sa,rfl,⟨_,SqL.of ((Same.new hD) _ _ hS)⟩,for_list (K:=K) (a:=sa) (xs:=as.map V.ref) (fun i σ H'=>∃v4 v5 v6 v7 v8,σ=[some (.ref sa),some (.ref ga),some (.int tp),some (.ref D),v4,v5,v6,v7,v8]/\Same H H'/\H' D=some (.lst ((thr tp (rows.take i) xs).map V.int)))
   ⟨none,none,none,none,none,rfl,Same.new hD,by rw [upd_same];rfl⟩ (fun i σ H' _ ⟨_,_,_,_,_,_,s1,_⟩=>SqL.of (s1 _ _ hS)) ?_ ?_⟩
  ·rintro i x σ H' hx ⟨v4,v5,v6,v7,v8,rfl,s1,hD'⟩
   rw [List.getElem?_map] at hx
   obtain ⟨t,htt,rfl⟩:=Option.map_eq_some_iff.mp hx
   obtain ⟨y,hy,l,hyt,hyp⟩:=paired_get hP htt
   have ok:=hrow y (List.mem_of_getElem? hy)
   have hi:i < rows.length:=(List.getElem?_eq_some_iff.mp hy).1
   obtain ⟨m1,m2⟩:=ok.mul
   obtain ⟨c1,c2⟩:=ok.shift
   refine ⟨t,_,rfl,SqT.of (s1 _ _ hyt),rfl,_,_,rfl,_,_,rfl,_,_,rfl,_,_,rfl,rfl,?_⟩
   refine ⟨_,rfl,_,rfl,_,rfl,l,ga,y.w,xs,rfl,hyp.mono s1,s1.seq hg,by rw [ok.len];exact Nat.le_refl _,by rw [ok.len];exact hl2,ok.small,fun H2 s2=>?_⟩
   refine ⟨_,_,rfl,rfl,?_⟩
   have hD2:H2 D=some (.lst ((thr tp (rows.take i) xs).map V.int)):=s2 _ _ hD'
   refine ⟨_,rfl,.inl ⟨rfl,_,SqL.of hD2⟩,_,rfl,_,rfl,_,_,rfl,rfl,.inr ⟨by omega,by omega⟩,_,rfl,_,_,rfl,rfl,_,_,rfl,rfl,⟨(by show (0:Int)<=(y.shift:Int) - 1;omega),(by show (y.shift:Int) - 1<=1000000;omega),by decide⟩,_,_,rfl,rfl,_,rfl,_,_,rfl,rfl,
    (by show (0:Int)<=(y.shift:Int);omega),_,rfl,_,_,rfl,ht,D,_,_,rfl,rfl,hD2,?_,?_⟩
   ·unfold thr
    simp
    omega
   ·refine ⟨_,_,_,_,_,rfl,(s1.trans s2).updN hD,?_⟩
    rw [upd_same,List.take_add_one,hy]
    unfold thr
    rw [List.map_append,List.map_append]
    show some (HO.lst (_ ++ [V.int (Ql89.held (-tp - 1) tp (((y.add + Ql89.dot y.w xs) * (y.mul:Int) + 1 * 2 ^ ((y.shift:Int) - 1).toNat) / 2 ^ (y.shift:Int).toNat))]))=some (HO.lst (_ ++ [V.int (Ql89.held (-tp - 1) tp (y.of xs))]))
    have e1:((y.shift:Int) - 1).toNat=y.shift - 1:=by omega
    rw [Int.one_mul,e1,Int.toNat_natCast]
    unfold Ql89.Row.of Ql89.scaled
    simp
  ·rintro σ H' ⟨v4,v5,v6,v7,v8,rfl,s1,hD'⟩
   rw [List.length_map,<-hal,List.take_length] at hD'
   exact ⟨_,rfl,k D H' hD s1 hD'⟩
def prodAt (q:List Int) (cols:List (List Int)) (t:Nat):Int:=(List.zipWith (fun (a:Int) (c:List Int)=>a * c.getD t 0) q cols).sum
def spProd (K:PySem.W.Frag):Sp:=fun vs H Q _=>∃(qa ka:Addr) (q:List Int) (cols:List (List Int)) (cas:List Addr) (T:Nat),vs=[.ref qa,.ref ka]/\SqL K H qa (q.map V.int)/\SqL K H ka (cas.map V.ref)/\ColsOf K H cols cas/\(∀c∈cols,c.length=T)/\0 < cols.length/\
 q.length=cols.length/\T<=100000/\Small q/\∀D H',H D=none->Same H H'->H' D=some (.lst (((List.range T).map (prodAt q cols)).map V.int))->Q (.ref D) H'
theorem scProd:FnScope ["query","key_columns","sums","factor","column","so_far","number"] ["query","key_columns"] (defScope sProducts):=⟨rfl,rfl,rfl,by decide +kernel,rfl,by decide +kernel,by decide +kernel⟩
theorem prodAt_take (q:List Int) (cols:List (List Int)) (i t:Nat) (a:Int) (c:List Int) (hq:q[i]? = some a) (hc:cols[i]? = some c):prodAt (q.take (i + 1)) (cols.take (i + 1)) t=prodAt (q.take i) (cols.take i) t + a * c.getD t 0:=by
 unfold prodAt
 rw [List.take_add_one,List.take_add_one,hq,hc]
 have hl:(q.take i).length=(cols.take i).length:=by
  have h1:=(List.getElem?_eq_some_iff.mp hq).1
  have h2:=(List.getElem?_eq_some_iff.mp hc).1
  rw [List.length_take,List.length_take]
  omega
 show (List.zipWith _ (q.take i ++ [a]) (cols.take i ++ [c])).sum=_
 rw [List.zipWith_append hl,List.sum_append]
 simp
theorem ok_prod {f:Addr} {fd:FuncData} (F:Fun K "products" "products" sProducts f fd) (hlen:mg "len" = none) (hzip:mg "zip" = none):FnOk P w K mg base CX0 1 f fd ["query","key_columns"] (spProd K):=by
 refine F.ok scProd (fun vs H Q E h=>?_) (fun cdv A outer s H vs Q E hr h=>?_)
 ·obtain ⟨qa,ka,q,cols,cas,T,rfl,_⟩:=h
  rfl
 ·obtain ⟨qa,ka,q,cols,cas,T,rfl,hq,hk,hc,hT,hpos,hql,hT2,hsm,k⟩:=h
  refine ⟨_,pss_cons (ps_set (i:=2) scProd.nd rfl (Or.inl rfl) (pe_op op_rep (pe_lst (pa_cons pe_int pa_nil)) (pe_callB call_len_seq (by rfl) hlen PySem.boot_len (pa_cons (pe_ix ix_list (pv 1) pe_int (fun _ _=>rfl)) pa_nil))))
   (pss_cons (ps_for PassesOwn.never rfl (pi_zip rfl hzip (pa_cons (pv 0) (pa_cons (pv 1) pa_nil))) (pg_tup (n:=2) rfl (pgs_cons (pg_name (i:=3) scProd.nd rfl (Or.inr rfl)) (pgs_cons (pg_name (i:=4) scProd.nd rfl (Or.inl rfl)) pgs_nil)))
    (pss_one (ps_setLc (i:=2) rfl scProd.nd rfl rfl (sw_true rfl rfl rfl (by decide +kernel)) (pi_zip rfl hzip (pa_cons (pv 2) (pa_cons (pv 4) pa_nil))) (blkOk_by (own:=[("so_far",5),("number",6)]) (by kernel_rfl))
     (fun _ _ _ _ _=>pg_tupK (K:=K) (n:=2) rfl rfl (pgs_cons (pg_name (i:=5) scProd.nd rfl (Or.inl rfl)) (pgs_cons (pg_name (i:=6) scProd.nd rfl (Or.inl rfl)) pgs_nil)))
     (fun _ _ _ _ _=>pts_nil) (fun _ _ _ _ _=>pe_op op_add (pv 5) (pe_op op_mul (pv 3) (pv 6))))))
   (pss_one (ps_ret (pv 2)))),?_⟩
  have hs:200000<=sizeLine:=by decide
  have hcl:cols.length=cas.length:=Paired.length hc
  obtain ⟨c0,hc0⟩:∃c,cols[0]? = some c:=⟨cols[0],by simp [hpos]⟩
  obtain ⟨a0,ha0,hca0⟩:=paired_get' hc hc0
  have hc0T:=hT c0 (List.mem_of_getElem? hc0)
  refine ⟨by show 1<=sizeLine;decide,fun L hL=>?_⟩
  have sL:Same H (upd H L (.lst [V.int 0])):=Same.new hL
  refine ⟨_,rfl,ka,_,_,_,rfl,rfl,sL.seq hk,at_of (j:=0) rfl (by rw [List.getElem?_map,ha0];rfl),a0,_,rfl,.inl (sL.seq hca0),L,_,_,rfl,rfl,upd_same,?_,?_,?_,fun Dp hDp=>?_⟩
  ·show -(2 ^ 63)<=(((c0.map V.int).length:Nat):Int)
   omega
  ·show (((c0.map V.int).length:Nat):Int) < 2 ^ 63
   rw [List.length_map]
   omega
  ·show 1 * (((c0.map V.int).length:Nat):Int).toNat<=sizeLine
   rw [List.length_map]
   omega
  have e0:(List.replicate (((c0.map V.int).length:Nat):Int).toNat [V.int 0]).flatten=((List.range T).map (prodAt (q.take 0) (cols.take 0))).map V.int:=by
   rw [List.length_map,Int.toNat_natCast,hc0T]
   have:∀n:Nat,(List.replicate n [V.int 0]).flatten=((List.range n).map (prodAt (q.take 0) (cols.take 0))).map V.int:=by
    intro n
    induction n with
    | zero=>rfl
    | succ n ih=>
     rw [List.replicate_succ',List.flatten_append,ih,List.range_succ,List.map_append,List.map_append]
     rfl
   exact this T
  have sP:Same H (upd (upd H L (.lst [V.int 0])) Dp (.lst (List.replicate (((c0.map V.int).length:Nat):Int).toNat [V.int 0]).flatten)):=sL.trans (Same.new hDp)
  refine ⟨_,rfl,_,rfl,qa,ka,_,_,rfl,sP.seq hq,sP.seq hk,for_zip (K:=K) (xs:=q.map V.int) (us:=cas.map V.ref) (fun i σ H'=>∃D v3 v4 v5 v6,σ=[some (.ref qa),some (.ref ka),some (.ref D),v3,v4,v5,v6]/\H D=none/\Same H H'/\H' D=some (.lst (((List.range T).map (prodAt (q.take i) (cols.take i))).map V.int)))
   ⟨Dp,none,none,none,none,rfl,sL.free hDp,sP,by rw [upd_same,e0]⟩ (fun i σ H' ⟨_,_,_,_,_,_,_,s1,_⟩=>⟨s1.seq hq,s1.seq hk⟩) ?_ ?_⟩
  ·rintro i x u Tt σ H' hx hu ⟨D,v3,v4,v5,v6,rfl,hD0,s1,hD'⟩ hTt
   rw [List.getElem?_map] at hx hu
   obtain ⟨qi,hqi,rfl⟩:=Option.map_eq_some_iff.mp hx
   obtain ⟨ca,hca,rfl⟩:=Option.map_eq_some_iff.mp hu
   obtain ⟨c,hcc,hct⟩:=paired_get hc hca
   have hcT:=hT c (List.mem_of_getElem? hcc)
   have hqs:=hsm qi (List.mem_of_getElem? hqi)
   have sT:Same H' (upd H' Tt (.tup [V.int qi,V.ref ca])):=Same.new hTt
   refine ⟨Tt,_,rfl,SqT.of upd_same,rfl,_,_,rfl,_,_,rfl,rfl,?_⟩
   refine ⟨_,rfl,_,rfl,D,ca,_,_,rfl,SqL.of (sT _ _ hD'),(s1.trans sT).seq hct,fun D2 hD2=>?_⟩
   refine lc_zipV (xs:=((List.range T).map (prodAt (q.take i) (cols.take i))).map V.int) (us:=c.map V.int) (((List.range T).map (prodAt (q.take (i + 1)) (cols.take (i + 1)))).map V.int) (by simp [hcT]) (by simp;omega) (SqL.of (sT _ _ hD')) ((s1.trans sT).seq hct) hD2 ?_ ?_
   ·intro t x u y T2 H2 Q' hx2 hu2 hy2 s2 hT2' kQ
    rw [List.map_map,List.getElem?_map] at hx2 hy2
    rw [List.getElem?_map] at hu2
    obtain ⟨t1,ht1,rfl⟩:=Option.map_eq_some_iff.mp hx2
    obtain ⟨z,hz,rfl⟩:=Option.map_eq_some_iff.mp hu2
    rw [ht1] at hy2
    cases hy2
    have ett:t1=t:=by
     have:=(List.getElem?_eq_some_iff.mp ht1).2
     rw [List.getElem_range] at this
     exact this.symm
    subst ett
    have ez:c.getD t1 0=z:=by rw [List.getD_eq_getElem?_getD,hz];rfl
    have kQ:=kQ H2 (Same.refl _)
    simp only [Function.comp] at kQ
    rw [prodAt_take q cols i t1 qi c hqi hcc,ez] at kQ
    exact ⟨T2,_,rfl,SqT.of hT2',rfl,_,_,rfl,_,_,rfl,rfl,rfl,_,rfl,_,rfl,_,rfl,_,_,rfl,rfl,.inl ⟨by omega,by omega⟩,_,_,rfl,rfl,kQ⟩
   ·intro H2 s2 hD2'
    exact ⟨D2,_,_,_,_,rfl,(s1.trans sT).free hD2,(s1.trans sT).trans s2,hD2'⟩
  ·rintro σ H' ⟨D,v3,v4,v5,v6,rfl,hD0,s1,hD'⟩
   have e:min (q.map V.int).length (cas.map V.ref).length=q.length:=by simp;omega
   rw [e,List.take_length,hql,List.take_length] at hD'
   exact ⟨_,rfl,k D H' hD0 s1 hD'⟩
end
end Go
namespace Go
open PySem L2
def grown (i:Nat) (cols:List (List Int)) (x:List Int):List (List Int):=List.zipWith (fun (c:List Int) (z:Int)=>c ++ [z]) (cols.take i) (x.take i) ++ cols.drop i
theorem grown_step {i:Nat} {cols:List (List Int)} {x:List Int} {c:List Int} {z:Int} (hc:cols[i]? = some c) (hz:x[i]? = some z):grown (i + 1) cols x=(grown i cols x).set i (c ++ [z]):=by
 have h1:=(List.getElem?_eq_some_iff.mp hc).1
 have h2:=(List.getElem?_eq_some_iff.mp hz).1
 have hl:(cols.take i).length=(x.take i).length:=by rw [List.length_take,List.length_take];omega
 have hl2:(List.zipWith (fun (c:List Int) (z:Int)=>c ++ [z]) (cols.take i) (x.take i)).length=i:=by rw [List.length_zipWith,List.length_take,List.length_take];omega
 unfold grown
 rw [List.take_add_one,List.take_add_one,hc,hz]
 show List.zipWith _ (cols.take i ++ [c]) (x.take i ++ [z]) ++ _=_
 rw [List.zipWith_append hl,List.append_assoc,List.set_append_right _ _ (by omega),hl2,Nat.sub_self]
 congr 1
 have e:cols.drop i=c :: cols.drop (i + 1):=by
  rw [List.drop_eq_getElem_cons h1]
  congr 1
  have:=(List.getElem?_eq_some_iff.mp hc).2
  exact this
 rw [e]
 rfl
theorem grown_at {i:Nat} {cols:List (List Int)} {x:List Int} (hi:i<=x.length):(grown i cols x)[i]? = cols[i]?:=by
 unfold grown
 by_cases h:i<=cols.length
 ·have hl2:(List.zipWith (fun (c:List Int) (z:Int)=>c ++ [z]) (cols.take i) (x.take i)).length=i:=by rw [List.length_zipWith,List.length_take,List.length_take];omega
  rw [List.getElem?_append_right (by omega),hl2,Nat.sub_self,List.getElem?_drop]
  simp
 ·rw [List.getElem?_eq_none (by rw [List.length_append,List.length_zipWith,List.length_take,List.length_take,List.length_drop];omega),List.getElem?_eq_none (by omega)]
section
variable {P:Program} {w:World} {K:PySem.W.Frag} {mg:Str->Option Value} {base:Heap}
theorem keep_loop {De:Ends} {s0 s1 s2 v3 v4:Option V} {H:Hp} {kc ka:Addr} {ks:List Addr} {cols:List (List Int)} {x:List Int} (hk:H kc=some (.lst (ks.map V.ref))) (hx:H ka=some (.lst (x.map V.int))) (hc:ColsAt H cols ks) (nd:ks.Nodup) (n1:kc∉ks) (n2:ka∉ks)
  (hl:x.length=ks.length) (hsz:∀c∈cols,c.length < 100000)
  (hd:∀v3 v4 H',Off ks H H'->ColsAt H' (List.zipWith (fun (c:List Int) (z:Int)=>c ++ [z]) cols x) ks->De.nx [s0,s1,s2,v3,v4] H') :
  ∃W:Nat->Nat->L2.St->Hp->Prop,(∃m,W 0 m [s0,s1,s2,v3,v4] H)/\∀i m σ H,W i m σ H->
   ((Itz K kc ka).stop i H/\De.nx σ H)\/((Itz K kc ka).go i H/\∃N:L2.St->Hp->Prop,(∀σ' H',N σ' H'->∃m',m' < m/\W (i + 1) m' σ' H')/\∀x H',(Itz K kc ka).yld i H x H'->gTup K 2 (gCons (gName 3) (gCons (gName 4) gNil)) x σ H' fun σ2 H2=>
    tDrop (tBM K "list" rAppend (tVar 3) (tCons (tVar 4) tNil)) {De with nx:=N,ct:=N,bk:=De.nx} σ2 H2):=by
 have hcl:cols.length=ks.length:=Paired.length hc
 have hs:200000<=sizeLine:=by decide
 refine for_zip (K:=K) (xs:=ks.map V.ref) (us:=x.map V.int) (fun i σ H'=>∃v3 v4,σ=[s0,s1,s2,v3,v4]/\Off ks H H'/\ColsAt H' (grown i cols x) ks) ⟨v3,v4,rfl,Off.of (Same.refl _),hc⟩ (fun i σ H' ⟨_,_,_,o,_⟩=>⟨SqL.of (o _ _ n1 hk),SqL.of (o _ _ n2 hx)⟩) ?_ ?_
 ·rintro i u z T σ H' hu hz ⟨v3,v4,rfl,o,hC⟩ hT
  rw [List.getElem?_map] at hu hz
  obtain ⟨a,ha,rfl⟩:=Option.map_eq_some_iff.mp hu
  obtain ⟨n,hn,rfl⟩:=Option.map_eq_some_iff.mp hz
  have hi:i < ks.length:=(List.getElem?_eq_some_iff.mp ha).1
  obtain ⟨c,hcc⟩:∃c,cols[i]? = some c:=⟨cols[i],by simp [show i < cols.length by omega]⟩
  have hca:IntsAt H' a c:=paired_both hC (by rw [grown_at (by omega)];exact hcc) ha
  have haT:a≠T:=ne_of_none hca hT
  have hlen:=hsz c (List.mem_of_getElem? hcc)
  have hca2:(L2.upd H' T (.tup [V.ref a,V.int n])) a=some (.lst (c.map V.int)):=by rw [upd_ne haT];exact hca
  refine ⟨T,_,rfl,SqT.of upd_same,rfl,_,_,rfl,_,_,rfl,rfl,?_⟩
  refine ⟨_,rfl,.inl ⟨rfl,_,SqL.of hca2⟩,_,rfl,a,_,_,rfl,rfl,hca2,by rw [List.length_map];omega,_,_,rfl,?_,?_⟩
  ·have hak:a∈ks:=List.mem_of_getElem? ha
   intro b ob hb e
   rw [upd_ne (fun z=>hb (by rw [z];exact hak)),upd_ne (ne_of_none (o b ob hb e) hT)]
   exact o b ob hb e
  ·rw [grown_step hcc hn]
   have e:c.map V.int ++ [V.int n]=(c ++ [n]).map V.int:=by rw [List.map_append];rfl
   rw [e]
   exact ColsAt.grow (ColsAt.mono hC (Same.new hT)) nd ha
 ·rintro σ H' ⟨v3,v4,rfl,o,hC⟩
  refine hd v3 v4 H' o ?_
  have e:min (ks.map V.ref).length (x.map V.int).length=ks.length:=by simp;omega
  rw [e] at hC
  unfold grown at hC
  rw [List.take_of_length_le (by omega),List.take_of_length_le (by omega),List.drop_of_length_le (by omega),List.append_nil] at hC
  exact hC
theorem cols_snoc {α:Type} (d:Nat) (past:List (List Int)) (x:List Int) (hx:x.length=d):List.zipWith (fun (c:List Int) (z:Int)=>c ++ [z]) (colsOf d past) x=colsOf d (past ++ [x]):=by
 unfold colsOf
 refine List.ext_getElem? fun i=>?_
 rw [List.getElem?_zipWith,List.getElem?_map,List.getElem?_map]
 by_cases h:i < d
 ·have e1:(List.range d)[i]? = some i:=by simp [h]
  have e2:x[i]? = some (x.getD i 0):=by simp [show i < x.length by omega]
  rw [e1,e2]
  simp
 ·have e1:(List.range d)[i]? = none:=by simp;omega
  rw [e1]
  simp
def spKeep (CK:Addr):Sp:=fun vs H Q _=>∃(a xa ya:Addr) (d:Nat) (past:List Ql89.Pair) (ks vs':List Addr) (x y:List Int),vs=[.ref a,.ref xa,.ref ya]/\KeptAt CK H a d past ks vs'/\IntsAt H xa x/\IntsAt H ya y/\x.length=d/\y.length=d/\xa∉ks ++ vs'/\ya∉ks ++ vs'/\past.length < 100000/\
 ∀H',Off (ks ++ vs') H H'->KeptAt CK H' a d (past ++ [(x,y)]) ks vs'->Q .non H'
theorem scKeep:FnScope ["self","key","value","column","number"] ["self","key","value"] (defScope sKeep):=⟨rfl,rfl,rfl,by decide +kernel,rfl,by decide +kernel,by decide +kernel⟩
theorem cols_len {d:Nat} {past:List (List Int)} {c:List Int} (h:c∈colsOf d past):c.length=past.length:=by
 unfold colsOf at h
 obtain ⟨j,_,rfl⟩:=List.mem_map.mp h
 simp
theorem ok_keep {f CK:Addr} {fd:FuncData} (F:Fun K "keep" "Kept.keep" sKeep f fd) (T:Attrs K CK kepA) (hzip:mg "zip" = none):FnOk P w K mg base CX0 1 f fd ["self","key","value"] (spKeep CK):=by
 refine F.ok scKeep (fun vs H Q E h=>?_) (fun cdv A outer s H vs Q E hr h=>?_)
 ·obtain ⟨a,xa,ya,d,past,ks,vs',x,y,rfl,_⟩:=h
  rfl
 ·obtain ⟨a,xa,ya,d,past,ks,vs',x,y,rfl,hK,hx,hy,hxl,hyl,nx,ny,hpl,k⟩:=h
  refine ⟨_,pss_cons (ps_for PassesOwn.never rfl (pi_zip rfl hzip (pa_cons (pe_fld (pv 0) rfl) (pa_cons (pv 1) pa_nil))) (pg_tup (n:=2) rfl (pgs_cons (pg_name (i:=3) scKeep.nd rfl (Or.inl rfl)) (pgs_cons (pg_name (i:=4) scKeep.nd rfl (Or.inl rfl)) pgs_nil)))
    (pss_one (ps_expr (pe_bm PySem.F.plainAttrs_list PySem.F.slot_list_append PySem.F.type_list_append mt_append (pv 3) (pa_cons (pv 4) pa_nil)))))
   (pss_one (ps_for PassesOwn.never rfl (pi_zip rfl hzip (pa_cons (pe_fld (pv 0) rfl) (pa_cons (pv 2) pa_nil))) (pg_tup (n:=2) rfl (pgs_cons (pg_name (i:=3) scKeep.nd rfl (Or.inl rfl)) (pgs_cons (pg_name (i:=4) scKeep.nd rfl (Or.inl rfl)) pgs_nil)))
    (pss_one (ps_expr (pe_bm PySem.F.plainAttrs_list PySem.F.slot_list_append PySem.F.type_list_append mt_append (pv 3) (pa_cons (pv 4) pa_nil)))))),?_⟩
  obtain ⟨dx,fs,kc,vc,h1,h2,h3,h4,h4',h5,h6,h7,h8,h9⟩:=hK.ob
  have lk:ks.length=d:=by have:=Paired.length hK.ck;unfold colsOf at this;simpa using this.symm
  have lv:vs'.length=d:=by have:=Paired.length hK.cv;unfold colsOf at this;simpa using this.symm
  obtain ⟨ndk,ndv,ndd⟩:=List.nodup_append.mp hK.nd
  have app:∀{c:Addr} {l:List V},H c=some (.lst l)->c≠a:=fun hc z=>by rw [z,h1] at hc;cases hc
  refine ⟨_,rfl,a,CK,dx,fs,_,rfl,h1,T.cl,T.no "key_columns" (by decide +kernel),h2,_,rfl,kc,xa,_,_,rfl,SqL.of h6,SqL.of hx,?_⟩
  refine keep_loop h6 hx hK.ck ndk (fun z=>h8 (List.mem_append_left _ z)) (fun z=>nx (List.mem_append_left _ z)) (by omega) (fun c hc=>by rw [cols_len hc,List.length_map];exact hpl) fun v3 v4 H1 o1 c1=>?_
  have ha1:a∉ks:=fun z=>by
   obtain ⟨i,hi⟩:=List.getElem?_of_mem z
   obtain ⟨c,_,q⟩:=paired_get hK.ck hi
   exact app q rfl
  have ha2:a∉vs':=fun z=>by
   obtain ⟨i,hi⟩:=List.getElem?_of_mem z
   obtain ⟨c,_,q⟩:=paired_get hK.cv hi
   exact app q rfl
  have hvk:∀b∈vs',b∉ks:=fun b hb z=>ndd b z b hb rfl
  refine ⟨_,rfl,a,CK,dx,fs,_,rfl,o1 _ _ ha1 h1,T.cl,T.no "value_columns" (by decide +kernel),h3,_,rfl,vc,ya,_,_,rfl,SqL.of (o1 _ _ (fun z=>h9 (List.mem_append_left _ z)) h7),SqL.of (o1 _ _ (fun z=>ny (List.mem_append_left _ z)) hy),?_⟩
  refine keep_loop (o1 _ _ (fun z=>h9 (List.mem_append_left _ z)) h7) (o1 _ _ (fun z=>ny (List.mem_append_left _ z)) hy) (hK.cv.off o1 hvk) ndv (fun z=>h9 (List.mem_append_right _ z)) (fun z=>ny (List.mem_append_right _ z)) (by omega) (fun c hc=>by rw [cols_len hc,List.length_map];exact hpl) fun v5 v6 H2 o2 c2=>?_
  have o12:Off (ks ++ vs') H H2:=(o1.mono fun b hb=>List.mem_append_left _ hb).trans (o2.mono fun b hb=>List.mem_append_right _ hb)
  refine k H2 o12 ⟨⟨dx,fs,kc,vc,o12 _ _ (fun z=>(List.mem_append.mp z).elim ha1 ha2) h1,h2,h3,h4,h4',h5,o12 _ _ h8 h6,o12 _ _ h9 h7,h8,h9⟩,?_,?_,hK.nd⟩
  ·rw [cols_snoc (α:=Int) d _ x hxl] at c1
   rw [List.map_append]
   exact c1.off o2 fun b hb z=>ndd b hb b z rfl
  ·rw [cols_snoc (α:=Int) d _ y hyl] at c2
   rw [List.map_append]
   exact c2
end
end Go
namespace Go
open PySem L2
theorem cutV_nat (xs:List V) (p w:Nat) (h:p + w<=xs.length):cutV xs (some (p:Int)) (some ((p:Int) + (w:Int)))=(xs.drop p).take w:=by
 unfold cutV
 rw [<-Int.natCast_add,HT.sIx_nat,HT.sIx_nat,Nat.min_eq_left (show p<=xs.length by omega),Nat.min_eq_left h]
 congr 1
 omega
theorem paired_drop {α β:Type} {F:α->β->Prop}:∀{l₁:List α} {l₂:List β} (n:Nat),Paired F l₁ l₂->Paired F (l₁.drop n) (l₂.drop n)
 | _,_,0,r=>r
 | _,_,_ + 1,.nil=>.nil
 | _,_,n + 1,.cons _ t=>paired_drop n t
theorem paired_take {α β:Type} {F:α->β->Prop}:∀{l₁:List α} {l₂:List β} (n:Nat),Paired F l₁ l₂->Paired F (l₁.take n) (l₂.take n)
 | _,_,0,_=>.nil
 | _,_,_ + 1,.nil=>.nil
 | _,_,n + 1,.cons r t=>.cons r (paired_take n t)
theorem colsOf_part (W p d:Nat) (ps:List (List Int)) (h:p + d<=W):((colsOf W ps).drop p).take d=(List.range d).map fun (j:Nat)=>ps.map fun (x:List Int)=>x.getD (p + j) 0:=by
 unfold colsOf
 refine List.ext_getElem? fun i=>?_
 rw [List.getElem?_map]
 by_cases hi:i < d
 ·rw [List.getElem?_take_of_lt hi,List.getElem?_drop,List.getElem?_map]
  have e1:(List.range W)[p + i]? = some (p + i):=List.getElem?_range (by omega)
  have e2:(List.range d)[i]? = some i:=by simp [hi]
  rw [e1,e2]
  rfl
 ·have e2:(List.range d)[i]? = none:=by simp;omega
  rw [e2,List.getElem?_eq_none (by rw [List.length_take];omega)]
  rfl
theorem prod_dot (q:List Int) (p d t:Nat) (ps:List (List Int)) (x:List Int) (hx:ps[t]? = some x) (hl:p + d<=x.length) :
  prodAt q ((List.range d).map fun (j:Nat)=>ps.map fun (x:List Int)=>x.getD (p + j) 0) t=Ql89.dot q ((x.drop p).take d):=by
 unfold prodAt Ql89.dot
 rw [GM.total_eq,List.zipWith_map_right]
 have e:(x.drop p).take d=(List.range d).map fun (j:Nat)=>x.getD (p + j) 0:=by
  refine List.ext_getElem? fun i=>?_
  rw [List.getElem?_map]
  by_cases hi:i < d
  ·have e2:(List.range d)[i]? = some i:=by simp [hi]
   rw [List.getElem?_take_of_lt hi,List.getElem?_drop,e2]
   simp [show p + i < x.length by omega]
  ·have e2:(List.range d)[i]? = none:=by simp;omega
   rw [e2,List.getElem?_eq_none (by rw [List.length_take];omega)]
   rfl
 rw [e,List.zipWith_map_right]
 congr 1
 refine List.ext_getElem? fun i=>?_
 rw [List.getElem?_zipWith,List.getElem?_zipWith]
 cases q[i]? with
 | none=>rfl
 | some a=>
  cases (List.range d)[i]? with
  | none=>rfl
  | some j=>
   show some (a * (ps.map fun (x:List Int)=>x.getD (p + j) 0).getD t 0)=some (a * x.getD (p + j) 0)
   rw [List.getD_eq_getElem?_getD,List.getElem?_map,hx]
   rfl
theorem weights_le {fal:List Nat} {c:Nat} {a:List Int} (h:∀x∈fal,x<=65535):∀x∈Ql89.weights fal c a,x<=65535:=by
 intro x hx
 unfold Ql89.weights at hx
 obtain ⟨z,_,rfl⟩:=List.mem_map.mp hx
 rw [List.getD_eq_getElem?_getD]
 cases e:fal[min 255 ((Ql89.greatest a - z).toNat / 2 ^ c)]? with
 | none=>simp
 | some y=>exact h y (List.mem_of_getElem? e)
theorem sum_le_mul:∀(l:List Nat) (b:Nat),(∀x∈l,x<=b)->l.sum<=b * l.length
 | [],_,_=>by simp
 | a :: r,b,h=>by
  have:=sum_le_mul r b fun x hx=>h x (List.mem_cons_of_mem _ hx)
  have ha:=h a List.mem_cons_self
  rw [List.sum_cons,List.length_cons,Nat.mul_succ]
  omega
theorem mem_le_sum:∀{l:List Nat} {x:Nat},x∈l->x<=l.sum
 | a :: r,x,h=>by
  rw [List.sum_cons]
  rcases List.mem_cons.mp h with e | h
  ·omega
  ·have:=mem_le_sum h
   omega
theorem greatest_mem {l:List Int} (h:0 < l.length):Ql89.greatest l∈l:=by
 have key:∀(l:List Int) (a:Int),l.foldl (fun (m x:Int)=>if m < x then x else m) a=a\/l.foldl (fun (m x:Int)=>if m < x then x else m) a∈l:=by
  intro l
  induction l with
  | nil=>intro a;exact .inl rfl
  | cons x r ih=>
   intro a
   rw [List.foldl_cons]
   rcases ih (if a < x then x else a) with e | e
   ·rw [e]
    split
    ·exact .inr List.mem_cons_self
    ·exact .inl rfl
   ·exact .inr (List.mem_cons_of_mem _ e)
 unfold Ql89.greatest
 cases l with
 | nil=>simp at h
 | cons x r=>
  rcases key (x :: r) ((x :: r).headD 0) with e | e
  ·rw [e]
   exact List.mem_cons_self
  ·exact e
theorem weights_pos {fal:List Nat} {c:Nat} {a:List Int} (h:1<=fal.getD 0 0) (ha:0 < a.length):0 < (Ql89.weights fal c a).sum:=by
 have hm:=greatest_mem ha
 have:fal.getD 0 0∈Ql89.weights fal c a:=by
  unfold Ql89.weights
  refine List.mem_map.mpr ⟨_,hm,?_⟩
  rw [Int.sub_self]
  simp
 have:=mem_le_sum this
 omega
structure PastOk (past:List Ql89.Pair) (d:Nat):Prop where
 len:past.length<=256
 k:∀x∈past,x.1.length=d
 v:∀x∈past,x.2.length=d
section
variable {P:Program} {w:World} {K:PySem.W.Frag} {mg:Str->Option Value} {base:Heap} {CN CL CK:Addr}
def headOf (n:Ql89.Net) (c:Nat) (q:List Int) (past:List Ql89.Pair) (h:Nat):List Int:=
 (List.range (n.width / n.heads)).map fun (j:Nat)=>Ql89.mixed (Ql89.weights n.falling c (past.map fun (x:Ql89.Pair)=>Ql89.dot (Ql89.part (n.width / n.heads) h q) (Ql89.part (n.width / n.heads) h x.1))) (past.map fun (x:Ql89.Pair)=>x.2.getD (n.width / n.heads * h + j) 0)
theorem attend_eq (n:Ql89.Net) (c:Nat) (q:List Int) (past:List Ql89.Pair):Ql89.attend n c q past=(List.range n.heads).flatMap (headOf n c q past):=rfl
theorem flat_len (n:Ql89.Net) (c:Nat) (q:List Int) (past:List Ql89.Pair):∀i:Nat,((List.range i).flatMap (headOf n c q past)).length=i * (n.width / n.heads)
 | 0=>by simp
 | i + 1=>by
  rw [List.range_succ,List.flatMap_append,List.flatMap_singleton,List.length_append,flat_len n c q past i,Nat.succ_mul]
  unfold headOf
  simp
def spLB (K:PySem.W.Frag) (CN CL CK:Addr):Sp:=fun vs H Q _=>∃(na la ka qa:Addr) (n:Ql89.Net) (y:Ql89.Layer) (past:List Ql89.Pair) (ks vs':List Addr) (q:List Int),vs=[.ref na,.ref la,.ref ka,.ref qa]/\NetAt CN CL H n na/\NetOk n/\LayerAt CL H y la/\KeptAt CK H ka n.width past ks vs'/\PastOk past n.width/\0 < past.length/\
 SqL K H qa (q.map V.int)/\q.length=n.width/\Byte q/\∀D H',H D=none->Same H H'->IntsAt H' D (Ql89.attend n y.c q past)->Q (.ref D) H'
theorem scLB:FnScope ["net","layer","kept","query","size","seen","first","end","agreed","weights"] ["net","layer","kept","query"] (defScope sLook):=⟨rfl,rfl,rfl,by decide +kernel,rfl,by decide +kernel,by decide +kernel⟩
theorem rgC (W d h:Nat) (hd:1<=d) (hW:W=h * d) (h1:1<=W) (h2:W<=4096) (hh:h<=4096):RgC 0 (W:Int) (d:Int) h:=by
 have hdW:d<=W:=by
  rw [hW]
  refine Nat.le_mul_of_pos_left _ (Nat.pos_of_ne_zero fun z=>?_)
  rw [z] at hW
  omega
 have e:Builtin.Range.rangeSize 0 (W:Int) (d:Int)=(h:Int):=by
  unfold Builtin.Range.rangeSize
  rw [if_pos (by omega),if_pos (by omega)]
  have e1:((W:Int) - 0 - 1) / (d:Int)=(((W - 1) / d:Nat):Int):=by
   rw [Int.natCast_ediv]
   congr 1
   omega
  rw [e1]
  have:(W - 1) / d + 1=h:=by
   obtain ⟨g,rfl⟩:∃g,h=g + 1:=⟨h - 1,by
    have:h≠0:=fun z=>by rw [z] at hW;omega
    omega⟩
   have e2:W - 1=(d - 1) + g * d:=by rw [hW,Nat.add_mul];omega
   rw [e2,Nat.add_mul_div_right _ _ (by omega),Nat.div_eq_of_lt (by omega)]
   omega
  omega
 have f:∀i:Int,-1000000<=i->i<=1000000->Builtin.Range.rangeFitsLong i=true:=fun i h1 h2=>by
  unfold Builtin.Range.rangeFitsLong
  rw [Bool.and_eq_true,decide_eq_true_eq,decide_eq_true_eq]
  omega
 refine ⟨by omega,by omega,?_,e⟩
 unfold Builtin.Range.small
 rw [e,f 0 (by decide) (by decide),f (W:Int) (by omega) (by omega),f (d:Int) (by omega) (by omega),f (h:Int) (by omega) (by omega),if_pos (by omega),f ((W:Int) + ((d:Int) - 1)) (by omega) (by omega),Bool.or_true]
 rfl
theorem ok_LB {f fP fW fM:Addr} {fd fdP fdW fdM:FuncData} (F:Fun K "look_back" "look_back" sLook f fd) (TN:Attrs K CN netA) (TL:Attrs K CL layA) (TK:Attrs K CK kepA) (hrange:mg "range" = none)
  (Pr:GFn P w K mg base CX0 1 "products" fP fdP ["query","key_columns"] (spProd K)) (We:GFn P w K mg base CX0 1 "weigh" fW fdW ["falling","shift","numbers"] (spWeigh K)) (Mi:GFn P w K mg base CX0 2 "mixed" fM fdM ["weights","value_columns"] (spMix K)) :
  FnOk P w K mg base CX0 3 f fd ["net","layer","kept","query"] (spLB K CN CL CK):=by
 refine F.ok scLB (fun vs H Q E h=>?_) (fun cdv A outer s H vs Q E hr h=>?_)
 ·obtain ⟨na,la,ka,qa,n,y,past,ks,vs',q,rfl,_⟩:=h
  rfl
 ·obtain ⟨na,la,ka,qa,n,y,past,ks,vs',q,rfl,hN,nok,hL,hK,pok,hpos,hq,hql,hqb,k⟩:=h
  have hr1:Room 1 _:=hr.mono (by decide)
  refine ⟨_,pss_cons (ps_set (i:=4) scLB.nd rfl (Or.inl rfl) (pe_op op_fdiv (pe_fld (pv 0) rfl) (pe_fld (pv 0) rfl)))
   (pss_cons (ps_set (i:=5) scLB.nd rfl (Or.inl rfl) (pe_lst pa_nil))
   (pss_cons (ps_for PassesOwn.never rfl (pi_range3 rfl hrange (pa_cons pe_int (pa_cons (pe_fld (pv 0) rfl) (pa_cons (pv 4) pa_nil)))) (pg_name (i:=6) scLB.nd rfl (Or.inl rfl))
    (pss_cons (ps_set (i:=7) scLB.nd rfl (Or.inl rfl) (pe_op op_add (pv 6) (pv 4)))
    (pss_cons (ps_set (i:=8) scLB.nd rfl (Or.inl rfl) (pe_call Pr.ok hr1 rfl Pr.glo Pr.kp Pr.b .nil pass0 (pa_cons (pe_slice sl_list (pv 3) (po_some (pv 6)) (po_some (pv 7))) (pa_cons (pe_slice sl_list (pe_fld (pv 2) rfl) (po_some (pv 6)) (po_some (pv 7))) pa_nil))))
    (pss_cons (ps_set (i:=9) scLB.nd rfl (Or.inl rfl) (pe_call We.ok hr1 rfl We.glo We.kp We.b .nil pass0 (pa_cons (pe_fld (pv 0) rfl) (pa_cons (pe_fld (pv 1) rfl) (pa_cons (pv 8) pa_nil)))))
    (pss_one (ps_expr (pe_bm PySem.F.plainAttrs_list PySem.F.slot_list_extend PySem.F.type_list_extend mt_extend (pv 5) (pa_cons (pe_call Mi.ok hr rfl Mi.glo Mi.kp Mi.b .nil pass0 (pa_cons (pv 9) (pa_cons (pe_slice sl_list (pe_fld (pv 2) rfl) (po_some (pv 6)) (po_some (pv 7))) pa_nil))) pa_nil))))))))
   (pss_one (ps_ret (pv 5))))),?_⟩
  obtain ⟨dxn,fsn,hn1,hnf⟩:=hN
  obtain ⟨dxl,fsl,hl1,hlf⟩:=hL
  obtain ⟨dxk,fsk,kc,vc,k1,k2,k3,k4,k4',k5,k6,k7,k8,k9⟩:=hK.ob
  obtain ⟨fa,hfa1,hfa2⟩:=hnf.fal
  have lk:ks.length=n.width:=by have:=Paired.length hK.ck;unfold colsOf at this;simpa using this.symm
  have lv:vs'.length=n.width:=by have:=Paired.length hK.cv;unfold colsOf at this;simpa using this.symm
  obtain ⟨hw1,hw2⟩:=nok.width
  obtain ⟨hh1,hh2,hh3⟩:=nok.heads
  obtain ⟨hf1,hf2,hf3⟩:=nok.fal
  have hWd:n.width=n.heads * (n.width / n.heads):=by
   have:=Nat.div_add_mod n.width n.heads
   omega
  have hd1:1<=n.width / n.heads:=by
   refine Nat.pos_of_ne_zero fun z=>?_
   rw [z] at hWd
   omega
  have hdW:n.width / n.heads<=n.width:=Nat.div_le_self _ _
  have hs:200000<=sizeLine:=by decide
  have ew:(n.width:Int) / (n.heads:Int)=((n.width / n.heads:Nat):Int):=by rw [Int.natCast_ediv]
  generalize hd:n.width / n.heads=d at hWd hd1 hdW ew
  refine ⟨_,rfl,na,CN,dxn,fsn,_,rfl,hn1,TN.cl,TN.no "width" (by decide +kernel),hnf.width,_,rfl,na,CN,dxn,fsn,_,rfl,hn1,TN.cl,TN.no "heads" (by decide +kernel),hnf.heads,_,_,rfl,rfl,⟨by omega,by omega⟩,?_⟩
  refine ⟨Nat.zero_le _,fun D hD=>?_⟩
  have sD:Same H (upd H D (.lst [])):=Same.new hD
  refine ⟨_,rfl,na,CN,dxn,fsn,_,rfl,sD _ _ hn1,TN.cl,TN.no "width" (by decide +kernel),hnf.width,_,rfl,_,_,_,n.heads,rfl,?_,?_⟩
  ·show RgC 0 (n.width:Int) ((n.width:Int) / (n.heads:Int)) n.heads
   rw [ew]
   exact rgC _ _ _ hd1 hWd hw1 (by omega) (by omega)
  show ∃W,_
  refine for_rangeC (fun i σ H'=>∃v6 v7 v8 v9,σ=[some (.ref na),some (.ref la),some (.ref ka),some (.ref qa),some (.int ((n.width:Int) / (n.heads:Int))),some (.ref D),v6,v7,v8,v9]/\Same H H'/\IntsAt H' D ((List.range i).flatMap (headOf n y.c q past))) ?_ ?_ ?_
  ·exact ⟨none,none,none,none,rfl,sD,upd_same⟩
  ·rintro i σ H1 hi ⟨v6,v7,v8,v9,rfl,s1,hD1⟩
   have e0:(0:Int) + (i:Nat) * ((n.width:Int) / (n.heads:Int))=((d * i:Nat):Int):=by rw [ew,Int.zero_add,Nat.mul_comm,Int.natCast_mul]
   have hid:d * i + d<=n.width:=by
    have:d * (i + 1)<=d * n.heads:=Nat.mul_le_mul_left d hi
    rw [Nat.mul_succ,Nat.mul_comm d n.heads,<-hWd] at this
    exact this
   rw [e0]
   refine ⟨_,rfl,_,rfl,_,_,rfl,rfl,?_⟩
   rw [ew]
   -- the slices of the query and the keys
   refine ⟨_,rfl,_,rfl,_,rfl,_,rfl,_,rfl,qa,_,rfl,s1.seq hq,fun Dq hDq=>?_⟩
   have sq:Same H1 (upd H1 Dq (.lst (cutV (q.map V.int) (some ((d * i:Nat):Int)) (some (((d * i:Nat):Int) + (d:Int)))))):=Same.new hDq
   have s2:=s1.trans sq
   refine ⟨_,rfl,ka,CK,dxk,fsk,_,rfl,s2 _ _ k1,TK.cl,TK.no "key_columns" (by decide +kernel),k2,_,rfl,_,rfl,_,rfl,_,rfl,kc,_,rfl,SqL.of (s2 _ _ k6),fun Dk hDk=>?_⟩
   have eq:cutV (q.map V.int) (some ((d * i:Nat):Int)) (some (((d * i:Nat):Int) + (d:Int)))=(Ql89.part d i q).map V.int:=by
    rw [cutV_nat _ _ _ (by rw [List.length_map];omega),<-List.map_drop,<-List.map_take]
    rfl
   have ek:cutV (ks.map V.ref) (some ((d * i:Nat):Int)) (some (((d * i:Nat):Int) + (d:Int)))=((ks.drop (d * i)).take d).map V.ref:=by
    rw [cutV_nat _ _ _ (by rw [List.length_map];omega),<-List.map_drop,<-List.map_take]
   rw [eq] at sq s2 hDk |-
   rw [ek]
   have sk:Same (upd H1 Dq (.lst ((Ql89.part d i q).map V.int))) (upd (upd H1 Dq (.lst ((Ql89.part d i q).map V.int))) Dk (.lst (((ks.drop (d * i)).take d).map V.ref))):=Same.new hDk
   have s3:=s2.trans sk
   have hpl:(Ql89.part d i q).length=d:=by unfold Ql89.part;rw [List.length_take,List.length_drop];omega
   have ecol:((colsOf n.width (past.map (·.1))).drop (d * i)).take d=(List.range d).map fun (j:Nat)=>(past.map (·.1)).map fun (x:List Int)=>x.getD (d * i + j) 0:=colsOf_part _ _ _ _ hid
   refine ⟨Dq,Dk,Ql89.part d i q,((colsOf n.width (past.map (·.1))).drop (d * i)).take d,(ks.drop (d * i)).take d,past.length,rfl,SqL.of (sk _ _ upd_same),SqL.of upd_same,?_,?_,?_,?_,by have:=pok.len;omega,?_,fun Da Ha hDa sa hDa'=>?_⟩
   ·exact paired_take d (paired_drop (d * i) ((hK.ck.mono s3).cols))
   ·intro c hc
    rw [cols_len (List.mem_of_mem_drop (List.mem_of_mem_take hc)),List.length_map]
   ·rw [ecol];simp;omega
   ·rw [ecol,hpl];simp
   ·intro z hz
    have:=hqb z (List.mem_of_mem_drop (List.mem_of_mem_take hz))
    omega
   have s4:=s3.trans sa
   have eag:(List.range past.length).map (prodAt (Ql89.part d i q) (((colsOf n.width (past.map (·.1))).drop (d * i)).take d))=past.map fun (x:Ql89.Pair)=>Ql89.dot (Ql89.part d i q) (Ql89.part d i x.1):=by
    rw [ecol]
    refine List.ext_getElem? fun t=>?_
    rw [List.getElem?_map,List.getElem?_map]
    by_cases ht:t < past.length
    ·have e1:(List.range past.length)[t]? = some t:=List.getElem?_range ht
     have e2:past[t]? = some past[t]:=by simp [ht]
     rw [e1,e2]
     show some _=some _
     rw [prod_dot _ (d * i) d t (past.map (·.1)) past[t].1 (by rw [List.getElem?_map,e2];rfl) (by rw [pok.k _ (List.getElem_mem ht)];exact hid)]
     rfl
    ·rw [List.getElem?_eq_none (by simp;omega),List.getElem?_eq_none (by omega)]
     rfl
   rw [eag] at hDa'
   -- weights
   refine ⟨_,rfl,na,CN,dxn,fsn,_,rfl,s4 _ _ hn1,TN.cl,TN.no "falling" (by decide +kernel),hfa1,_,rfl,la,CL,dxl,fsl,_,rfl,s4 _ _ hl1,TL.cl,TL.no "fall_shift" (by decide +kernel),hlf.c,_,rfl,fa,Da,n.falling,y.c,_,rfl,SqL.of (s4 _ _ hfa2),hf1,SqL.of hDa',?_,?_,fun Dw Hw hDw sw hDw'=>?_⟩
   ·simpa using hpos
   ·have:=pok.len
    simp
    omega
   have s5:=s4.trans sw
   have hwl:=weights_le (c:=y.c) (a:=past.map fun (x:Ql89.Pair)=>Ql89.dot (Ql89.part d i q) (Ql89.part d i x.1)) hf3
   have hwp:=weights_pos (c:=y.c) (a:=past.map fun (x:Ql89.Pair)=>Ql89.dot (Ql89.part d i q) (Ql89.part d i x.1)) hf2 (by simpa using hpos)
   have hwn:(Ql89.weights n.falling y.c (past.map fun (x:Ql89.Pair)=>Ql89.dot (Ql89.part d i q) (Ql89.part d i x.1))).length=past.length:=by unfold Ql89.weights;simp
   generalize hws:Ql89.weights n.falling y.c (past.map fun (x:Ql89.Pair)=>Ql89.dot (Ql89.part d i q) (Ql89.part d i x.1))=ws at hDw' hwl hwp hwn
   have hsum:=sum_le_mul ws 65535 hwl
   -- seen.extend(mixed(..))
   have s15:=((sq.trans sk).trans sa).trans sw
   refine ⟨_,rfl,.inl ⟨rfl,_,SqL.of (s15 _ _ hD1)⟩,_,rfl,_,rfl,ka,CK,dxk,fsk,_,rfl,s5 _ _ k1,TK.cl,TK.no "value_columns" (by decide +kernel),k3,_,rfl,_,rfl,_,rfl,_,rfl,vc,_,rfl,SqL.of (s5 _ _ k7),fun Dv hDv=>?_⟩
   have ev:cutV (vs'.map V.ref) (some ((d * i:Nat):Int)) (some (((d * i:Nat):Int) + (d:Int)))=((vs'.drop (d * i)).take d).map V.ref:=by
    rw [cutV_nat _ _ _ (by rw [List.length_map];omega),<-List.map_drop,<-List.map_take]
   rw [ev]
   have sv:Same Hw (upd Hw Dv (.lst (((vs'.drop (d * i)).take d).map V.ref))):=Same.new hDv
   have s6:=s5.trans sv
   have ecv:((colsOf n.width (past.map (·.2))).drop (d * i)).take d=(List.range d).map fun (j:Nat)=>(past.map (·.2)).map fun (x:List Int)=>x.getD (d * i + j) 0:=colsOf_part _ _ _ _ hid
   refine ⟨Dw,Dv,ws,((colsOf n.width (past.map (·.2))).drop (d * i)).take d,(vs'.drop (d * i)).take d,rfl,SqL.of (sv _ _ hDw'),SqL.of upd_same,?_,?_,?_,?_,⟨hwp,?_⟩,fun Dm Hm hDm sm hDm'=>?_⟩
   ·exact paired_take d (paired_drop (d * i) ((hK.cv.mono s6).cols))
   ·rw [ecv];simp;omega
   ·have:=pok.len
    omega
   ·intro z hz
    have:=hwl z hz
    omega
   ·have:=pok.len
    have:65535 * ws.length<=65535 * 256:=Nat.mul_le_mul_left _ (by omega)
    omega
   have hDm1:Hm D=some (.lst (((List.range i).flatMap (headOf n y.c q past)).map V.int)):=(s15.trans (sv.trans sm)) _ _ hD1
   have ehd:(((colsOf n.width (past.map (·.2))).drop (d * i)).take d).map (Ql89.mixed ws)=headOf n y.c q past i:=by
    rw [ecv]
    unfold headOf
    rw [hd,hws,List.map_map]
    refine List.map_congr_left fun j _=>?_
    show Ql89.mixed ws ((past.map (·.2)).map fun (x:List Int)=>x.getD (d * i + j) 0)=_
    rw [List.map_map]
    rfl
   rw [ehd] at hDm'
   have hDDm:D≠Dm:=fun z=>by rw [<-z] at hDm;rw [(s15.trans sv) _ _ hD1] at hDm;cases hDm
   refine ⟨D,Dm,_,_,rfl,rfl,hDm1,hDm',?_,_,_,_,_,rfl,((s1.trans s15).trans (sv.trans sm)).updN hD,?_⟩
   ·have e1:((List.range i).flatMap (headOf n y.c q past)).length=i * (n.width / n.heads):=flat_len n y.c q past i
    have e2:(headOf n y.c q past i).length=n.width / n.heads:=by unfold headOf;simp
    rw [List.length_map,List.length_map,e1,e2,hd,Nat.mul_comm]
    omega
   ·show L2.upd Hm D _ D=_
    rw [upd_same,List.range_succ,List.flatMap_append,List.flatMap_singleton,List.map_append]
  ·rintro σ H1 ⟨v6,v7,v8,v9,rfl,s1,hD1⟩
   refine ⟨_,rfl,k D H1 hD s1 ?_⟩
   rw [attend_eq]
   exact hD1
end
end Go
namespace Go
open PySem L2
def rGetN (K:PySem.W.Frag):V->V->Hp->VK->Prop:=fun x y H Q=>∃(p:Addr) (xs:List V) (j:Nat) (v:V),x=.ref p/\y=.int (j:Int)/\SqL K H p xs/\xs[j]? = some v/\Q v H
theorem get_listN {X:Cx}:PGet X (rGetN X.K):=by
 intro pins s σ H o i ov iv Q I ro ri h
 obtain ⟨p,xs,j,v,rfl,rfl,hq,hx,q⟩:=h
 cases ro
 obtain ⟨t,rfl⟩:=ri
 obtain ⟨its,r,pl,hz⟩:=I.list hq
 obtain ⟨u,hu,ru⟩:=r.get hx
 have hl:=r.length
 have hn:=line63
 have hj:j < xs.length:=(List.getElem?_eq_some_iff.mp hx).1
 exact wpAny_getItem_list pl.isList (by omega) (by omega) (by rw [Int.toNat_natCast];simpa using hu) ⟨v,H,I,ru,q⟩
def addP (e:Nat) (r:List Int) (p:Int×Int):List Int:=r.set p.1.toNat (r.getD p.1.toNat 0 + p.2 * 2 ^ e)
theorem addP_len (e:Nat) (r:List Int) (p:Int×Int):(addP e r p).length=r.length:=by unfold addP;simp
theorem addP_fold (e:Nat):∀(ps:List (Int×Int)) (r:List Int),(ps.foldl (addP e) r).length=r.length
 | [],r=>rfl
 | p :: ps,r=>by rw [List.foldl_cons,addP_fold e ps,addP_len]
theorem addP_sparse (e:Nat):∀(x r pre:List Int),r.length=x.length->(GM.sparse pre.length x).foldl (addP e) (pre ++ r)=pre ++ List.zipWith (fun (a b:Int)=>a + b * 2 ^ e) r x
 | [],r,pre,h=>by
  have:r=[]:=List.length_eq_zero_iff.mp h
  rw [this]
  rfl
 | b :: x,[],pre,h=>by simp at h
 | b :: x,a :: r,pre,h=>by
  have hl:r.length=x.length:=by simpa using h
  rw [GM.sparse_cons,List.zipWith_cons_cons]
  have step:∀a':Int,(GM.sparse (pre.length + 1) x).foldl (addP e) (pre ++ a' :: r)=pre ++ a' :: List.zipWith (fun (a b:Int)=>a + b * 2 ^ e) r x:=fun a'=>by
   have:=addP_sparse e x r (pre ++ [a']) hl
   rw [List.length_append,List.append_assoc,List.append_assoc] at this
   exact this
  by_cases hb:b=0
  ·rw [if_pos hb,hb,step]
   congr 2
   omega
  ·rw [if_neg hb,List.foldl_cons]
   have:addP e (pre ++ a :: r) ((pre.length:Int),b)=pre ++ (a + b * 2 ^ e) :: r:=by
    unfold addP
    show (pre ++ a :: r).set ((pre.length:Int)).toNat ((pre ++ a :: r).getD ((pre.length:Int)).toNat 0 + b * 2 ^ e)=_
    rw [Int.toNat_natCast,List.set_append_right _ _ (Nat.le_refl _),Nat.sub_self]
    simp
   rw [this,step]
theorem addP_all (e:Nat) (x r:List Int) (h:r.length=x.length):(GM.sparse 0 x).foldl (addP e) r=List.zipWith (fun (a b:Int)=>a + b * 2 ^ e) r x:=addP_sparse e x r [] h
section
variable {P:Program} {w:World} {K:PySem.W.Frag} {mg:Str->Option Value} {base:Heap} {CN CL CK:Addr}
def spEnter (CN CL:Addr):Sp:=fun vs H Q _=>∃(na:Addr) (n:Ql89.Net) (wd p:Nat),vs=[.ref na,.int wd,.int p]/\NetAt CN CL H n na/\NetOk n/\wd < n.words/\p < n.places/\∀D H',H D=none->Same H H'->IntsAt H' D (Ql89.comes n p wd)->Q (.ref D) H'
theorem scEnter:FnScope ["net","word","place","r","column","number"] ["net","word","place"] (defScope sEnter):=⟨rfl,rfl,rfl,by decide +kernel,rfl,by decide +kernel,by decide +kernel⟩
theorem enter_loop {De:Ends} {s0 s1 s2 v4 v5:Option V} {H:Hp} {na ll D dx:Addr} {fs:List (Str×V)} {f:Str} {e:Nat} {x r:List Int} {g:TG} (hg:g=gTup K 2 (gCons (gName 4) (gCons (gName 5) gNil))) (hs0:s0=some (.ref na)) (hn:H na=some (.ins CN dx fs)) (TN:Cls K CN) (hno:NoAttr K CN f) (hf:fs.lookup f=some (.int (e:Int))) (he:e<=7)
  (hp:PairsAt H ll (GM.sparse 0 x)) (hD:H D=some (.lst (r.map V.int))) (hl:r.length=x.length) (hx:Byte x) (hlD:ll≠D)
  (hd:∀v4 v5 H',(∀b o,b≠D->H b=some o->H' b=some o)->IntsAt H' D (List.zipWith (fun (a b:Int)=>a + b * 2 ^ e) r x)->De.nx [s0,s1,s2,some (.ref D),v4,v5] H') :
  ∃W:Nat->Nat->L2.St->Hp->Prop,(∃m,W 0 m [s0,s1,s2,some (.ref D),v4,v5] H)/\∀i m σ H,W i m σ H->
   ((Itl K ll).stop i H/\De.nx σ H)\/((Itl K ll).go i H/\∃N:L2.St->Hp->Prop,(∀σ' H',N σ' H'->∃m',m' < m/\W (i + 1) m' σ' H')/\∀x H',(Itl K ll).yld i H x H'->g x σ H' fun σ2 H2=>
    tAugS (tVar 3) (tVar 4) (tOp (rI CPow fun i j=>.int (i * 2 ^ j.toNat)) (tVar 5) (tFld K (tVar 0) f)) (rGetN K) (ipI fun i j=>i + j) rSetL {De with nx:=N,ct:=N,bk:=De.nx} σ2 H2):=by
 subst hg hs0
 obtain ⟨as,hL,hP⟩:=hp
 have hal:(GM.sparse 0 x).length=as.length:=Paired.length hP
 have keep:∀{H':Hp},(∀b o,b≠D->H b=some o->H' b=some o)->Pairs H' (GM.sparse 0 x) as:=fun {H'} o=>Paired.mapP hP fun p a q=>o _ _ (ne_of q hD (by intro z;cases z)) q
 refine for_list (K:=K) (a:=ll) (xs:=as.map V.ref) (fun i σ H'=>∃v4 v5,σ=[some (.ref na),s1,s2,some (.ref D),v4,v5]/\(∀b o,b≠D->H b=some o->H' b=some o)/\IntsAt H' D (((GM.sparse 0 x).take i).foldl (addP e) r)) ⟨v4,v5,rfl,fun b o _ q=>q,hD⟩
  (fun i σ H' _ ⟨_,_,_,o,_⟩=>SqL.of (o _ _ hlD hL)) ?_ ?_
 ·rintro i u σ H' hu ⟨v4,v5,rfl,o,hD'⟩
  rw [List.getElem?_map] at hu
  obtain ⟨t,ht,rfl⟩:=Option.map_eq_some_iff.mp hu
  obtain ⟨p,hp,hpt⟩:=paired_get (keep o) ht
  obtain ⟨j,hj,e1,e2⟩:=GM.sparse_mem x 0 p (List.mem_of_getElem? hp)
  rw [Nat.zero_add] at e1
  have hz:=hx p.2 (List.mem_of_getElem? e2)
  have hlen:(((GM.sparse 0 x).take i).foldl (addP e) r).length=x.length:=by rw [addP_fold];exact hl
  generalize hR:((GM.sparse 0 x).take i).foldl (addP e) r=R at hD' hlen
  refine ⟨t,_,rfl,SqT.of hpt,rfl,_,_,rfl,_,_,rfl,rfl,?_⟩
  refine ⟨_,rfl,_,rfl,D,_,j,.int (R.getD j 0),rfl,by rw [e1],SqL.of hD',?_,_,rfl,_,rfl,na,CN,dx,fs,_,rfl,o _ _ (ne_of hn hD (by intro z;cases z)) hn,TN,hno,hf,_,_,rfl,rfl,⟨by omega,by omega,by omega⟩,_,_,rfl,rfl,D,_,_,j,rfl,rfl,hD',?_,_,_,rfl,?_,?_⟩
  ·rw [List.getElem?_map]
   simp [show j < R.length by omega]
  ·unfold ixN
   rw [List.length_map,e1,if_pos (by omega),if_pos (by omega),Int.toNat_natCast]
  ·intro b ob hb q
   rw [upd_ne hb]
   exact o b ob hb q
  ·show L2.upd H' D _ D=_
   rw [upd_same,List.take_add_one,hp,List.foldl_append,hR]
   show _=some (HO.lst ((addP e R p).map V.int))
   unfold addP
   rw [List.map_set,e1,Int.toNat_natCast,Int.toNat_natCast]
 ·rintro σ H' ⟨v4,v5,rfl,o,hD'⟩
  refine hd v4 v5 H' o ?_
  rw [List.length_map,<-hal,List.take_length,addP_all e x r hl] at hD'
  exact hD'
theorem ok_enter {f fH:Addr} {fd fdH:FuncData} (F:Fun K "enter" "enter" sEnter f fd) (TN:Attrs K CN netA) (hW:∃t,mg "WORD_TOP" = some (.int 32767 t)) (N:GFn P w K mg base CX0 1 "held" fH fdH ["number","top"] spHeld) :
  FnOk P w K mg base CX0 2 f fd ["net","word","place"] (spEnter CN CL):=by
 refine F.ok scEnter (fun vs H Q E h=>?_) (fun cdv A outer s H vs Q E hr h=>?_)
 ·obtain ⟨na,n,wd,p,rfl,_⟩:=h
  rfl
 ·obtain ⟨na,n,wd,p,rfl,⟨dx,fs,hn,nf⟩,nok,hwd,hp,k⟩:=h
  refine ⟨_,pss_cons (ps_set (i:=3) scEnter.nd rfl (Or.inl rfl) (pe_op op_rep (pe_lst (pa_cons pe_int pa_nil)) (pe_fld (pv 0) rfl)))
   (pss_cons (ps_for PassesOwn.never rfl (pi_list (pe_ix ix_list (pe_fld (pv 0) rfl) (pv 1) (fun _ _=>rfl))) (pg_tup (n:=2) rfl (pgs_cons (pg_name (i:=4) scEnter.nd rfl (Or.inl rfl)) (pgs_cons (pg_name (i:=5) scEnter.nd rfl (Or.inl rfl)) pgs_nil)))
    (pss_one (ps_augS (pv 3) (pv 4) get_listN (pe_op op_shl (pv 5) (pe_fld (pv 0) rfl)) ip_add set_list)))
   (pss_cons (ps_for PassesOwn.never rfl (pi_list (pe_ix ix_list (pe_fld (pv 0) rfl) (pv 2) (fun _ _=>rfl))) (pg_tup (n:=2) rfl (pgs_cons (pg_name (i:=4) scEnter.nd rfl (Or.inl rfl)) (pgs_cons (pg_name (i:=5) scEnter.nd rfl (Or.inl rfl)) pgs_nil)))
    (pss_one (ps_augS (pv 3) (pv 4) get_listN (pe_op op_shl (pv 5) (pe_fld (pv 0) rfl)) ip_add set_list)))
   (pss_one (ps_ret (pe_lc rfl scEnter.nd (pi_list (pv 3)) (blkOk_by (own:=[("number",5)]) (by kernel_rfl)) (fun _ _ _ _ _=>pg_name (i:=5) scEnter.nd rfl (Or.inl rfl)) (fun _ _ _ _ _=>pts_nil)
    (fun _ _ _ _ _=>pe_call N.ok hr rfl N.glo N.kp N.b .nil pass0 (pa_cons (pv 5) (pa_cons (pe_const hW rfl) pa_nil)))))))),?_⟩
  obtain ⟨hw1,hw2⟩:=nok.width
  obtain ⟨em1,em2⟩:=nok.emb
  obtain ⟨po1,po2⟩:=nok.pos
  obtain ⟨wl,hwl,was,hwL,hwP⟩:=nf.emb
  obtain ⟨pl,hpl,pas,hpL,hpP⟩:=nf.pos
  obtain ⟨x1,hx1⟩:∃x,n.emb.row[wd]? = some x:=⟨n.emb.row[wd]'(by omega),by simp [show wd < n.emb.row.length by omega]⟩
  obtain ⟨x2,hx2⟩:∃x,n.pos.row[p]? = some x:=⟨n.pos.row[p]'(by omega),by simp [show p < n.pos.row.length by omega]⟩
  obtain ⟨a1,ha1,hp1⟩:=paired_get' hwP hx1
  obtain ⟨a2,ha2,hp2⟩:=paired_get' hpP hx2
  obtain ⟨l1,b1⟩:=em2 x1 (List.mem_of_getElem? hx1)
  obtain ⟨l2,b2⟩:=po2 x2 (List.mem_of_getElem? hx2)
  have hs:200000<=sizeLine:=by decide
  refine ⟨by show 1<=sizeLine;decide,fun L hL=>?_⟩
  have sL:Same H (upd H L (.lst [V.int 0])):=Same.new hL
  refine ⟨_,rfl,na,CN,dx,fs,_,rfl,sL _ _ hn,TN.cl,TN.no "width" (by decide +kernel),nf.width,L,_,_,rfl,rfl,upd_same,by omega,by omega,?_,fun D hD=>?_⟩
  ·show 1 * ((n.width:Nat):Int).toNat<=sizeLine
   omega
  have e0:(List.replicate ((n.width:Nat):Int).toNat [V.int 0]).flatten=(List.replicate n.width (0:Int)).map V.int:=by
   rw [Int.toNat_natCast]
   induction n.width with
   | zero=>rfl
   | succ m ih=>rw [List.replicate_succ,List.flatten_cons,ih,List.replicate_succ];rfl
  rw [e0]
  have s2:Same H (upd (upd H L (.lst [V.int 0])) D (.lst ((List.replicate n.width (0:Int)).map V.int))):=sL.trans (Same.new hD)
  have hD0:H D=none:=sL.free hD
  generalize hH2:upd (upd H L (.lst [V.int 0])) D (.lst ((List.replicate n.width (0:Int)).map V.int))=H2 at s2
  have hD2:H2 D=some (.lst ((List.replicate n.width (0:Int)).map V.int)):=by rw [<-hH2];exact upd_same
  refine ⟨_,rfl,na,CN,dx,fs,_,rfl,s2 _ _ hn,TN.cl,TN.no "word_lines" (by decide +kernel),hwl,_,rfl,wl,_,_,_,rfl,rfl,SqL.of (s2 _ _ hwL),at_of (j:=wd) rfl (by rw [List.getElem?_map,ha1];rfl),a1,rfl,?_,?_⟩
  ·obtain ⟨as,q,_⟩:=hp1
   exact ⟨_,SqL.of (s2 _ _ q)⟩
  have ne1:∀{c:Addr} {o:HO},H c=some o->c≠D:=fun hc=>ne_of_none hc hD0
  refine enter_loop rfl rfl (s2 _ _ hn) TN.cl (TN.no "word_power" (by decide +kernel)) nf.e0 nok.e0 (hp1.mono s2) hD2 (by rw [List.length_replicate,l1]) b1 (by obtain ⟨as,q,_⟩:=hp1;exact ne1 q) fun v4 v5 H3 o3 hD3=>?_
  have s3:Same H H3:=fun b o e=>o3 b o (ne1 e) (s2 _ _ e)
  refine ⟨_,rfl,na,CN,dx,fs,_,rfl,s3 _ _ hn,TN.cl,TN.no "place_lines" (by decide +kernel),hpl,_,rfl,pl,_,_,_,rfl,rfl,SqL.of (s3 _ _ hpL),at_of (j:=p) rfl (by rw [List.getElem?_map,ha2];rfl),a2,rfl,?_,?_⟩
  ·obtain ⟨as,q,_⟩:=hp2
   exact ⟨_,SqL.of (s3 _ _ q)⟩
  refine enter_loop rfl rfl (s3 _ _ hn) TN.cl (TN.no "place_power" (by decide +kernel)) nf.e1 nok.e1 (hp2.mono s3) hD3 (by rw [List.length_zipWith,List.length_replicate,l1,l2];omega) b2 (by obtain ⟨as,q,_⟩:=hp2;exact ne1 q) fun v6 v7 H4 o4 hD4=>?_
  have s4:Same H H4:=fun b o e=>o4 b o (ne1 e) (s3 _ _ e)
  refine ⟨_,rfl,D,rfl,⟨_,SqL.of hD4⟩,fun D5 hD5=>?_⟩
  have ecm:(List.zipWith (fun (a b:Int)=>a + b * 2 ^ n.e1) (List.zipWith (fun (a b:Int)=>a + b * 2 ^ n.e0) (List.replicate n.width 0) x1) x2).map (Ql89.held (-32767 - 1) 32767)=Ql89.comes n p wd:=by
   unfold Ql89.comes
   rw [List.getD_eq_getElem?_getD,List.getD_eq_getElem?_getD,hx1,hx2]
   refine List.ext_getElem? fun i=>?_
   show _=(List.zipWith (fun (a b:Int)=>Ql89.word (a * ((2 ^ n.e0:Nat):Int) + b * ((2 ^ n.e1:Nat):Int))) x1 x2)[i]?
   rw [List.getElem?_map,List.getElem?_zipWith,List.getElem?_zipWith,List.getElem?_zipWith]
   by_cases hi:i < n.width
   ·have q1:x1[i]? = some (x1[i]'(by omega)):=by simp [show i < x1.length by omega]
    have q2:x2[i]? = some (x2[i]'(by omega)):=by simp [show i < x2.length by omega]
    have q3:(List.replicate n.width (0:Int))[i]? = some 0:=by simp [hi]
    rw [q1,q2,q3]
    show some (Ql89.held (-32767 - 1) 32767 (0 + x1[i]'(by omega) * 2 ^ n.e0 + x2[i]'(by omega) * 2 ^ n.e1))=some (Ql89.held (-32768) 32767 _)
    rw [Int.zero_add]
    simp
   ·have q1:x1[i]? = none:=List.getElem?_eq_none (by omega)
    have q2:x2[i]? = none:=List.getElem?_eq_none (by omega)
    rw [q1,q2]
    cases (List.replicate n.width (0:Int))[i]? <;> rfl
  generalize hR:List.zipWith (fun (a b:Int)=>a + b * 2 ^ n.e1) (List.zipWith (fun (a b:Int)=>a + b * 2 ^ n.e0) (List.replicate n.width 0) x1) x2=R at hD4 ecm
  have hRl:R.length<=256:=by rw [<-hR];simp;omega
  refine lc_listV (xs:=R.map V.int) ((Ql89.comes n p wd).map V.int) (by rw [<-ecm];simp) (by rw [List.length_map];omega) (SqL.of hD4) hD5 ?_ ?_
  ·intro i x y H' Q' hx hy s1 kQ
   rw [List.getElem?_map] at hx hy
   obtain ⟨z,hz,rfl⟩:=Option.map_eq_some_iff.mp hx
   rw [<-ecm,List.getElem?_map,hz] at hy
   cases hy
   exact ⟨rfl,_,rfl,_,_,rfl,by decide,kQ H' (Same.refl _)⟩
  ·intro H' s5 hD'
   exact k D5 H' (s4.free hD5) (s4.trans s5) hD'
end
end Go
namespace Go
open PySem L2
theorem thr_bytes (rows:List Ql89.Row) (x:List Int):thr 127 rows x=Ql89.bytes rows x:=rfl
theorem thr_words (rows:List Ql89.Row) (x:List Int):thr 32767 rows x=Ql89.words_ rows x:=rfl
theorem byte_in (a:Int):-128<=Ql89.byte a/\Ql89.byte a<=127:=by unfold Ql89.byte Ql89.held;repeat' split <;> omega
theorem word_in (a:Int):-32768<=Ql89.word a/\Ql89.word a<=32767:=by unfold Ql89.word Ql89.held;repeat' split <;> omega
theorem bytes_byte (rows:List Ql89.Row) (x:List Int):Byte (Ql89.bytes rows x):=fun z hz=>by
 unfold Ql89.bytes at hz
 obtain ⟨y,_,rfl⟩:=List.mem_map.mp hz
 exact byte_in _
theorem added_word (r x:List Int):Word (Ql89.added r x):=fun z hz=>by
 unfold Ql89.added at hz
 obtain ⟨a,_,b,_,rfl⟩:=mem_zipWith hz
 exact word_in _
theorem comes_word (n:Ql89.Net) (p w:Nat):Word (Ql89.comes n p w):=fun z hz=>by
 unfold Ql89.comes at hz
 obtain ⟨a,_,b,_,rfl⟩:=mem_zipWith hz
 exact word_in _
theorem level_len (g r:List Int):(Ql89.level g r).length=min r.length g.length:=by unfold Ql89.level;simp
theorem bytes_len (rows:List Ql89.Row) (x:List Int):(Ql89.bytes rows x).length=rows.length:=by unfold Ql89.bytes;simp
theorem words_len (rows:List Ql89.Row) (x:List Int):(Ql89.words_ rows x).length=rows.length:=by unfold Ql89.words_;simp
theorem added_len (r x:List Int):(Ql89.added r x).length=min r.length x.length:=by unfold Ql89.added;simp
theorem KeptAt.mono {CK a:Addr} {H H':Hp} {d:Nat} {past:List Ql89.Pair} {ks vs:List Addr} (h:KeptAt CK H a d past ks vs) (s:Same H H'):KeptAt CK H' a d past ks vs:=by
 obtain ⟨dx,fs,kc,vc,h1,h2,h3,h4,h4',h5,h6,h7,h8,h9⟩:=h.ob
 exact ⟨⟨dx,fs,kc,vc,s _ _ h1,h2,h3,h4,h4',h5,s _ _ h6,s _ _ h7,h8,h9⟩,h.ck.mono s,h.cv.mono s,h.nd⟩
theorem KeptAt.col {CK a:Addr} {H:Hp} {d:Nat} {past:List Ql89.Pair} {ks vs:List Addr} (h:KeptAt CK H a d past ks vs):∀b∈ks ++ vs,∃o,H b=some o:=fun b hb=>by
 rcases List.mem_append.mp hb with z | z
 ·obtain ⟨i,hi⟩:=List.getElem?_of_mem z
  obtain ⟨c,_,q⟩:=paired_get h.ck hi
  exact ⟨_,q⟩
 ·obtain ⟨i,hi⟩:=List.getElem?_of_mem z
  obtain ⟨c,_,q⟩:=paired_get h.cv hi
  exact ⟨_,q⟩
theorem KeptAt.newOff {CK a D:Addr} {H:Hp} {d:Nat} {past:List Ql89.Pair} {ks vs:List Addr} (h:KeptAt CK H a d past ks vs) (hD:H D=none):D∉ks ++ vs:=fun z=>by
 obtain ⟨o,q⟩:=h.col D z
 rw [q] at hD
 cases hD
def half (n:Ql89.Net) (y:Ql89.Layer) (past:List Ql89.Pair) (r:List Int):List Int:=Ql89.added r (Ql89.words_ y.out (Ql89.attend n y.c (Ql89.bytes y.query (Ql89.level y.g1 r)) (past ++ [(Ql89.bytes y.key (Ql89.level y.g1 r),Ql89.bytes y.value (Ql89.level y.g1 r))])))
theorem attend_len (n:Ql89.Net) (c:Nat) (q:List Int) (past:List Ql89.Pair):(Ql89.attend n c q past).length=n.heads * (n.width / n.heads):=by rw [attend_eq,flat_len]
section
variable {P:Program} {w:World} {K:PySem.W.Frag} {mg:Str->Option Value} {base:Heap} {CN CL CK:Addr}
def spPH (CN CL CK:Addr):Sp:=fun vs H Q _=>∃(na la ka ra:Addr) (n:Ql89.Net) (y:Ql89.Layer) (past:List Ql89.Pair) (ks vs':List Addr) (r:List Int) (H0:Hp),vs=[.ref na,.ref la,.ref ka,.ref ra]/\Same H0 H/\NetAt CN CL H0 n na/\NetOk n/\LayerAt CL H0 y la/\LayerOk y n.width n.inner/\KeptAt CK H ka n.width past ks vs'/\
 (∀a∈ks ++ vs',H0 a=none)/\PastOk past n.width/\past.length < 256/\IntsAt H ra r/\ra∉ks ++ vs'/\r.length=n.width/\Word r/\
 ∀D H',H D=none->Off (ks ++ vs') H H'->KeptAt CK H' ka n.width (past ++ [(Ql89.bytes y.key (Ql89.level y.g1 r),Ql89.bytes y.value (Ql89.level y.g1 r))]) ks vs'->IntsAt H' D (half n y past r)->Q (.ref D) H'
theorem scPH:FnScope ["net","layer","kept","r","level","query"] ["net","layer","kept","r"] (defScope sPHeads):=⟨rfl,rfl,rfl,by decide +kernel,rfl,by decide +kernel,by decide +kernel⟩
theorem ok_PH {f fLv fT fK fLB fJ:Addr} {fd fdLv fdT fdK fdLB fdJ:FuncData} (F:Fun K "pass_heads" "pass_heads" sPHeads f fd) (TL:Attrs K CL layA) (TK:Attrs K CK kepA) (hB:∃t,mg "BYTE_TOP" = some (.int 127 t)) (hW:∃t,mg "WORD_TOP" = some (.int 32767 t))
  (Lv:GFn P w K mg base CX0 2 "levelled" fLv fdLv ["r","gains"] (spLev K)) (T:GFn P w K mg base CX0 2 "through" fT fdT ["scaled","given","top"] (spThr K)) (Kp:MFn P w K mg base CX0 1 CK "keep" fK fdK ["self","key","value"] (spKeep CK))
  (LB:GFn P w K mg base CX0 3 "look_back" fLB fdLB ["net","layer","kept","query"] (spLB K CN CL CK)) (J:GFn P w K mg base CX0 2 "joined" fJ fdJ ["r","more"] (spJoin K)):FnOk P w K mg base CX0 4 f fd ["net","layer","kept","r"] (spPH CN CL CK):=by
 refine F.ok scPH (fun vs H Q E h=>?_) (fun cdv A outer s H vs Q E hr h=>?_)
 ·obtain ⟨na,la,ka,ra,n,y,past,ks,vs',r,H0,rfl,_⟩:=h
  rfl
 ·obtain ⟨na,la,ka,ra,n,y,past,ks,vs',r,H0,rfl,s0,hN,nok,hL,lok,hK,hfr,pok,hpl,hr0,hra,hrl,hrw,k⟩:=h
  have hr1:Room 1 _:=hr.mono (by decide)
  have hr2:Room 2 _:=hr.mono (by decide)
  refine ⟨_,pss_cons (ps_set (i:=4) scPH.nd rfl (Or.inl rfl) (pe_call Lv.ok hr2 rfl Lv.glo Lv.kp Lv.b .nil pass0 (pa_cons (pv 3) (pa_cons (pe_fld (pv 1) rfl) pa_nil))))
   (pss_cons (ps_set (i:=5) scPH.nd rfl (Or.inl rfl) (pe_call T.ok hr2 rfl T.glo T.kp T.b .nil pass0 (pa_cons (pe_fld (pv 1) rfl) (pa_cons (pv 4) (pa_cons (pe_const hB rfl) pa_nil)))))
   (pss_cons (ps_expr (pe_meth (pv 2) TK.cl Kp.m Kp.ok hr1 Kp.b .nil pass0 (pa_cons (pe_call T.ok hr2 rfl T.glo T.kp T.b .nil pass0 (pa_cons (pe_fld (pv 1) rfl) (pa_cons (pv 4) (pa_cons (pe_const hB rfl) pa_nil))))
    (pa_cons (pe_call T.ok hr2 rfl T.glo T.kp T.b .nil pass0 (pa_cons (pe_fld (pv 1) rfl) (pa_cons (pv 4) (pa_cons (pe_const hB rfl) pa_nil)))) pa_nil))))
   (pss_one (ps_ret (pe_call J.ok hr2 rfl J.glo J.kp J.b .nil pass0 (pa_cons (pv 3) (pa_cons (pe_call T.ok hr2 rfl T.glo T.kp T.b .nil pass0 (pa_cons (pe_fld (pv 1) rfl) (pa_cons
    (pe_call LB.ok hr rfl LB.glo LB.kp LB.b .nil pass0 (pa_cons (pv 0) (pa_cons (pv 1) (pa_cons (pv 2) (pa_cons (pv 5) pa_nil))))) (pa_cons (pe_const hW rfl) pa_nil)))) pa_nil))))))),?_⟩
  obtain ⟨hw1,hw2⟩:=nok.width
  obtain ⟨dxl,fsl,hl0,lf0⟩:=hL
  have hL:LayerAt CL H0 y la:=⟨dxl,fsl,hl0,lf0⟩
  have hs:200000<=sizeLine:=by decide
  obtain ⟨ag1,lg1,ig1⟩:=lf0.g1
  obtain ⟨aq,lq,iq⟩:=lf0.q
  obtain ⟨ak,lk,ik⟩:=lf0.k
  obtain ⟨av,lv,iv⟩:=lf0.v
  obtain ⟨ao,lo,io⟩:=lf0.o
  -- level=levelled(r,layer.first_gains)
  refine ⟨_,rfl,_,rfl,la,CL,dxl,fsl,_,rfl,s0 _ _ hl0,TL.cl,TL.no "first_gains" (by decide +kernel),lg1,ra,ag1,r,y.g1,rfl,SqL.of hr0,SqL.of (s0 _ _ ig1),⟨by omega,by omega⟩,hrw,fun D1 H1 hD1 s1 hD1'=>?_⟩
  have hxl:(Ql89.level y.g1 r).length=n.width:=by rw [level_len,lok.g1];omega
  generalize hx:Ql89.level y.g1 r=x at hD1' hxl k
  have s01:=s0.trans s1
  -- query=through(layer.query,level,BYTE_TOP)
  refine ⟨_,rfl,la,CL,dxl,fsl,_,rfl,s01 _ _ hl0,TL.cl,TL.no "query" (by decide +kernel),lq,_,rfl,aq,D1,127,y.query,x,rfl,iq.mono s01,SqL.of hD1',by rw [hxl];exact lok.q.2,by rw [lok.q.1];omega,by omega,by decide,fun D2 H2 hD2 s2 hD2'=>?_⟩
  rw [thr_bytes] at hD2'
  have s12:=s1.trans s2
  have s02:=s01.trans s2
  have hK2:=hK.mono s12
  obtain ⟨dxk,fsk,kc,vc,k1,k2,k3,k4,k4',k5,k6,k7,k8,k9⟩:=hK2.ob
  -- kept.keep(..)
  refine ⟨_,rfl,ka,dxk,fsk,rfl,k1,k4,_,rfl,la,CL,dxl,fsl,_,rfl,s02 _ _ hl0,TL.cl,TL.no "key" (by decide +kernel),lk,_,rfl,ak,D1,127,y.key,x,rfl,ik.mono s02,SqL.of (s2 _ _ hD1'),by rw [hxl];exact lok.k.2,by rw [lok.k.1];omega,by omega,by decide,fun D3 H3 hD3 s3 hD3'=>?_⟩
  rw [thr_bytes] at hD3'
  have s03:=s02.trans s3
  refine ⟨_,rfl,la,CL,dxl,fsl,_,rfl,s03 _ _ hl0,TL.cl,TL.no "value" (by decide +kernel),lv,_,rfl,av,D1,127,y.value,x,rfl,iv.mono s03,SqL.of (s3 _ _ (s2 _ _ hD1')),by rw [hxl];exact lok.v.2,by rw [lok.v.1];omega,by omega,by decide,fun D4 H4 hD4 s4 hD4'=>?_⟩
  rw [thr_bytes] at hD4'
  have s04:=s03.trans s4
  have s14:Same H H4:=(s12.trans s3).trans s4
  have hK3:=hK2.mono s3
  have hK4:=hK3.mono s4
  refine ⟨ka,D3,D4,n.width,past,ks,vs',Ql89.bytes y.key x,Ql89.bytes y.value x,rfl,hK4,s4 _ _ hD3',hD4',by rw [bytes_len,lok.k.1],by rw [bytes_len,lok.v.1],hK2.newOff hD3,hK3.newOff hD4,by omega,fun H5 o5 hK5=>?_⟩
  have s05:Same H0 H5:=Off.same s04 hfr o5
  have hqOff:D2∉ks ++ vs':=(hK.mono s1).newOff hD2
  have hq5:IntsAt H5 D2 (Ql89.bytes y.query x):=o5 _ _ hqOff (s4 _ _ (s3 _ _ hD2'))
  have hr5:IntsAt H5 ra r:=o5 _ _ hra (s14 _ _ hr0)
  -- joined(r,through(layer.out,look_back(..),WORD_TOP))
  refine ⟨_,rfl,_,rfl,la,CL,dxl,fsl,_,rfl,s05 _ _ hl0,TL.cl,TL.no "out" (by decide +kernel),lo,_,rfl,_,rfl,_,rfl,_,rfl,na,la,ka,D2,n,y,past ++ [(Ql89.bytes y.key x,Ql89.bytes y.value x)],ks,vs',Ql89.bytes y.query x,rfl,hN.mono s05,nok,hL.mono s05,hK5,⟨?_,?_,?_⟩,by simp,SqL.of hq5,by rw [bytes_len,lok.q.1],bytes_byte _ _,fun D6 H6 hD6 s6 hD6'=>?_⟩
  ·rw [List.length_append];show past.length + 1<=256;omega
  ·intro z hz
   rcases List.mem_append.mp hz with z' | z'
   ·exact pok.k z z'
   ·obtain rfl:z=(Ql89.bytes y.key x,Ql89.bytes y.value x):=by simpa using z'
    show (Ql89.bytes y.key x).length=_
    rw [bytes_len,lok.k.1]
  ·intro z hz
   rcases List.mem_append.mp hz with z' | z'
   ·exact pok.v z z'
   ·obtain rfl:z=(Ql89.bytes y.key x,Ql89.bytes y.value x):=by simpa using z'
    show (Ql89.bytes y.value x).length=_
    rw [bytes_len,lok.v.1]
  have hal:(Ql89.attend n y.c (Ql89.bytes y.query x) (past ++ [(Ql89.bytes y.key x,Ql89.bytes y.value x)])).length=n.width:=by
   rw [attend_len]
   have:=Nat.div_add_mod n.width n.heads
   have:=nok.heads.2.2
   omega
  have s06:=s05.trans s6
  refine ⟨ao,D6,32767,y.out,_,rfl,io.mono s06,SqL.of hD6',by rw [hal];exact lok.o.2,by rw [lok.o.1];omega,by omega,by decide,fun D7 H7 hD7 s7 hD7'=>?_⟩
  rw [thr_words] at hD7'
  have s57:=s6.trans s7
  refine ⟨ra,D7,r,_,rfl,SqL.of (s57 _ _ hr5),SqL.of hD7',by omega,fun D8 H8 hD8 s8 hD8'=>?_⟩
  have s58:=s57.trans s8
  refine k D8 H8 ?_ ((Off.of s14).trans (o5.trans (Off.of s58))) (hK5.mono s58) ?_
  ·exact s14.free (Off.free o5 hK5.col (s57.free hD8))
  ·unfold half
   rw [hx]
   exact hD8'
def rest (n:Ql89.Net) (y:Ql89.Layer) (r1:List Int):List Int:=Ql89.added r1 (Ql89.words_ y.down ((Ql89.bytes y.up (Ql89.level y.g2 r1)).map fun (a:Int)=>n.bend.getD (a + 128).toNat 0))
def spPI (K:PySem.W.Frag) (CN CL:Addr):Sp:=fun vs H Q _=>∃(na la ra:Addr) (n:Ql89.Net) (y:Ql89.Layer) (r:List Int),vs=[.ref na,.ref la,.ref ra]/\NetAt CN CL H n na/\NetOk n/\LayerAt CL H y la/\LayerOk y n.width n.inner/\IntsAt H ra r/\r.length=n.width/\Word r/\
 ∀D H',H D=none->Same H H'->IntsAt H' D (rest n y r)->Q (.ref D) H'
theorem scPI:FnScope ["net","layer","r","risen","bent","number"] ["net","layer","r"] (defScope sPInner):=⟨rfl,rfl,rfl,by decide +kernel,rfl,by decide +kernel,by decide +kernel⟩
theorem ok_PI {f fLv fT fJ:Addr} {fd fdLv fdT fdJ:FuncData} (F:Fun K "pass_inner" "pass_inner" sPInner f fd) (TN:Attrs K CN netA) (TL:Attrs K CL layA) (hB:∃t,mg "BYTE_TOP" = some (.int 127 t)) (hW:∃t,mg "WORD_TOP" = some (.int 32767 t))
  (Lv:GFn P w K mg base CX0 2 "levelled" fLv fdLv ["r","gains"] (spLev K)) (T:GFn P w K mg base CX0 2 "through" fT fdT ["scaled","given","top"] (spThr K)) (J:GFn P w K mg base CX0 2 "joined" fJ fdJ ["r","more"] (spJoin K)) :
  FnOk P w K mg base CX0 3 f fd ["net","layer","r"] (spPI K CN CL):=by
 refine F.ok scPI (fun vs H Q E h=>?_) (fun cdv A outer s H vs Q E hr h=>?_)
 ·obtain ⟨na,la,ra,n,y,r,rfl,_⟩:=h
  rfl
 ·obtain ⟨na,la,ra,n,y,r,rfl,hN,nok,hL,lok,hr0,hrl,hrw,k⟩:=h
  refine ⟨_,pss_cons (ps_set (i:=3) scPI.nd rfl (Or.inl rfl) (pe_call T.ok hr rfl T.glo T.kp T.b .nil pass0 (pa_cons (pe_fld (pv 1) rfl) (pa_cons (pe_call Lv.ok hr rfl Lv.glo Lv.kp Lv.b .nil pass0 (pa_cons (pv 2) (pa_cons (pe_fld (pv 1) rfl) pa_nil))) (pa_cons (pe_const hB rfl) pa_nil)))))
   (pss_cons (ps_setLc (i:=4) rfl scPI.nd rfl rfl (sw_true rfl rfl rfl (by decide +kernel)) (pi_list (pv 3)) (blkOk_by (own:=[("number",5)]) (by kernel_rfl)) (fun _ _ _ _ _=>pg_name (i:=5) scPI.nd rfl (Or.inl rfl)) (fun _ _ _ _ _=>pts_nil)
    (fun _ _ _ _ _=>pe_ix (ix_listK (K:=K) rfl) (pe_fldK (K:=K) rfl (pv 0) rfl) (pe_op op_add (pv 5) pe_int) (fun _ _=>rfl)))
   (pss_one (ps_ret (pe_call J.ok hr rfl J.glo J.kp J.b .nil pass0 (pa_cons (pv 2) (pa_cons (pe_call T.ok hr rfl T.glo T.kp T.b .nil pass0 (pa_cons (pe_fld (pv 1) rfl) (pa_cons (pv 4) (pa_cons (pe_const hW rfl) pa_nil)))) pa_nil)))))),?_⟩
  obtain ⟨hw1,hw2⟩:=nok.width
  obtain ⟨hi1,hi2⟩:=nok.inner
  obtain ⟨dxl,fsl,hl0,lf0⟩:=hL
  obtain ⟨dxn,fsn,hn0,nf0⟩:=hN
  have hs:200000<=sizeLine:=by decide
  obtain ⟨ag2,lg2,ig2⟩:=lf0.g2
  obtain ⟨au,lu,iu⟩:=lf0.u
  obtain ⟨ad,ld,id'⟩:=lf0.d
  obtain ⟨ab,lb,ib⟩:=nf0.bend
  refine ⟨_,rfl,la,CL,dxl,fsl,_,rfl,hl0,TL.cl,TL.no "up" (by decide +kernel),lu,_,rfl,_,rfl,la,CL,dxl,fsl,_,rfl,hl0,TL.cl,TL.no "second_gains" (by decide +kernel),lg2,ra,ag2,r,y.g2,rfl,SqL.of hr0,SqL.of ig2,⟨by omega,by omega⟩,hrw,fun D1 H1 hD1 s1 hD1'=>?_⟩
  have hxl:(Ql89.level y.g2 r).length=n.width:=by rw [level_len,lok.g2];omega
  refine ⟨au,D1,127,y.up,_,rfl,iu.mono s1,SqL.of hD1',by rw [hxl];exact lok.u.2,by rw [lok.u.1];omega,by omega,by decide,fun D2 H2 hD2 s2 hD2'=>?_⟩
  rw [thr_bytes] at hD2'
  have s12:=s1.trans s2
  have hbb:=bytes_byte y.up (Ql89.level y.g2 r)
  have hbl:(Ql89.bytes y.up (Ql89.level y.g2 r)).length=n.inner:=by rw [bytes_len,lok.u.1]
  generalize hu:Ql89.bytes y.up (Ql89.level y.g2 r)=u at hD2' hbb hbl
  refine ⟨_,rfl,D2,rfl,⟨_,SqL.of hD2'⟩,fun D3 hD3=>?_⟩
  refine lc_listV (xs:=u.map V.int) ((u.map fun (a:Int)=>n.bend.getD (a + 128).toNat 0).map V.int) (by simp) (by rw [List.length_map];omega) (SqL.of hD2') hD3 ?_ ?_
  ·intro i x yv H' Q' hx hy s3 kQ
   rw [List.getElem?_map] at hx
   obtain ⟨z,hz,rfl⟩:=Option.map_eq_some_iff.mp hx
   rw [List.map_map,List.getElem?_map,hz] at hy
   cases hy
   have hzb:=hbb z (List.mem_of_getElem? hz)
   exact ⟨rfl,_,rfl,na,CN,dxn,fsn,_,rfl,(s12.trans s3) _ _ hn0,TN.cl,TN.no "bend" (by decide +kernel),lb,_,rfl,_,_,rfl,rfl,ab,_,_,_,rfl,rfl,SqL.of ((s12.trans s3) _ _ ib),ints_at (j:=(z + 128).toNat) (by rw [nok.bend.1];omega) (by show z + 128=_;omega),kQ H' (Same.refl _)⟩
  intro H3 s3 hD3'
  have s13:=s12.trans s3
  refine ⟨_,rfl,_,rfl,la,CL,dxl,fsl,_,rfl,s13 _ _ hl0,TL.cl,TL.no "down" (by decide +kernel),ld,_,rfl,ad,D3,32767,y.down,u.map fun (a:Int)=>n.bend.getD (a + 128).toNat 0,rfl,id'.mono s13,SqL.of hD3',by rw [List.length_map,hbl];exact lok.dn.2,by rw [lok.dn.1];omega,by rw [List.length_map];omega,by decide,fun D4 H4 hD4 s4 hD4'=>?_⟩
  rw [thr_words] at hD4'
  have s14:=s13.trans s4
  refine ⟨ra,D4,r,_,rfl,SqL.of (s14 _ _ hr0),SqL.of hD4',by omega,fun D5 H5 hD5 s5 hD5'=>?_⟩
  refine k D5 H5 (s14.free hD5) (s14.trans s5) ?_
  unfold rest
  rw [hu]
  exact hD5'
end
end Go
namespace Go
open PySem L2
abbrev Cols:=List Addr×List Addr
def colsIn (c:Cols):List Addr:=c.1 ++ c.2
def allC (cs:List Cols):List Addr:=cs.flatMap colsIn
theorem in_allC {cs:List Cols} {i:Nat} {c:Cols} (h:cs[i]? = some c) {b:Addr} (hb:b∈colsIn c):b∈allC cs:=List.mem_flatMap.mpr ⟨c,List.mem_of_getElem? h,hb⟩
theorem allC_disj:∀{cs:List Cols} {i j:Nat} {c c':Cols},(allC cs).Nodup->cs[i]? = some c->cs[j]? = some c'->i≠j->∀b∈colsIn c',b∉colsIn c
 | [],_,_,_,_,_,h,_,_,_,_=>by simp at h
 | x :: cs,0,0,_,_,_,_,_,hne,_,_=>absurd rfl hne
 | x :: cs,0,j + 1,c,c',nd,h1,h2,_,b,hb=>by
  have e:x=c:=by simpa using h1
  subst e
  have h2:cs[j]? = some c':=by simpa using h2
  unfold allC at nd
  rw [List.flatMap_cons] at nd
  obtain ⟨_,_,dd⟩:=List.nodup_append.mp nd
  exact fun z=>dd b z b (in_allC h2 hb) rfl
 | x :: cs,i + 1,0,c,c',nd,h1,h2,_,b,hb=>by
  have e:x=c':=by simpa using h2
  subst e
  have h1:cs[i]? = some c:=by simpa using h1
  unfold allC at nd
  rw [List.flatMap_cons] at nd
  obtain ⟨_,_,dd⟩:=List.nodup_append.mp nd
  exact fun z=>dd b hb b (in_allC h1 z) rfl
 | x :: cs,i + 1,j + 1,c,c',nd,h1,h2,hne,b,hb=>by
  unfold allC at nd
  rw [List.flatMap_cons] at nd
  exact allC_disj (List.nodup_append.mp nd).2.1 (by simpa using h1) (by simpa using h2) (by omega) b hb
structure KeptAll (CK:Addr) (H:Hp) (kas:List Addr) (d:Nat) (pasts:List (List Ql89.Pair)) (cs:List Cols):Prop where
 l1:kas.length=pasts.length
 l2:cs.length=pasts.length
 at_:∀(i:Nat) ka past c,kas[i]? = some ka->pasts[i]? = some past->cs[i]? = some c->KeptAt CK H ka d past c.1 c.2
 nd:(allC cs).Nodup
theorem KeptAll.mono {CK:Addr} {H H':Hp} {kas:List Addr} {d:Nat} {pasts:List (List Ql89.Pair)} {cs:List Cols} (h:KeptAll CK H kas d pasts cs) (s:Same H H'):KeptAll CK H' kas d pasts cs:=
 ⟨h.l1,h.l2,fun i ka past c h1 h2 h3=>(h.at_ i ka past c h1 h2 h3).mono s,h.nd⟩
theorem KeptAll.col {CK:Addr} {H:Hp} {kas:List Addr} {d:Nat} {pasts:List (List Ql89.Pair)} {cs:List Cols} (h:KeptAll CK H kas d pasts cs):∀b∈allC cs,∃o,H b=some o:=fun b hb=>by
 obtain ⟨c,hc,hbc⟩:=List.mem_flatMap.mp hb
 obtain ⟨i,hi⟩:=List.getElem?_of_mem hc
 have li:i < cs.length:=(List.getElem?_eq_some_iff.mp hi).1
 have l1:=h.l1
 have l2:=h.l2
 exact (h.at_ i (kas[i]'(by omega)) (pasts[i]'(by omega)) c (by simp [show i < kas.length by omega]) (by simp [show i < pasts.length by omega]) hi).col b hbc
theorem KeptAll.turn {CK:Addr} {H H':Hp} {kas:List Addr} {d:Nat} {pasts:List (List Ql89.Pair)} {cs:List Cols} {i:Nat} {ka:Addr} {past past':List Ql89.Pair} {c:Cols} (h:KeptAll CK H kas d pasts cs) (hd:0 < d) (h1:kas[i]? = some ka) (h2:pasts[i]? = some past) (h3:cs[i]? = some c)
  (o:Off (colsIn c) H H') (hn:KeptAt CK H' ka d past' c.1 c.2):KeptAll CK H' kas d (pasts.set i past') cs:=by
 have hK:=h.at_ i ka past c h1 h2 h3
 refine ⟨by simpa using h.l1,by simpa using h.l2,fun j kb pb cb q1 q2 q3=>?_,h.nd⟩
 by_cases hj:j=i
 ·subst hj
  rw [h1] at q1
  rw [h3] at q3
  cases q1
  cases q3
  have hlt:j < pasts.length:=(List.getElem?_eq_some_iff.mp h2).1
  rw [List.getElem?_set_self hlt] at q2
  cases q2
  exact hn
 ·rw [List.getElem?_set_ne (Ne.symm hj)] at q2
  refine (h.at_ j kb pb cb q1 q2 q3).off o (fun b hb=>?_) (allC_disj h.nd h3 q3 (Ne.symm hj)) hd
  rcases List.mem_append.mp hb with z | z
  ·obtain ⟨k,hk⟩:=List.getElem?_of_mem z
   obtain ⟨is,_,q⟩:=paired_get hK.ck hk
   exact ⟨_,q,is,rfl⟩
  ·obtain ⟨k,hk⟩:=List.getElem?_of_mem z
   obtain ⟨is,_,q⟩:=paired_get hK.cv hk
   exact ⟨_,q,is,rfl⟩
theorem layers_cons (n:Ql89.Net) (y:Ql89.Layer) (l:List Ql89.Layer) (p:List Ql89.Pair) (ps:List (List Ql89.Pair)) (r:List Int):Ql89.layers n (y :: l) (p :: ps) r =
  ((p ++ [(Ql89.bytes y.key (Ql89.level y.g1 r),Ql89.bytes y.value (Ql89.level y.g1 r))]) :: (Ql89.layers n l ps (rest n y (half n y p r))).1,(Ql89.layers n l ps (rest n y (half n y p r))).2):=rfl
theorem drop_at {α:Type} {l:List α} {i:Nat} {x:α} (h:l[i]? = some x):l.drop i=x :: l.drop (i + 1):=by
 have h1:=(List.getElem?_eq_some_iff.mp h).1
 rw [List.drop_eq_getElem_cons h1]
 congr 1
 exact (List.getElem?_eq_some_iff.mp h).2
section
variable {P:Program} {w:World} {K:PySem.W.Frag} {mg:Str->Option Value} {base:Heap} {CN CL CK:Addr}
def spPW (CN CL CK:Addr):Sp:=fun vs H Q _=>∃(na kl:Addr) (n:Ql89.Net) (wd p:Nat) (kas:List Addr) (pasts:List (List Ql89.Pair)) (cs:List Cols) (H0:Hp),vs=[.ref na,.ref kl,.int wd,.int p]/\Same H0 H/\NetAt CN CL H0 n na/\NetOk n/\wd < n.words/\p < n.places/\
 H kl=some (.lst (kas.map V.ref))/\KeptAll CK H kas n.width pasts cs/\pasts.length=n.layers.length/\(∀a∈allC cs,H0 a=none)/\kl∉allC cs/\(∀past∈pasts,PastOk past n.width/\past.length < 256)/\
 ∀D H',H D=none->Off (allC cs) H H'->KeptAll CK H' kas n.width (Ql89.layers n n.layers pasts (Ql89.comes n p wd)).1 cs->IntsAt H' D (Ql89.level n.g (Ql89.layers n n.layers pasts (Ql89.comes n p wd)).2)->Q (.ref D) H'
theorem scPW:FnScope ["net","kept_layers","word","place","r","layer","kept"] ["net","kept_layers","word","place"] (defScope sPWord):=⟨rfl,rfl,rfl,by decide +kernel,rfl,by decide +kernel,by decide +kernel⟩
theorem ok_PW {f fE fH fI fLv:Addr} {fd fdE fdH fdI fdLv:FuncData} (F:Fun K "pass_word" "pass_word" sPWord f fd) (TN:Attrs K CN netA) (hzip:mg "zip" = none)
  (En:GFn P w K mg base CX0 2 "enter" fE fdE ["net","word","place"] (spEnter CN CL)) (PH:GFn P w K mg base CX0 4 "pass_heads" fH fdH ["net","layer","kept","r"] (spPH CN CL CK)) (PI':GFn P w K mg base CX0 3 "pass_inner" fI fdI ["net","layer","r"] (spPI K CN CL))
  (Lv:GFn P w K mg base CX0 2 "levelled" fLv fdLv ["r","gains"] (spLev K)):FnOk P w K mg base CX0 5 f fd ["net","kept_layers","word","place"] (spPW CN CL CK):=by
 refine F.ok scPW (fun vs H Q E h=>?_) (fun cdv A outer s H vs Q E hr h=>?_)
 ·obtain ⟨na,kl,n,wd,p,kas,pasts,cs,H0,rfl,_⟩:=h
  rfl
 ·obtain ⟨na,kl,n,wd,p,kas,pasts,cs,H0,rfl,s0,hN,nok,hwd,hp,hkl,hKA,hpl,hfr,hklo,hpo,k⟩:=h
  have hr2:Room 2 _:=hr.mono (by decide)
  have hr3:Room 3 _:=hr.mono (by decide)
  refine ⟨_,pss_cons (ps_set (i:=4) scPW.nd rfl (Or.inl rfl) (pe_call En.ok hr2 rfl En.glo En.kp En.b .nil pass0 (pa_cons (pv 0) (pa_cons (pv 2) (pa_cons (pv 3) pa_nil)))))
   (pss_cons (ps_for PassesOwn.never rfl (pi_zip rfl hzip (pa_cons (pe_fld (pv 0) rfl) (pa_cons (pv 1) pa_nil))) (pg_tup (n:=2) rfl (pgs_cons (pg_name (i:=5) scPW.nd rfl (Or.inl rfl)) (pgs_cons (pg_name (i:=6) scPW.nd rfl (Or.inl rfl)) pgs_nil)))
    (pss_cons (ps_set (i:=4) scPW.nd rfl (Or.inl rfl) (pe_call PH.ok hr rfl PH.glo PH.kp PH.b .nil pass0 (pa_cons (pv 0) (pa_cons (pv 5) (pa_cons (pv 6) (pa_cons (pv 4) pa_nil))))))
    (pss_one (ps_set (i:=4) scPW.nd rfl (Or.inl rfl) (pe_call PI'.ok hr3 rfl PI'.glo PI'.kp PI'.b .nil pass0 (pa_cons (pv 0) (pa_cons (pv 5) (pa_cons (pv 4) pa_nil))))))))
   (pss_one (ps_ret (pe_call Lv.ok hr2 rfl Lv.glo Lv.kp Lv.b .nil pass0 (pa_cons (pv 4) (pa_cons (pe_fld (pv 0) rfl) pa_nil)))))),?_⟩
  obtain ⟨hw1,hw2⟩:=nok.width
  obtain ⟨dxn,fsn,hn0,nf0⟩:=hN
  have hN:NetAt CN CL H0 n na:=⟨dxn,fsn,hn0,nf0⟩
  obtain ⟨la0,las,hla,hlas,hlay⟩:=nf0.lay
  obtain ⟨ag,lg,ig⟩:=nf0.g
  have hlal:n.layers.length=las.length:=Paired.length hlay
  have l1:=hKA.l1
  have l2:=hKA.l2
  refine ⟨_,rfl,_,rfl,_,rfl,na,n,wd,p,rfl,hN.mono s0,nok,hwd,hp,fun D1 H1 hD1 s1 hD1'=>?_⟩
  have s01:=s0.trans s1
  have hcl:(Ql89.comes n p wd).length=n.width:=by
   unfold Ql89.comes
   rw [List.length_zipWith,List.getD_eq_getElem?_getD,List.getD_eq_getElem?_getD]
   obtain ⟨em1,em2⟩:=nok.emb
   obtain ⟨po1,po2⟩:=nok.pos
   have q1:n.emb.row[wd]? = some (n.emb.row[wd]'(by omega)):=by simp [show wd < n.emb.row.length by omega]
   have q2:n.pos.row[p]? = some (n.pos.row[p]'(by omega)):=by simp [show p < n.pos.row.length by omega]
   rw [q1,q2]
   show min (n.emb.row[wd]'(by omega)).length (n.pos.row[p]'(by omega)).length=_
   rw [(em2 _ (List.getElem_mem _)).1,(po2 _ (List.getElem_mem _)).1]
   omega
  have hcw:=comes_word n p wd
  generalize hr0:Ql89.comes n p wd=r0 at hD1' hcl hcw k
  refine ⟨_,rfl,na,CN,dxn,fsn,_,rfl,s01 _ _ hn0,TN.cl,TN.no "layers" (by decide +kernel),hla,_,rfl,la0,kl,_,_,rfl,SqL.of (s01 _ _ hlas),SqL.of (s1 _ _ hkl),?_⟩
  refine for_zip (K:=K) (xs:=las.map V.ref) (us:=kas.map V.ref) (fun i σ H'=>∃(D:Addr) (r:List Int) (done:List (List Ql89.Pair)) (v5 v6:Option V),σ=[some (.ref na),some (.ref kl),some (.int wd),some (.int p),some (.ref D),v5,v6]/\H D=none/\Off (allC cs) H H'/\done.length=i/\KeptAll CK H' kas n.width (done ++ pasts.drop i) cs/\
   IntsAt H' D r/\D∉allC cs/\r.length=n.width/\Word r/\Ql89.layers n n.layers pasts r0=(done ++ (Ql89.layers n (n.layers.drop i) (pasts.drop i) r).1,(Ql89.layers n (n.layers.drop i) (pasts.drop i) r).2)) ?_ ?_ ?_ ?_
  ·refine ⟨D1,r0,[],none,none,rfl,hD1,Off.of s1,rfl,hKA.mono s1,hD1',fun z=>?_,hcl,hcw,rfl⟩
   obtain ⟨o,q⟩:=hKA.col D1 z
   rw [q] at hD1
   cases hD1
  ·rintro i σ H' ⟨D,r,done,v5,v6,rfl,_,o,_⟩
   exact ⟨SqL.of ((Off.same s0 hfr o) _ _ hlas),SqL.of (o _ _ hklo hkl)⟩
  ·rintro i u v T σ H' hu hv ⟨D,r,done,v5,v6,rfl,hD0,o,hdl,hKA',hD',hDo,hrl,hrw,hlr⟩ hT
   rw [List.getElem?_map] at hu hv
   obtain ⟨la,hla',rfl⟩:=Option.map_eq_some_iff.mp hu
   obtain ⟨ka,hka,rfl⟩:=Option.map_eq_some_iff.mp hv
   obtain ⟨y,hy,hya⟩:=paired_get hlay hla'
   have hi:i < kas.length:=(List.getElem?_eq_some_iff.mp hka).1
   obtain ⟨past,hpast⟩:∃q,pasts[i]? = some q:=⟨pasts[i]'(by omega),by simp [show i < pasts.length by omega]⟩
   obtain ⟨c,hc⟩:∃q,cs[i]? = some q:=⟨cs[i]'(by omega),by simp [show i < cs.length by omega]⟩
   have hpi:(done ++ pasts.drop i)[i]? = some past:=by
    rw [List.getElem?_append_right (by omega),hdl,Nat.sub_self,List.getElem?_drop]
    simpa using hpast
   have lok:=nok.lay y (List.mem_of_getElem? hy)
   obtain ⟨pok,pl⟩:=hpo past (List.mem_of_getElem? hpast)
   have sT:Same H' (upd H' T (.tup [V.ref la,V.ref ka])):=Same.new hT
   have s0':Same H0 H':=Off.same s0 hfr o
   have hKi:=(hKA'.mono sT).at_ i ka past c hka hpi hc
   refine ⟨T,_,rfl,SqT.of upd_same,rfl,_,_,rfl,_,_,rfl,rfl,?_⟩
   refine ⟨_,rfl,_,rfl,_,rfl,_,rfl,na,la,ka,D,n,y,past,c.1,c.2,r,H0,rfl,s0'.trans sT,hN,nok,hya,lok,hKi,(fun a ha=>hfr a (in_allC hc ha)),pok,pl,sT _ _ hD',(fun z=>hDo (in_allC hc z)),hrl,hrw,fun D2 H2 hD2 o2 hK2 hD2'=>?_⟩
   have o2':Off (allC cs) H' H2:=(Off.of sT).trans (o2.mono fun b hb=>in_allC hc hb)
   have s02:Same H0 H2:=Off.same s0 hfr (o.trans o2')
   have hKA2:=(hKA'.mono sT).turn (by omega) hka hpi hc o2 hK2
   have hhl:(half n y past r).length=n.width:=by unfold half;rw [added_len,words_len,lok.o.1];omega
   refine ⟨_,rfl,_,rfl,_,rfl,na,la,D2,n,y,half n y past r,rfl,hN.mono s02,nok,hya.mono s02,lok,hD2',hhl,added_word _ _,fun D3 H3 hD3 s3 hD3'=>?_⟩
   have hset:(done ++ pasts.drop i).set i (past ++ [(Ql89.bytes y.key (Ql89.level y.g1 r),Ql89.bytes y.value (Ql89.level y.g1 r))])=(done ++ [past ++ [(Ql89.bytes y.key (Ql89.level y.g1 r),Ql89.bytes y.value (Ql89.level y.g1 r))]]) ++ pasts.drop (i + 1):=by
    rw [drop_at hpast,List.set_append_right _ _ (by omega),hdl,Nat.sub_self,List.append_assoc]
    rfl
   rw [hset] at hKA2
   refine ⟨D3,rest n y (half n y past r),_,_,_,rfl,?_,(o.trans o2').trans (Off.of s3),by rw [List.length_append,hdl];rfl,hKA2.mono s3,hD3',fun z=>?_,?_,added_word _ _,?_⟩
   ·exact Off.free (o.trans o2') hKA2.col hD3
   ·obtain ⟨ob,q⟩:=hKA2.col D3 z
    rw [q] at hD3
    cases hD3
   ·unfold rest
    rw [added_len,words_len,lok.dn.1]
    omega
   ·rw [hlr,drop_at hy,drop_at hpast,layers_cons,List.append_assoc]
    rfl
  ·rintro σ H' ⟨D,r,done,v5,v6,rfl,hD0,o,hdl,hKA',hD',hDo,hrl,hrw,hlr⟩
   have e:min (las.map V.ref).length (kas.map V.ref).length=n.layers.length:=by simp;omega
   rw [e] at hdl hKA' hlr
   have d1:n.layers.drop n.layers.length=[]:=List.drop_of_length_le (Nat.le_refl _)
   have d2:pasts.drop n.layers.length=[]:=List.drop_of_length_le (by omega)
   rw [d1,d2] at hlr
   rw [d2,List.append_nil] at hKA'
   have hlr':Ql89.layers n n.layers pasts r0=(done,r):=by rw [hlr];show (done ++ [],r)=_;rw [List.append_nil]
   rw [hlr'] at k
   have s0':Same H0 H':=Off.same s0 hfr o
   refine ⟨_,rfl,_,rfl,na,CN,dxn,fsn,_,rfl,s0' _ _ hn0,TN.cl,TN.no "last_gains" (by decide +kernel),lg,D,ag,r,n.g,rfl,SqL.of hD',SqL.of (s0' _ _ ig),⟨by omega,by omega⟩,hrw,fun D2 H2 hD2 s2 hD2'=>?_⟩
   exact k D2 H2 (Off.free o hKA'.col hD2) (o.trans (Off.of s2)) (hKA'.mono s2) hD2'
end
end Go
namespace Go
open PySem L2
section
variable {P:Program} {w:World} {K:PySem.W.Frag} {mg:Str->Option Value} {base:Heap} {C CR fF CM CN CL:Addr}
def scoresOf (n:Ql89.Net) (x:List Int):List Int:=(List.range n.words).map fun (v:Nat)=>n.lean.getD v 0 + Ql89.dot (n.emb.row.getD v []) x
def spWSc (K:PySem.W.Frag) (CN CL:Addr):Sp:=fun vs H Q _=>∃(na la:Addr) (n:Ql89.Net) (x:List Int),vs=[.ref na,.ref la]/\NetAt CN CL H n na/\NetOk n/\SqL K H la (x.map V.int)/\x.length=n.width/\∀D H',H D=none->Same H H'->IntsAt H' D (scoresOf n x)->Q (.ref D) H'
theorem scWSc:FnScope ["net","level","leaning","line"] ["net","level"] (defScope sWScores):=⟨rfl,rfl,rfl,by decide +kernel,rfl,by decide +kernel,by decide +kernel⟩
theorem ok_WSc {f fL:Addr} {fd fdL:FuncData} (F:Fun K "word_scores" "word_scores" sWScores f fd) (TN:Attrs K CN netA) (hzip:mg "zip" = none) (L:GFn P w K mg base CX0 1 "line_sum" fL fdL ["line","given"] (spLS K)) :
  FnOk P w K mg base CX0 2 f fd ["net","level"] (spWSc K CN CL):=by
 refine F.ok scWSc (fun vs H Q E h=>?_) (fun cdv A outer s H vs Q E hr h=>?_)
 ·obtain ⟨na,la,n,x,rfl,_⟩:=h
  rfl
 ·obtain ⟨na,la,n,x,rfl,⟨dx,fs,hn,nf⟩,nok,hx,hxl,k⟩:=h
  refine ⟨_,pss_one (ps_ret (pe_lc rfl scWSc.nd (pi_zip rfl hzip (pa_cons (pe_fld (pv 0) rfl) (pa_cons (pe_fld (pv 0) rfl) pa_nil))) (blkOk_by (own:=[("leaning",2),("line",3)]) (by kernel_rfl))
    (fun _ _ _ _ _=>pg_tupK (K:=K) (n:=2) rfl rfl (pgs_cons (pg_name (i:=2) scWSc.nd rfl (Or.inl rfl)) (pgs_cons (pg_name (i:=3) scWSc.nd rfl (Or.inl rfl)) pgs_nil))) (fun _ _ _ _ _=>pts_nil)
    (fun _ _ _ _ _=>pe_op op_add (pv 2) (pe_call L.ok hr rfl L.glo L.kp L.b .nil pass0 (pa_cons (pv 3) (pa_cons (pv 1) pa_nil)))))),?_⟩
  obtain ⟨le,hle,ile⟩:=nf.lean
  obtain ⟨wl,hwl,was,hwL,hwP⟩:=nf.emb
  obtain ⟨em1,em2⟩:=nok.emb
  obtain ⟨hw1,hw2⟩:=nok.words
  obtain ⟨hd1,hd2⟩:=nok.width
  have hwsl:n.emb.row.length=was.length:=Paired.length hwP
  have hsz:200000<=sizeLine:=by decide
  have hll:=nok.lean
  refine ⟨_,rfl,na,CN,dx,fs,_,rfl,hn,TN.cl,TN.no "leanings" (by decide +kernel),hle,_,rfl,na,CN,dx,fs,_,rfl,hn,TN.cl,TN.no "word_lines" (by decide +kernel),hwl,le,wl,_,_,rfl,SqL.of ile,SqL.of hwL,fun D hD=>?_⟩
  refine lc_zipV (xs:=n.lean.map V.int) (us:=was.map V.ref) ((scoresOf n x).map V.int) (by unfold scoresOf;simp;omega) (by unfold scoresOf;simp;omega) (SqL.of ile) (SqL.of hwL) hD ?_ ?_
  ·intro i a u yv T H' Q' ha hu hy s1 hT kQ
   rw [List.getElem?_map] at ha hu
   obtain ⟨z,hz,rfl⟩:=Option.map_eq_some_iff.mp ha
   obtain ⟨b,hb,rfl⟩:=Option.map_eq_some_iff.mp hu
   obtain ⟨row,hrow,hpr⟩:=paired_get hwP hb
   have hi:i < n.words:=by have:=(List.getElem?_eq_some_iff.mp hz).1;omega
   unfold scoresOf at hy
   rw [List.map_map,List.getElem?_map,List.getElem?_range hi] at hy
   cases hy
   have e1:n.lean.getD i 0=z:=by rw [List.getD_eq_getElem?_getD,hz];rfl
   have e2:n.emb.row.getD i []=row:=by rw [List.getD_eq_getElem?_getD,hrow];rfl
   obtain ⟨l1,l2⟩:=em2 row (List.mem_of_getElem? hrow)
   simp only [Function.comp] at kQ
   rw [e1,e2] at kQ
   refine ⟨T,_,rfl,SqT.of hT,rfl,_,_,rfl,_,_,rfl,rfl,rfl,_,rfl,_,rfl,_,rfl,b,la,row,x,rfl,hpr.mono s1,s1.seq hx,by omega,by omega,fun y hy=>?_,fun H2 s2=>⟨_,_,rfl,rfl,kQ H2 s2⟩⟩
   have:=l2 y hy
   omega
  ·intro H' s1 hD'
   exact k D H' hD s1 hD'
end
end Go
namespace Go
open PySem L2
theorem cut_drop (xs:List V) (k:Nat):cutV xs (some (k:Int)) none=xs.drop k:=by
 unfold cutV
 rw [HT.sIx_none,HT.sIx_nat]
 by_cases h:k<=xs.length
 ·rw [Nat.min_eq_left h,List.take_of_length_le (by rw [List.length_drop];omega)]
 ·rw [Nat.min_eq_right (by omega),Nat.sub_self,List.take_zero,List.drop_of_length_le (by omega)]
def chQ:Str:="choose.<locals>.<lambda>"
theorem chQ_eq:((("choose" : Str) ++ ".<locals>.") ++ "<lambda>" : Str)=chQ:=by decide +kernel
theorem tab_keep {qual:Str} {lp:Pos} {H H':Hp} {P:Addr} (h:TabOk qual lp H P) (s:∀b o,H b=some o->(∀l,o≠.lst l)->(∀C dx fs,o≠.ins C dx fs)->H' b=some o):TabOk qual lp H' P:=by
 rcases h with h | ⟨c',h,oc,h1,h2⟩
 ·exact .inl (s _ _ h (fun _ z=>by cases z) fun _ _ _ z=>by cases z)
 ·exact .inr ⟨c',s _ _ h (fun _ z=>by cases z) (fun _ _ _ z=>by cases z),oc,s _ _ h1 (fun _ z=>by cases z) (fun _ _ _ z=>by cases z),h2⟩
def chP:Pos:=⟨27,43,27,69⟩
section
variable {P:Program} {w:World} {K:PySem.W.Frag} {mg:Str->Option Value} {base:Heap} {CN CL tP c:Addr}
abbrev Tab (H:Hp) (tP:Addr):Prop:=TabOk chQ chP H tP
def spCh (CN CL tP:Addr):Sp:=fun vs H Q _=>∃(na la:Addr) (n:Ql89.Net) (a:List Int) (most seed:Nat),vs=[.ref na,.ref la,.int most,.int seed]/\NetAt CN CL H n na/\NetOk n/\IntsAt H la a/\a.length=n.words/\1<=most/\seed < 2 ^ 64/\Tab H tP/\
 ∀H',But tP H H'->Tab H' tP->Ql89.draw (Ql89.chances n.falling n.c most a) seed < n.words->Q (.int ((Ql89.draw (Ql89.chances n.falling n.c most a) seed:Nat):Int)) H'
theorem scCh:FnScope ["net","scores","most","seed","weights","order","word"] ["net","scores","most","seed"] (defScope sChoose):=⟨rfl,rfl,rfl,by decide +kernel,rfl,by decide +kernel,by decide +kernel⟩
theorem ok_Ch {f fW fA:Addr} {fd fdW fdA:FuncData} (F:Fun K "choose" "choose" sChoose f fd) (hcode:fd.code=.ref c) (hC:∀h:Heap,K.In h->PySem.W.CodeHd h c tP) (hB:BMod mg base) (TN:Attrs K CN netA)
  (hsorted:mg "sorted" = none) (hrange:mg "range" = none) (hlen:mg "len" = none) (hsum:mg "sum" = none)
  (We:GFn P w K mg base CX0 1 "weigh" fW fdW ["falling","shift","numbers"] (spWeigh K)) (FA:GFn P w K mg base CX0 1 "first_above" fA fdA ["weights","bound"] (spFA K)) :
  FnOk P w K mg base CX0 2 f fd ["net","scores","most","seed"] (spCh CN CL tP):=by
 obtain ⟨oc,od,kV,doc,pm,an,cdv,ct,osl,rfl,lk,hcd⟩:=F.ex
 have hcode:cdv=.ref c:=hcode
 subst hcode
 refine fn_of lk hcd scCh (fun vs H Q E h=>?_) fun A outer s H vs Q E hr h=>?_
 ·obtain ⟨na,la,n,a,most,seed,rfl,_⟩:=h
  rfl
 ·obtain ⟨na,la,n,a,most,seed,rfl,⟨dx,fs,hn,nf⟩,nok,hla,hal,hm1,hsd,htab,k⟩:=h
  suffices q:∃t,PSs (cxOf CX0 P w K mg base _ "choose" (defScope sChoose) f (.ref c) A outer s H E).nox (defBody sChoose) t/\t {nx:=fun _ H'=>Q .non H',rt:=Q} (start _ [.ref na,.ref la,.int most,.int seed]) H from let ⟨t,h1,h2⟩:=q;⟨t,h1.nox,h2⟩
  refine ⟨_,pss_cons (ps_set (i:=4) scCh.nd rfl (Or.inl rfl) (pe_call We.ok hr rfl We.glo We.kp We.b .nil pass0 (pa_cons (pe_fld (pv 0) rfl) (pa_cons (pe_fld (pv 0) rfl) (pa_cons (pv 1) pa_nil)))))
   (pss_cons (ps_set (i:=5) scCh.nd rfl (Or.inl rfl) (pe_ord (qual:=chQ) (lp:=chP) (P:=tP) (c:=c) (cc:=s.heap.objs.size + 1) (i:=1) rfl hr rfl hsorted rfl hrange rfl rfl (Or.inr (Or.inl rfl)) rfl rfl hC hB chQ_eq rfl (pe_callB call_len_seq (by rfl) hlen PySem.boot_len (pa_cons (pv 1) pa_nil))))
   (pss_cons (ps_for PassesOwn.never rfl (pi_list (pe_slice (sl_listK (K:=K) rfl) (pv 5) (po_some (pv 2)) po_none)) (pg_name (i:=6) scCh.nd rfl (Or.inl rfl))
    (pss_one (ps_asg pe_int (pg_sub (pv 4) (pv 6) set_list))))
   (pss_one (ps_ret (pe_call FA.ok hr rfl FA.glo FA.kp FA.b .nil pass0 (pa_cons (pv 4) (pa_cons (pe_op op_shr (pe_op op_mul (pv 3) (pe_callB (cr_sum rfl) (by rfl) hsum PyProof.Rows.boot_sum (pa_cons (pv 4) pa_nil))) pe_int) pa_nil))))))),?_⟩
  obtain ⟨hw1,hw2⟩:=nok.words
  obtain ⟨hf1,hf2,hf3⟩:=nok.fal
  obtain ⟨fa,hfa,hfal⟩:=nf.fal
  have hsz:200000<=sizeLine:=by decide
  refine ⟨_,rfl,na,CN,dx,fs,_,rfl,hn,TN.cl,TN.no "falling" (by decide +kernel),hfa,_,rfl,na,CN,dx,fs,_,rfl,hn,TN.cl,TN.no "fall_shift" (by decide +kernel),nf.c,_,rfl,fa,la,n.falling,n.c,a,rfl,SqL.of hfal,hf1,SqL.of hla,by omega,by omega,fun D1 H1 hD1 s1 hW=>?_⟩
  have hla1:=s1 _ _ hla
  refine ⟨_,rfl,la,_,rfl,.inl (SqL.of hla1),a.length,by rw [List.length_map],fun r hr'=>?_⟩
  have sr:Same H1 (upd H1 r (.rng 0 a.length)):=Same.new hr'
  refine ⟨r,a.length,la,a,rfl,upd_same,by omega,rfl,SqL.of (sr _ _ hla1),rfl,(htab.mono s1).mono sr,fun D2 H2 ns hD2 hb2 ht2 hD2' hperm hbyk=>?_⟩
  have b02:But tP H H2:=((But.of s1).trans (But.of sr)).trans hb2
  have hP1:∀{b:Addr} {l:List V} {H':Hp},Tab H' tP->H' b=some (.lst l)->b≠tP:=fun {b l H'} ht e z=>by
   obtain ⟨ps,hp⟩:=ht.some
   rw [z,hp] at e
   cases e
  have hnl:ns.length=a.length:=by rw [hperm.length_eq,List.length_range]
  have hW2:H2 D1=some (.lst (natI (Ql89.weights n.falling n.c a))):=hb2 _ _ (hP1 (htab.mono s1) hW) (sr _ _ hW)
  refine ⟨_,rfl,_,rfl,_,rfl,D2,_,rfl,SqL.of hD2',fun q hq=>?_⟩
  rw [cut_drop]
  have sq:Same H2 (upd H2 q (.lst ((natI ns).drop most))):=Same.new hq
  have ed:(natI ns).drop most=natI (ns.drop most):=by unfold natI;rw [List.map_drop]
  refine ⟨q,rfl,⟨_,SqL.of upd_same⟩,?_⟩
  have hD1q:D1≠q:=ne_of_none hW2 hq
  refine for_list (K:=K) (xs:=natI (ns.drop most)) (fun i σ H'=>∃v6,σ=[some (.ref na),some (.ref la),some (.int most),some (.int seed),some (.ref D1),some (.ref D2),v6]/\But tP H H'/\Tab H' tP/\H' D1=some (.lst (natI (zeroed (Ql89.weights n.falling n.c a) ((ns.drop most).take i))))/\H' q=some (.lst (natI (ns.drop most)))) ?_ ?_ ?_ ?_
  ·refine ⟨none,rfl,b02.trans (But.of sq),ht2.mono sq,?_,by rw [upd_same];exact congrArg (fun z=>some (HO.lst z)) ed⟩
   rw [List.take_zero,zeroed_nil]
   exact sq _ _ hW2
  ·rintro i σ H' _ ⟨v6,rfl,_,_,_,e⟩
   exact SqL.of e
  ·rintro i x σ H' hx ⟨v6,rfl,hb,ht,hD1',hq'⟩
   unfold natI at hx
   rw [List.getElem?_map] at hx
   obtain ⟨v,hv,rfl⟩:=Option.map_eq_some_iff.mp hx
   have hvn:v < a.length:=List.mem_range.mp (hperm.mem_iff.mp (List.mem_of_mem_drop (List.mem_of_getElem? hv)))
   have hvW:v < (Ql89.weights n.falling n.c a).length:=by rw [weights_len];exact hvn
   have hDP:=hP1 ht hD1'
   refine ⟨_,rfl,_,rfl,D1,_,(v:Int),v,rfl,rfl,hD1',?_,?_⟩
   ·have hl:v < (natI (zeroed (Ql89.weights n.falling n.c a) ((ns.drop most).take i))).length:=by unfold natI;rw [List.length_map,zeroed_len];exact hvW
    unfold ixN
    rw [if_pos (by omega),if_pos (by omega),Int.toNat_natCast]
   ·refine ⟨_,rfl,fun b o hbP e=>?_,tab_keep ht fun b o e n1 _=>?_,?_,?_⟩
    ·rw [upd_ne (ne_of_none e hD1)]
     exact hb b o hbP e
    ·rw [upd_ne fun z=>n1 _ (by rw [z,hD1'] at e;exact (Option.some.inj e).symm)]
     exact e
    ·rw [upd_same,List.take_add_one,hv]
     show some (HO.lst ((natI (zeroed (Ql89.weights n.falling n.c a) ((ns.drop most).take i))).set v (.int 0)))=_
     have:=zeroed_set (Ql89.weights n.falling n.c a) ((ns.drop most).take i) hvW
     rw [show ((some v).toList:List Nat)=[v] from rfl,<-this]
     unfold natI
     rw [List.map_set]
     rfl
    ·rw [upd_ne hD1q.symm]
     exact hq'
  ·rintro σ H' ⟨v6,rfl,hb,ht,hD1',hq'⟩
   have el:(natI (ns.drop most)).length=(ns.drop most).length:=by unfold natI;rw [List.length_map]
   rw [el,List.take_length,chances_eq hperm hbyk] at hD1'
   have hpos:=chances_pos (c:=n.c) hperm hbyk (by omega) hm1 hf2
   have hu:seed * (Ql89.chances n.falling n.c most a).sum / 2 ^ 64 < (Ql89.chances n.falling n.c most a).sum:=by
    rw [Nat.div_lt_iff_lt_mul (by decide),Nat.mul_comm]
    exact Nat.mul_lt_mul_of_pos_left hsd hpos
   have hsd':(seed:Int) < 2 ^ 64:=by exact_mod_cast hsd
   refine ⟨_,rfl,_,rfl,_,rfl,D1,_,rfl,by rw [<-natI_ints];exact SqL.of hD1',_,_,rfl,rfl,.inl ⟨by omega,hsd'⟩,_,_,rfl,rfl,(show (0:Int)<=64 by decide),D1,Ql89.chances n.falling n.c most a,_,?_,SqL.of hD1',hu,?_⟩
   ·rw [sum_nats]
    show [V.ref D1,V.int ((seed:Int) * (((Ql89.chances n.falling n.c most a).sum:Nat):Int) / 2 ^ (64:Int).toNat)]=_
    congr 2
   ·refine k H' hb ht ?_
    have:=upTo_lt _ _ hu
    have hl:(Ql89.chances n.falling n.c most a).length=a.length:=by unfold Ql89.chances;simp [weights_len]
    unfold Ql89.draw
    omega
end
end Go
namespace Go
open PySem L2
theorem rev_ind {α:Type} {C:List α->Prop} (l:List α) (nil:C []) (append_singleton:∀l v,C l->C (l ++ [v])):C l:=by
 have key:∀m:List α,C m.reverse:=by
  intro m
  induction m with
  | nil=>exact nil
  | cons v m ih=>rw [List.reverse_cons];exact append_singleton _ _ ih
 have:=key l.reverse
 rwa [List.reverse_reverse] at this
theorem fed_snoc (n:Ql89.Net) (l:List Nat) (v:Nat):Ql89.fed n (l ++ [v])=Ql89.feed n (Ql89.fed n l) v:=by unfold Ql89.fed;rw [List.foldl_append];rfl
theorem fed_nil (n:Ql89.Net):Ql89.fed n []=Ql89.begun n:=rfl
theorem feed_kept (n:Ql89.Net) (s:Ql89.St) (v:Nat):(Ql89.feed n s v).kept=(Ql89.layers n n.layers s.kept (Ql89.comes n s.fed v)).1:=rfl
theorem feed_r (n:Ql89.Net) (s:Ql89.St) (v:Nat):(Ql89.feed n s v).r=(Ql89.layers n n.layers s.kept (Ql89.comes n s.fed v)).2:=rfl
theorem fed_fed (n:Ql89.Net) (l:List Nat):(Ql89.fed n l).fed=l.length:=by
 induction l using rev_ind with
 | nil=>rfl
 | append_singleton l v ih=>
  rw [fed_snoc,List.length_append]
  show (Ql89.fed n l).fed + 1=_
  rw [ih]
  rfl
def PairOk (d:Nat) (x:Ql89.Pair):Prop:=(x.1.length=d/\Byte x.1)/\x.2.length=d/\Byte x.2
theorem layers_grow (n:Ql89.Net):∀(ls:List Ql89.Layer) (ps:List (List Ql89.Pair)) (r:List Int),(∀y∈ls,LayerOk y n.width n.inner)->ps.length=ls.length->
  ∃xs:List Ql89.Pair,xs.length=ls.length/\(∀x∈xs,PairOk n.width x)/\(Ql89.layers n ls ps r).1=List.zipWith (fun p x=>p ++ [x]) ps xs
 | [],[],r,_,_=>⟨[],rfl,fun _ z=>by simp at z,rfl⟩
 | [],_ :: _,_,_,h=>by simp at h
 | _ :: _,[],_,_,h=>by simp at h
 | y :: ls,p :: ps,r,hl,h=>by
  obtain ⟨xs,h1,h2,h3⟩:=layers_grow n ls ps (rest n y (half n y p r)) (fun z hz=>hl z (List.mem_cons_of_mem _ hz)) (by simpa using h)
  have lok:=hl y List.mem_cons_self
  refine ⟨(Ql89.bytes y.key (Ql89.level y.g1 r),Ql89.bytes y.value (Ql89.level y.g1 r)) :: xs,by rw [List.length_cons,List.length_cons,h1],fun x hx=>?_,?_⟩
  ·rcases List.mem_cons.mp hx with e | hx
   ·rw [e]
    exact ⟨⟨by rw [bytes_len,lok.k.1],bytes_byte _ _⟩,by rw [bytes_len,lok.v.1],bytes_byte _ _⟩
   ·exact h2 x hx
  ·rw [layers_cons,List.zipWith_cons_cons]
   show _ :: (Ql89.layers n ls ps (rest n y (half n y p r))).1=_
   rw [h3]
structure KeptOk (n:Ql89.Net) (k:Nat) (ps:List (List Ql89.Pair)):Prop where
 len:ps.length=n.layers.length
 each:∀p∈ps,p.length=k/\∀x∈p,PairOk n.width x
theorem grow_ok {n:Ql89.Net} {k:Nat} {ps:List (List Ql89.Pair)} {xs:List Ql89.Pair} (h:KeptOk n k ps) (hx:xs.length=n.layers.length) (hp:∀x∈xs,PairOk n.width x):KeptOk n (k + 1) (List.zipWith (fun p x=>p ++ [x]) ps xs):=by
 refine ⟨by rw [List.length_zipWith,h.len,hx];omega,fun p hp'=>?_⟩
 obtain ⟨q,hq,x,hxm,rfl⟩:=mem_zipWith hp'
 obtain ⟨h1,h2⟩:=h.each q hq
 refine ⟨by rw [List.length_append,h1];rfl,fun z hz=>?_⟩
 rcases List.mem_append.mp hz with hz | hz
 ·exact h2 z hz
 ·rw [List.mem_singleton.mp hz]
  exact hp x hxm
theorem kept_ok {n:Ql89.Net} (nok:NetOk n) (l:List Nat):KeptOk n l.length (Ql89.fed n l).kept:=by
 induction l using rev_ind with
 | nil=>
  rw [fed_nil]
  refine ⟨by unfold Ql89.begun;simp,fun p hp=>?_⟩
  unfold Ql89.begun at hp
  obtain ⟨_,_,rfl⟩:=List.mem_map.mp hp
  exact ⟨rfl,fun _ z=>by simp at z⟩
 | append_singleton l v ih=>
  rw [fed_snoc,feed_kept,List.length_append]
  obtain ⟨xs,h1,h2,h3⟩:=layers_grow n n.layers (Ql89.fed n l).kept (Ql89.comes n (Ql89.fed n l).fed v) nok.lay ih.len
  rw [h3]
  exact grow_ok ih h1 h2
theorem kept_take {n:Ql89.Net} (nok:NetOk n) (l:List Nat):∀k,k<=l.length->(Ql89.fed n (l.take k)).kept=(Ql89.fed n l).kept.map fun (p:List Ql89.Pair)=>p.take k:=by
 induction l using rev_ind with
 | nil=>
  intro k hk
  have:k=0:=by simpa using hk
  subst this
  rw [List.take_nil,fed_nil]
  unfold Ql89.begun
  rw [List.map_map]
  rfl
 | append_singleton l v ih=>
  intro k hk
  have ok:=kept_ok nok l
  have ok':=kept_ok nok (l ++ [v])
  by_cases hkl:k<=l.length
  ·rw [List.take_append_of_le_length hkl,ih k hkl,fed_snoc,feed_kept]
   obtain ⟨xs,h1,h2,h3⟩:=layers_grow n n.layers (Ql89.fed n l).kept (Ql89.comes n (Ql89.fed n l).fed v) nok.lay ok.len
   rw [h3]
   refine List.ext_getElem? fun i=>?_
   rw [List.getElem?_map,List.getElem?_map]
   by_cases hi:i < n.layers.length
   ·have e1:(Ql89.fed n l).kept[i]? = some ((Ql89.fed n l).kept[i]'(by rw [ok.len];exact hi)):=by simp [show i < (Ql89.fed n l).kept.length by rw [ok.len];exact hi]
    have e2:xs[i]? = some (xs[i]'(by rw [h1];exact hi)):=by simp [show i < xs.length by rw [h1];exact hi]
    rw [List.getElem?_zipWith,e1,e2]
    have e3:=(ok.each _ (List.mem_of_getElem? e1)).1
    generalize (Ql89.fed n l).kept[i]'(by rw [ok.len];exact hi)=u at e3 |-
    show some (u.take k)=some ((u ++ [_]).take k)
    rw [List.take_append_of_le_length (by omega)]
   ·rw [List.getElem?_eq_none (by rw [ok.len];omega),List.getElem?_eq_none (by rw [List.length_zipWith,ok.len,h1];omega)]
  ·have hk2:k=(l ++ [v]).length:=by rw [List.length_append] at hk |-;simp at hk |-;omega
   rw [List.take_of_length_le (by omega)]
   conv=>lhs;rw [<-List.map_id (Ql89.fed n (l ++ [v])).kept]
   refine List.map_congr_left fun p hp=>?_
   show p=p.take k
   rw [List.take_of_length_le]
   rw [(ok'.each p hp).1]
   omega
theorem comes_len {n:Ql89.Net} (nok:NetOk n) {wd p:Nat} (hwd:wd < n.words) (hp:p < n.places):(Ql89.comes n p wd).length=n.width:=by
 unfold Ql89.comes
 rw [List.length_zipWith,List.getD_eq_getElem?_getD,List.getD_eq_getElem?_getD]
 obtain ⟨em1,em2⟩:=nok.emb
 obtain ⟨po1,po2⟩:=nok.pos
 have q1:n.emb.row[wd]? = some (n.emb.row[wd]'(by omega)):=by simp [show wd < n.emb.row.length by omega]
 have q2:n.pos.row[p]? = some (n.pos.row[p]'(by omega)):=by simp [show p < n.pos.row.length by omega]
 rw [q1,q2]
 show min (n.emb.row[wd]'(by omega)).length (n.pos.row[p]'(by omega)).length=_
 rw [(em2 _ (List.getElem_mem _)).1,(po2 _ (List.getElem_mem _)).1]
 omega
theorem layers_len (n:Ql89.Net):∀(ls:List Ql89.Layer) (ps:List (List Ql89.Pair)) (r:List Int),(∀y∈ls,LayerOk y n.width n.inner)->r.length=n.width->(Ql89.layers n ls ps r).2.length=n.width
 | [],_,r,_,h=>by
  unfold Ql89.layers
  exact h
 | y :: ls,[],r,_,h=>by
  unfold Ql89.layers
  exact h
 | y :: ls,p :: ps,r,hl,h=>by
  rw [layers_cons]
  have lok:=hl y List.mem_cons_self
  refine layers_len n ls ps _ (fun z hz=>hl z (List.mem_cons_of_mem _ hz)) ?_
  unfold rest
  rw [added_len,words_len,lok.dn.1]
  unfold half
  rw [added_len,words_len,lok.o.1,h]
  omega
theorem fed_width {n:Ql89.Net} (nok:NetOk n) (l:List Nat):l≠[]->(∀v∈l,v < n.words)->l.length<=n.places->(Ql89.fed n l).r.length=n.width:=by
 induction l using rev_ind with
 | nil=>exact fun h=>absurd rfl h
 | append_singleton l v ih=>
  intro _ hw hp
  rw [fed_snoc,feed_r]
  rw [List.length_append] at hp
  have hp:l.length + 1<=n.places:=hp
  exact layers_len n _ _ _ nok.lay (comes_len nok (hw v (by simp)) (by rw [fed_fed];omega))
def levelAt (n:Ql89.Net) (l:List Nat):List Int:=Ql89.level n.g (Ql89.fed n l).r
theorem levelAt_len {n:Ql89.Net} (nok:NetOk n) {l:List Nat} (h:l≠[]) (hw:∀v∈l,v < n.words) (hp:l.length<=n.places):(levelAt n l).length=n.width:=by
 unfold levelAt
 rw [level_len,fed_width nok l h hw hp,nok.g]
 omega
theorem cost_snoc (n:Ql89.Net):∀(r l:List Nat) (v:Nat),Ql89.cost n l (r ++ [v])=Ql89.cost n l r + (if l ++ r=[] then 0 else Ql89.greatest (Ql89.scores n (l ++ r)) - (Ql89.scores n (l ++ r)).getD v 0)
 | [],l,v=>by
  show (if l=[] then 0 else Ql89.greatest (Ql89.scores n l) - (Ql89.scores n l).getD v 0) + 0=0 + _
  rw [List.append_nil]
  omega
 | u :: r,l,v=>by
  show (if l=[] then 0 else Ql89.greatest (Ql89.scores n l) - (Ql89.scores n l).getD u 0) + Ql89.cost n (l ++ [u]) (r ++ [v])=((if l=[] then 0 else Ql89.greatest (Ql89.scores n l) - (Ql89.scores n l).getD u 0) + Ql89.cost n (l ++ [u]) r) + _
  rw [cost_snoc n r (l ++ [u]) v,List.append_assoc]
  have hne:¬(l ++ (u :: r)=[]):=by simp
  have hne2:¬(l ++ ([u] ++ r)=[]):=hne
  rw [if_neg hne2,if_neg hne,Int.add_assoc]
  rfl
theorem scores_len (n:Ql89.Net) (l:List Nat):(Ql89.scores n l).length=n.words:=by unfold Ql89.scores;simp
theorem goes_stop (n:Ql89.Net) (most k seed:Nat) (l:List Nat) (h:n.places<=l.length):Ql89.goes n most k seed l=[]:=by
 cases k with
 | zero=>rfl
 | succ k=>unfold Ql89.goes;rw [if_pos h]
theorem goes_step (n:Ql89.Net) (most k seed:Nat) (l:List Nat) (h:l.length < n.places):Ql89.goes n most (k + 1) seed l=Ql89.next n most seed l :: (if Ql89.next n most seed l=0 then [] else Ql89.goes n most k (Ql89.onward seed) (l ++ [Ql89.next n most seed l])):=by
 conv=>lhs;unfold Ql89.goes
 rw [if_neg (by omega)]
end Go
namespace Go
open PySem L2
theorem cut_take (c:List Int) (k:Nat):cutV (c.map V.int) none (some (k:Int))=(c.take k).map V.int:=by
 unfold cutV
 rw [HT.sIx_none,HT.sIx_nat,List.drop_zero,List.length_map,Nat.sub_zero,List.map_take]
 by_cases h:k<=c.length
 ·rw [Nat.min_eq_left h]
 ·rw [Nat.min_eq_right (by omega),List.take_of_length_le (by simp),List.take_of_length_le (by simp;omega)]
theorem colsOf_take (d k:Nat) (past:List (List Int)):colsOf d (past.take k)=(colsOf d past).map (fun (c:List Int)=>c.take k):=by
 unfold colsOf
 rw [List.map_map]
 refine List.map_congr_left fun j _=>?_
 show (past.take k).map _=(past.map _).take k
 rw [List.map_take]
section
variable {P:Program} {w:World} {K:PySem.W.Frag} {mg:Str->Option Value} {base:Heap} {CK:Addr}
theorem kk:¬(("key_columns" : Str) = "value_columns"):=by decide +kernel
theorem kk':¬(("value_columns" : Str) = "key_columns"):=by decide +kernel
def spKI (CK:Addr):Sp:=fun vs H Q _=>∃(x dx:Addr) (d:Nat),vs=[.ref x,.int d]/\H x=some (.ins CK dx [])/\(0 < d/\d<=4096)/\∀H' ks vs',(∀b o,b≠x->H b=some o->H' b=some o)->KeptAt CK H' x d [] ks vs'->(∀a∈ks ++ vs',H a=none)->Q .non H'
theorem scKI:FnScope ["self","width","column"] ["self","width"] (defScope sKI):=⟨rfl,rfl,rfl,by decide +kernel,rfl,by decide +kernel,by decide +kernel⟩
theorem colsOf_nil (d:Nat):colsOf d []=List.replicate d []:=by
 unfold colsOf
 induction d with
 | zero=>rfl
 | succ d ih=>rw [List.range_succ,List.map_append,ih,List.replicate_succ'];rfl
theorem ok_KI {f:Addr} {fd:FuncData} (F:Fun K "__init__" "Kept.__init__" sKI f fd) (T:Attrs K CK kepA) (hrange:mg "range" = none):FnOk P w K mg base CX0 1 f fd ["self","width"] (spKI CK):=by
 refine F.ok scKI (fun vs H Q E h=>?_) (fun cdv A outer s H vs Q E hr h=>?_)
 ·obtain ⟨x,dx,d,rfl,_⟩:=h
  rfl
 ·obtain ⟨x,dx,d,rfl,hx,⟨hd1,hd2⟩,k⟩:=h
  refine ⟨_,pss_cons (ps_fld (pv 0) (pe_lc rfl scKI.nd (pi_range1 rfl hrange (pa_cons (pv 1) pa_nil)) (blkOk_by (own:=[("column",2)]) (by kernel_rfl)) (fun _ _ _ _ _=>pg_name (i:=2) scKI.nd rfl (Or.inl rfl)) (fun _ _ _ _ _=>pts_nil) (fun _ _ _ _ _=>pe_lst pa_nil)) rfl)
   (pss_one (ps_fld (pv 0) (pe_lc rfl scKI.nd (pi_range1 rfl hrange (pa_cons (pv 1) pa_nil)) (blkOk_by (own:=[("column",2)]) (by kernel_rfl)) (fun _ _ _ _ _=>pg_name (i:=2) scKI.nd rfl (Or.inl rfl)) (fun _ _ _ _ _=>pts_nil) (fun _ _ _ _ _=>pe_lst pa_nil)) rfl)),?_⟩
  refine ⟨_,rfl,_,rfl,by omega,by omega,fun D hD=>?_⟩
  rw [Int.toNat_natCast]
  refine lc_empty hD hd2 (fun v H Q h=>h _ rfl) fun H1 ks L1=>?_
  have hxD:x≠D:=ne_of_none hx hD
  refine ⟨_,rfl,x,CK,dx,_,rfl,L1.sm _ _ hx,T.cl,T.no "key_columns" (by decide +kernel),(by show 0 < 1000;decide),?_⟩
  refine ⟨_,rfl,_,rfl,by omega,by omega,fun D2 hD2=>?_⟩
  rw [Int.toNat_natCast]
  have hx1:=L1.sm _ _ hx
  have hxD2:x≠D2:=fun z=>by rw [<-z,upd_same] at hD2;cases hD2
  have hD21:H1 D2=none:=by rw [upd_ne hxD2.symm] at hD2;exact hD2
  refine lc_empty hD2 hd2 (fun v H Q h=>h _ rfl) fun H2 vs' L2'=>?_
  have hx2:=L2'.sm _ _ upd_same
  refine ⟨_,rfl,x,CK,dx,_,rfl,hx2,T.cl,T.no "value_columns" (by decide +kernel),(by show 1 < 1000;decide),?_⟩
  have keep:∀b o,b≠x->H1 b=some o->(upd H2 x (.ins CK dx (putF "value_columns" (V.ref D2) (putF "key_columns" (V.ref D) [])))) b=some o:=fun b o hb e=>by
   rw [upd_ne hb]
   exact L2'.sm _ _ (by rw [upd_ne hb];exact e)
  have nk:∀b∈ks,b≠x:=fun b hb z=>by have:=(L1.new b hb).1;rw [z,hx] at this;cases this
  have nv:∀b∈vs',b≠x:=fun b hb z=>by have:=(L2'.new b hb).1;rw [z,upd_same] at this;cases this
  have tr:∀b∈ks,∃o,H1 b=some o:=fun b hb=>by
   obtain ⟨i,hi⟩:=List.getElem?_of_mem hb
   obtain ⟨c,_,q⟩:=paired_get L1.cols hi
   exact ⟨_,q⟩
  have nv1:∀b∈vs',H1 b=none:=fun b hb=>by have:=(L2'.new b hb).1;rw [upd_ne (nv b hb)] at this;exact this
  refine k _ ks vs' (fun b o hb e=>keep b o hb (L1.sm _ _ e)) ⟨⟨dx,_,D,D2,upd_same,?_,?_,?_,?_,?_,keep _ _ hxD.symm L1.at_,by rw [upd_ne hxD2.symm];exact L2'.at_,?_,?_⟩,?_,?_,?_⟩ ?_
  ·rw [lookup_putF,if_neg kk,lookup_putF,if_pos rfl]
  ·rw [lookup_putF,if_pos rfl]
  ·rw [lookup_putF,if_neg (by decide +kernel),lookup_putF,if_neg (by decide +kernel)];rfl
  ·rw [lookup_putF,if_neg (by decide +kernel),lookup_putF,if_neg (by decide +kernel)];rfl
  ·show (if ("key_columns" : Str) = "value_columns" then _ else _ :: _).length<=10
   rw [if_neg kk]
   show 2<=10
   decide
  ·intro z
   rcases List.mem_append.mp z with z | z
   ·exact (L1.new D z).2 rfl
   ·have:=nv1 D z
    rw [L1.at_] at this
    cases this
  ·intro z
   rcases List.mem_append.mp z with z | z
   ·obtain ⟨o,q⟩:=tr D2 z
    rw [hD21] at q
    cases q
   ·exact (L2'.new D2 z).2 rfl
  ·rw [List.map_nil,colsOf_nil]
   exact paired_of (Paired.length L1.cols) fun i c a hc ha=>keep _ _ (nk a (List.mem_of_getElem? ha)) (paired_both L1.cols hc ha)
  ·rw [List.map_nil,colsOf_nil]
   refine paired_of (Paired.length L2'.cols) fun i c a hc ha=>?_
   show upd H2 x _ a=_
   rw [upd_ne (nv a (List.mem_of_getElem? ha))]
   exact paired_both L2'.cols hc ha
  ·refine List.nodup_append.mpr ⟨L1.nd,L2'.nd,fun a ha b hb z=>?_⟩
   obtain ⟨o,q⟩:=tr a ha
   rw [z,nv1 b hb] at q
   cases q
  ·intro b hb
   rcases List.mem_append.mp hb with z | z
   ·exact (L1.new b z).1
   ·exact L1.sm.free (nv1 b z)
end
end Go
namespace Go
open PySem L2
section
variable {P:Program} {w:World} {K:PySem.W.Frag} {mg:Str->Option Value} {base:Heap} {CK:Addr}
theorem putF_len {f:Str} {v y:V}:∀{fs:List (Str×V)},fs.lookup f=some v->(putF f y fs).length=fs.length
 | [],h=>by simp at h
 | (g,x) :: r,h=>by
  unfold putF
  by_cases hg:g=f
  ·rw [if_pos hg]
   rfl
  ·rw [if_neg hg,List.length_cons,List.length_cons]
   have h':r.lookup f=some v:=by
    rw [List.lookup_cons] at h
    have:(f == g)=false:=by simpa using fun z=>hg z.symm
    rw [this] at h
    exact h
   rw [putF_len h']
def spKO (CK:Addr):Sp:=fun vs H Q _=>∃(a:Addr) (d k:Nat) (past:List Ql89.Pair) (ks vs':List Addr),vs=[.ref a,.int k]/\KeptAt CK H a d past ks vs'/\(0 < d/\d<=4096)/\
 ∀H' ks' vs'',(∀b o,b≠a->H b=some o->H' b=some o)->KeptAt CK H' a d (past.take k) ks' vs''->(∀b∈ks' ++ vs'',H b=none)->Q .non H'
theorem scKO:FnScope ["self","words","column"] ["self","words"] (defScope sKeepOnly):=⟨rfl,rfl,rfl,by decide +kernel,rfl,by decide +kernel,by decide +kernel⟩
theorem lc_cut {a:Addr} {cols:List (List Int)} {as:List Addr} {k i0 i1:Nat} {g:TG} {vs:List Nat} {σ:L2.St} {H1:Hp} {D:Addr} {Qd:Hp->Prop} (hD:H1 D=none) (hn:as.length<=4096) (hL:H1 a=some (.lst (as.map V.ref))) (hC:ColsAt H1 cols as)
  (hg:∀(v:V) (H:Hp) (Q:L2.St->Hp->Prop),(∀σ2,wipe σ2 vs=wipe σ vs->(σ2[i0]?:Option (Option V))=some (some v)->(σ2[i1]?:Option (Option V))=some (some (.int (k:Int)))->Q σ2 H)->g v (wipe σ vs) H Q) (hd:∀H bs,Laid H1 H D (cols.map fun (c:List Int)=>c.take k) bs->Qd H) :
  ∃W:Nat->Nat->Hp->Prop,(∃m,W 0 m (upd H1 D (.lst [])))/\∀i m H,W i m H->
   ((Itl K a).stop i H/\Qd H)\/((Itl K a).go i H/\∃Nx:Hp->Prop,(∀H',Nx H'->∃m',m' < m/\W (i + 1) m' H')/\∀x H',(Itl K a).yld i H x H'->g x (wipe σ vs) H' fun σ2 H2=>wipe σ2 vs=wipe σ vs/\tYes σ2 H2 fun b H3=>
    if b=true then tSl (rSlL K) (tVar i0) tNoPart (tPart (tVar i1)) σ2 H3 fun y H4=>∃acc,H4 D=some (.lst acc)/\acc.length < sizeLine/\Nx (upd H4 D (.lst (acc ++ [y]))) else Nx H3):=by
 have hsz:5000<=sizeLine:=by decide
 have hcl:cols.length=as.length:=Paired.length hC
 refine lc_list (xs:=as.map V.ref) (fun i H=>∃bs,Laid H1 H D ((cols.take i).map fun (c:List Int)=>c.take k) bs) ⟨[],Same.new hD,upd_same,.nil,List.nodup_nil,fun _ z=>by simp at z⟩ (fun i H _ ⟨_,p⟩=>SqL.of (p.sm _ _ hL)) ?_ fun H ⟨bs,p⟩=>hd H bs (by rw [List.length_map,<-hcl,List.take_length] at p;exact p)
 rintro i x H hx ⟨bs,p⟩
 rw [List.getElem?_map] at hx
 obtain ⟨b,hb,rfl⟩:=Option.map_eq_some_iff.mp hx
 obtain ⟨c,hc,hcb⟩:=paired_get hC hb
 have hi:i < as.length:=(List.getElem?_eq_some_iff.mp hb).1
 refine hg _ _ _ fun σ2 hσ h0 h1=>⟨hσ,_,h0,_,h1,_,rfl,b,_,rfl,SqL.of (p.sm _ _ hcb),fun q hq=>?_⟩
 rw [cut_take]
 have hl:bs.length=i:=by have:=Paired.length p.cols;rw [List.length_map,List.length_take] at this;omega
 have hDq:D≠q:=ne_of_none p.at_ hq
 refine ⟨bs.map V.ref,by rw [upd_ne hDq];exact p.at_,by rw [List.length_map];omega,bs ++ [q],?_⟩
 have:=p.more (c:=c.take k) hD hq
 rw [List.take_add_one,hc,List.map_append]
 exact this
theorem ok_KO {f:Addr} {fd:FuncData} (F:Fun K "keep_only" "Kept.keep_only" sKeepOnly f fd) (T:Attrs K CK kepA):FnOk P w K mg base CX0 1 f fd ["self","words"] (spKO CK):=by
 refine F.ok scKO (fun vs H Q E h=>?_) (fun cdv A outer s H vs Q E hr h=>?_)
 ·obtain ⟨a,d,k,past,ks,vs',rfl,_⟩:=h
  rfl
 ·obtain ⟨a,d,kn,past,ks,vs',rfl,hK,⟨hd1,hd2⟩,k⟩:=h
  refine ⟨_,pss_cons (ps_fld (pv 0) (pe_lc rfl scKO.nd (pi_list (pe_fld (pv 0) rfl)) (blkOk_by (own:=[("column",2)]) (by kernel_rfl)) (fun _ _ _ _ _=>pg_name (i:=2) scKO.nd rfl (Or.inl rfl)) (fun _ _ _ _ _=>pts_nil) (fun _ _ _ _ _=>pe_slice (sl_listK (K:=K) rfl) (pv 2) po_none (po_some (pv 1)))) rfl)
   (pss_one (ps_fld (pv 0) (pe_lc rfl scKO.nd (pi_list (pe_fld (pv 0) rfl)) (blkOk_by (own:=[("column",2)]) (by kernel_rfl)) (fun _ _ _ _ _=>pg_name (i:=2) scKO.nd rfl (Or.inl rfl)) (fun _ _ _ _ _=>pts_nil) (fun _ _ _ _ _=>pe_slice (sl_listK (K:=K) rfl) (pv 2) po_none (po_some (pv 1)))) rfl)),?_⟩
  obtain ⟨dx,fs,kc,vc,h1,h2,h3,h4,h4',h5,h6,h7,h8,h9⟩:=hK.ob
  have lk:ks.length=d:=by have:=Paired.length hK.ck;unfold colsOf at this;simpa using this.symm
  have lv:vs'.length=d:=by have:=Paired.length hK.cv;unfold colsOf at this;simpa using this.symm
  refine ⟨_,rfl,a,CK,dx,fs,_,rfl,h1,T.cl,T.no "key_columns" (by decide +kernel),h2,kc,rfl,⟨_,SqL.of h6⟩,fun D hD=>?_⟩
  refine lc_cut (k:=kn) hD (by omega) h6 hK.ck (fun v H Q h=>h _ rfl rfl rfl) fun H1 ks' L1=>?_
  have ha1:=L1.sm _ _ h1
  refine ⟨_,rfl,a,CK,dx,fs,rfl,ha1,T.cl,T.no "key_columns" (by decide +kernel),(by omega),?_⟩
  have haD:a≠D:=ne_of_none h1 hD
  have kne:∀{c:Addr} {l:List V},H c=some (.lst l)->c≠a:=fun hc z=>by rw [z,h1] at hc;cases hc
  have e3:(putF "key_columns" (V.ref D) fs).lookup ("value_columns" : Str)=some (.ref vc):=by rw [lookup_putF,if_neg kk',h3]
  have hvc1:(upd H1 a (.ins CK dx (putF "key_columns" (V.ref D) fs))) vc=some (.lst (vs'.map V.ref)):=by rw [upd_ne (kne h7)];exact L1.sm _ _ h7
  have hcv1:ColsAt (upd H1 a (.ins CK dx (putF "key_columns" (V.ref D) fs))) (colsOf d (past.map (·.2))) vs':=Paired.mapP hK.cv fun c b q=>by
   show upd H1 a _ b=_
   rw [upd_ne (kne q)]
   exact L1.sm _ _ q
  refine ⟨_,rfl,a,CK,dx,_,_,rfl,upd_same,T.cl,T.no "value_columns" (by decide +kernel),e3,vc,rfl,⟨_,SqL.of hvc1⟩,fun D2 hD2=>?_⟩
  have haD2:a≠D2:=fun z=>by rw [<-z,upd_same] at hD2;cases hD2
  have hD21:H1 D2=none:=by rw [upd_ne haD2.symm] at hD2;exact hD2
  refine lc_cut (k:=kn) hD2 (by omega) hvc1 hcv1 (fun v H Q h=>h _ rfl rfl rfl) fun H2 vs'' L2'=>?_
  have ha2:=L2'.sm _ _ upd_same
  have hfl:(putF "key_columns" (V.ref D) fs).length=fs.length:=putF_len h2
  have hfl2:(putF "value_columns" (V.ref D2) (putF "key_columns" (V.ref D) fs)).length=fs.length:=by rw [putF_len e3,hfl]
  refine ⟨_,rfl,a,CK,dx,_,rfl,ha2,T.cl,T.no "value_columns" (by decide +kernel),(by omega),?_⟩
  have keep:∀b o,b≠a->H1 b=some o->(upd H2 a (.ins CK dx (putF "value_columns" (V.ref D2) (putF "key_columns" (V.ref D) fs)))) b=some o:=fun b o hb e=>by
   rw [upd_ne hb]
   exact L2'.sm _ _ (by rw [upd_ne hb];exact e)
  have nk:∀b∈ks',b≠a:=fun b hb z=>by have:=(L1.new b hb).1;rw [z,h1] at this;cases this
  have nv:∀b∈vs'',b≠a:=fun b hb z=>by have:=(L2'.new b hb).1;rw [z,upd_same] at this;cases this
  have tr:∀b∈ks',∃o,H1 b=some o:=fun b hb=>by
   obtain ⟨i,hi⟩:=List.getElem?_of_mem hb
   obtain ⟨c,_,q⟩:=paired_get L1.cols hi
   exact ⟨_,q⟩
  have nv1:∀b∈vs'',H1 b=none:=fun b hb=>by have:=(L2'.new b hb).1;rw [upd_ne (nv b hb)] at this;exact this
  refine k _ ks' vs'' (fun b o hb e=>keep b o hb (L1.sm _ _ e)) ⟨⟨dx,_,D,D2,upd_same,?_,?_,?_,?_,by omega,keep _ _ haD.symm L1.at_,by rw [upd_ne haD2.symm];exact L2'.at_,?_,?_⟩,?_,?_,?_⟩ ?_
  ·rw [lookup_putF,if_neg kk,lookup_putF,if_pos rfl]
  ·rw [lookup_putF,if_pos rfl]
  ·rw [lookup_putF,if_neg (by decide +kernel),lookup_putF,if_neg (by decide +kernel)];exact h4
  ·rw [lookup_putF,if_neg (by decide +kernel),lookup_putF,if_neg (by decide +kernel)];exact h4'
  ·intro z
   rcases List.mem_append.mp z with z | z
   ·exact (L1.new D z).2 rfl
   ·have:=nv1 D z
    rw [L1.at_] at this
    cases this
  ·intro z
   rcases List.mem_append.mp z with z | z
   ·obtain ⟨o,q⟩:=tr D2 z
    rw [hD21] at q
    cases q
   ·exact (L2'.new D2 z).2 rfl
  ·rw [List.map_take,colsOf_take]
   exact paired_of (Paired.length L1.cols) fun i c b hc hb=>keep _ _ (nk b (List.mem_of_getElem? hb)) (paired_both L1.cols hc hb)
  ·rw [List.map_take,colsOf_take]
   refine paired_of (Paired.length L2'.cols) fun i c b hc hb=>?_
   show upd H2 a _ b=_
   rw [upd_ne (nv b (List.mem_of_getElem? hb))]
   exact paired_both L2'.cols hc hb
  ·refine List.nodup_append.mpr ⟨L1.nd,L2'.nd,fun b hb c hc z=>?_⟩
   obtain ⟨o,q⟩:=tr b hb
   rw [z,nv1 c hc] at q
   cases q
  ·intro b hb
   rcases List.mem_append.mp hb with z | z
   ·exact (L1.new b z).1
   ·exact L1.sm.free (nv1 b z)
end
end Go
namespace Go
open PySem L2
def sesA:List Str:=["net","kept_layers","levels"]
def sesM:List Str:=["begin","feed","forget","tell","go_on","write","scores","cost","take"]
structure LiveP (CN CL CK tP:Addr) (H:Hp) (n:Ql89.Net) (l:List Nat) (sa na kl lv:Addr) (M:List Addr) (H0:Hp) (kas:List Addr) (cs:List Cols) (las:List Addr):Prop where
 sm:Same H0 H
 own:∀a∈M,H0 a=none
 net:NetAt CN CL H0 n na
 ok:NetOk n
 kl:H0 kl=some (.lst (kas.map V.ref))
 kept:KeptAll CK H kas n.width (Ql89.fed n l).kept cs
 kM:∀a∈kas,a∈M
 cM:∀a∈allC cs,a∈M
 lM:lv∈M
 lc:lv∉allC cs
 sk:sa∉kas
 knd:kas.Nodup
 lev:H lv=some (.lst (las.map V.ref))
 ll:las.length=l.length
 las:∀t a,las[t]? = some a->IntsAt H0 a (levelAt n (l.take (t + 1)))
 len:l.length<=n.places
 wd:∀v∈l,v < n.words
 tp:H0 tP=none
structure SesF (fs:List (Str×V)) (nv:V) (kl lv:Addr):Prop where
 net:fs.lookup ("net" : Str)=some nv
 kep:fs.lookup ("kept_layers" : Str)=some (.ref kl)
 lev:fs.lookup ("levels" : Str)=some (.ref lv)
 no:∀m∈sesM,fs.lookup m=none
 len:fs.length<=10
def StateAt (CN CL CK tP:Addr) (H:Hp) (sa:Addr) (nv:V) (kl lv:Addr) (M:List Addr) (H0:Hp):Ql89.Abs->Prop
 | none=>nv=.non
 | some x=>∃na kas cs las,nv=.ref na/\LiveP CN CL CK tP H x.net x.fed sa na kl lv M H0 kas cs las
structure SesAt (CS CN CL CK tP:Addr) (H:Hp) (sa:Addr) (st:Ql89.Abs) (M:List Addr) (H0:Hp):Prop where
 ob:∃dx fs nv kl lv,H sa=some (.ins CS dx fs)/\SesF fs nv kl lv/\StateAt CN CL CK tP H sa nv kl lv M H0 st
 sM:sa∈M
 ty:∀a∈M,(∃l,H a=some (.lst l))\/∃C dx fs,H a=some (.ins C dx fs)
structure Eff (tP:Addr) (M M':List Addr) (H0 H0' H H':Hp):Prop where
 k:∀b o,b≠tP->b∉M->H b=some o->H' b=some o
 m:∀b∈M',b∈M\/H b=none
 h:∀b l,b∉M->H b=some (.lst l)->H0 b=none->H0' b=none
section
variable {CS CN CL CK tP:Addr} {H H' H1 H2:Hp} {sa:Addr} {st:Ql89.Abs} {M M' M1 M2:List Addr} {H0 H01 H02:Hp}
theorem Eff.of (s:Same H H'):Eff tP M M H0 H0 H H':=⟨fun b o _ _ e=>s b o e,fun b h=>.inl h,fun b l _ _ e=>e⟩
theorem tab_lst {b:Addr} {l:List V} (t:Tab H tP) (e:H b=some (.lst l)):b≠tP:=fun z=>by
 obtain ⟨ps,hp⟩:=t.some
 rw [z,hp] at e
 cases e
theorem Eff.trans (a:Eff tP M M1 H0 H01 H H1) (b:Eff tP M1 M2 H01 H02 H1 H2) (t:Tab H tP) (t1:Tab H1 tP):Eff tP M M2 H0 H02 H H2:=by
 have notM:∀{c o},c∉M->H c=some o->c∉M1:=fun {c o} n2 e z=>by
  rcases a.m c z with q | q
  ·exact n2 q
  ·rw [q] at e;cases e
 refine ⟨fun c o n1 n2 e=>b.k c o n1 (notM n2 e) (a.k c o n1 n2 e),fun c hc=>?_,fun c l n2 e n=>?_⟩
 ·rcases b.m c hc with q | q
  ·exact a.m c q
  ·by_cases hM:c∈M
   ·exact .inl hM
   ·right
    cases e:H c with
    | none=>rfl
    | some o=>
     by_cases hp:c=tP
     ·obtain ⟨ps,z⟩:=t1.some
      rw [hp,z] at q;cases q
     ·rw [a.k c o hp hM e] at q;cases q
 ·exact b.h c l (notM n2 e) (a.k c _ (tab_lst t e) n2 e) (a.h c l n2 e n)
theorem LiveP.mono {n:Ql89.Net} {l:List Nat} {na kl lv:Addr} {kas:List Addr} {cs:List Cols} {las:List Addr} (h:LiveP CN CL CK tP H n l sa na kl lv M H0 kas cs las) (s:Same H H'):LiveP CN CL CK tP H' n l sa na kl lv M H0 kas cs las:=
 ⟨h.sm.trans s,h.own,h.net,h.ok,h.kl,h.kept.mono s,h.kM,h.cM,h.lM,h.lc,h.sk,h.knd,s _ _ h.lev,h.ll,h.las,h.len,h.wd,h.tp⟩
theorem SesAt.mono (h:SesAt CS CN CL CK tP H sa st M H0) (s:Same H H'):SesAt CS CN CL CK tP H' sa st M H0:=by
 obtain ⟨⟨dx,fs,nv,kl,lv,h1,h2,h3⟩,h4,h5⟩:=h
 refine ⟨⟨dx,fs,nv,kl,lv,s _ _ h1,h2,?_⟩,h4,fun a ha=>?_⟩
 ·cases st with
  | none=>exact h3
  | some x=>
   obtain ⟨na,kas,cs,las,e,L⟩:=h3
   exact ⟨na,kas,cs,las,e,L.mono s⟩
 ·rcases h5 a ha with ⟨l,q⟩ | ⟨C,dx,fs,q⟩
  ·exact .inl ⟨l,s _ _ q⟩
  ·exact .inr ⟨C,dx,fs,s _ _ q⟩
end
theorem keptAt_keep {CK a:Addr} {H H':Hp} {d:Nat} {past:List Ql89.Pair} {ks vs:List Addr} (h:KeptAt CK H a d past ks vs) (s:∀b o,H b=some o->((∃l,o=.lst l)\/∃C dx fs,o=.ins C dx fs)->H' b=some o):KeptAt CK H' a d past ks vs:=by
 obtain ⟨dx,fs,kc,vc,e1,e2,e3,e4,e4',e5,e6,e7,e8,e9⟩:=h.ob
 exact ⟨⟨dx,fs,kc,vc,s _ _ e1 (.inr ⟨_,_,_,rfl⟩),e2,e3,e4,e4',e5,s _ _ e6 (.inl ⟨_,rfl⟩),s _ _ e7 (.inl ⟨_,rfl⟩),e8,e9⟩,Paired.mapP h.ck fun c b q=>s _ _ q (.inl ⟨_,rfl⟩),Paired.mapP h.cv fun c b q=>s _ _ q (.inl ⟨_,rfl⟩),h.nd⟩
theorem SesAt.tabs {CS CN CL CK tP:Addr} {H H':Hp} {sa:Addr} {st:Ql89.Abs} {M:List Addr} {H0:Hp} (h:SesAt CS CN CL CK tP H sa st M H0) (t:Tab H tP) (s:But tP H H'):SesAt CS CN CL CK tP H' sa st M H0:=by
 have kp:∀b o,H b=some o->((∃l,o=.lst l)\/∃C dx fs,o=.ins C dx fs)->H' b=some o:=fun b o e ho=>s b o (fun z=>by
  obtain ⟨ps,q⟩:=t.some
  rw [z,q] at e
  cases e
  rcases ho with ⟨_,z⟩ | ⟨_,_,_,z⟩ <;> cases z) e
 obtain ⟨⟨dx,fs,nv,kl,lv,h1,h2,h3⟩,h4,h5⟩:=h
 refine ⟨⟨dx,fs,nv,kl,lv,kp _ _ h1 (.inr ⟨_,_,_,rfl⟩),h2,?_⟩,h4,fun a ha=>?_⟩
 ·cases st with
  | none=>exact h3
  | some x=>
   obtain ⟨na,kas,cs,las,e,L⟩:=h3
   exact ⟨na,kas,cs,las,e,fun b o e=>s b o (fun z=>by rw [z,L.tp] at e;cases e) (L.sm _ _ e),L.own,L.net,L.ok,L.kl,⟨L.kept.l1,L.kept.l2,fun i ka p c q1 q2 q3=>keptAt_keep (L.kept.at_ i ka p c q1 q2 q3) kp,L.kept.nd⟩,L.kM,L.cM,L.lM,L.lc,L.sk,L.knd,kp _ _ L.lev (.inl ⟨_,rfl⟩),L.ll,L.las,L.len,L.wd,L.tp⟩
 ·rcases h5 a ha with ⟨l,q⟩ | ⟨C,dx,fs,q⟩
  ·exact .inl ⟨l,kp _ _ q (.inl ⟨_,rfl⟩)⟩
  ·exact .inr ⟨C,dx,fs,kp _ _ q (.inr ⟨_,_,_,rfl⟩)⟩
theorem nk1:¬(("net" : Str) = "kept_layers"):=by decide +kernel
theorem nl1:¬(("net" : Str) = "levels"):=by decide +kernel
theorem kl1:¬(("kept_layers" : Str) = "levels"):=by decide +kernel
theorem putF_leS (f:Str) (v:V):∀fs:List (Str×V),(putF f v fs).length<=fs.length + 1
 | []=>by show 1<=0 + 1;omega
 | (g,x) :: r=>by
  unfold putF
  by_cases hg:g=f
  ·rw [if_pos hg,List.length_cons,List.length_cons]
   omega
  ·rw [if_neg hg,List.length_cons,List.length_cons]
   have:=putF_leS f v r
   omega
theorem at_last {xs:List V} {v:V} (h:0 < xs.length) (e:xs[xs.length - 1]? = some v):atI xs (-1)=some v:=by
 unfold atI ixN
 rw [if_neg (by omega),if_pos (by omega)]
 show xs[((-1:Int) + xs.length).toNat]? = _
 have:((-1:Int) + xs.length).toNat=xs.length - 1:=by omega
 rw [this]
 exact e
section
variable {P:Program} {w:World} {K:PySem.W.Frag} {mg:Str->Option Value} {base:Heap} {CS CN CL CK tP:Addr}
def spSI (CS CN CL CK tP:Addr):Sp:=fun vs H Q _=>∃(x dx:Addr),vs=[.ref x]/\H x=some (.ins CS dx [])/\∀H',(∀b o,b≠x->H b=some o->H' b=some o)->SesAt CS CN CL CK tP H' x none [x] (fun _=>none)->Q .non H'
theorem scSI:FnScope ["self"] ["self"] (defScope sSI):=⟨rfl,rfl,rfl,by decide +kernel,rfl,by decide +kernel,by decide +kernel⟩
theorem ok_SI {f:Addr} {fd:FuncData} (F:Fun K "__init__" "Session.__init__" sSI f fd) (T:Attrs K CS sesA):FnOk P w K mg base CX0 1 f fd ["self"] (spSI CS CN CL CK tP):=by
 refine F.ok scSI (fun vs H Q E h=>?_) (fun cdv A outer s H vs Q E hr h=>?_)
 ·obtain ⟨x,dx,rfl,_⟩:=h
  rfl
 ·obtain ⟨x,dx,rfl,hx,k⟩:=h
  refine ⟨_,pss_cons (ps_fld (pv 0) pe_non rfl) (pss_cons (ps_fld (pv 0) (pe_lst pa_nil) rfl) (pss_one (ps_fld (pv 0) (pe_lst pa_nil) rfl))),?_⟩
  refine ⟨_,rfl,x,CS,dx,_,rfl,hx,T.cl,T.no "net" (by decide +kernel),(by show 0 < 1000;decide),?_⟩
  refine ⟨by show 0<=sizeLine;exact Nat.zero_le _,fun L1 hL1=>?_⟩
  have hxL1:x≠L1:=fun z=>by rw [<-z,upd_same] at hL1;cases hL1
  refine ⟨_,rfl,x,CS,dx,_,rfl,by rw [upd_ne hxL1];exact upd_same,T.cl,T.no "kept_layers" (by decide +kernel),(by show 1 < 1000;decide),?_⟩
  refine ⟨by show 0<=sizeLine;exact Nat.zero_le _,fun L2 hL2=>?_⟩
  have hxL2:x≠L2:=fun z=>by rw [<-z,upd_same] at hL2;cases hL2
  refine ⟨_,rfl,x,CS,dx,_,rfl,by rw [upd_ne hxL2];exact upd_same,T.cl,T.no "levels" (by decide +kernel),?_,?_⟩
  ·show (if ("net" : Str) = "kept_layers" then _ else _ :: _).length < 1000
   rw [if_neg nk1]
   show 2 < 1000
   decide
  refine k _ (fun b o hb e=>?_) ⟨⟨dx,_,.non,L1,L2,upd_same,⟨?_,?_,?_,?_,?_⟩,rfl⟩,by simp,fun a ha=>?_⟩
  ·rw [upd_ne hb]
   have h1:(upd H x (.ins CS dx (putF "net" V.non []))) b=some o:=by rw [upd_ne hb];exact e
   have h2:(upd (upd H x (.ins CS dx (putF "net" V.non []))) L1 (.lst [])) b=some o:=by rw [upd_ne (ne_of_none h1 hL1)];exact h1
   rw [upd_ne (ne_of_none (by rw [upd_ne hb];exact h2) hL2),upd_ne hb]
   exact h2
  ·rw [lookup_putF,if_neg nl1,lookup_putF,if_neg nk1,lookup_putF,if_pos rfl]
  ·rw [lookup_putF,if_neg kl1,lookup_putF,if_pos rfl]
  ·rw [lookup_putF,if_pos rfl]
  ·intro m hm
   have:∀m∈sesM,¬m = "levels"/\¬m = "kept_layers"/\¬m = "net":=by decide +kernel
   obtain ⟨q1,q2,q3⟩:=this m hm
   rw [lookup_putF,if_neg q1,lookup_putF,if_neg q2,lookup_putF,if_neg q3]
   rfl
  ·have h1:=putF_leS "levels" (V.ref L2) (putF "kept_layers" (V.ref L1) (putF "net" V.non []))
   have h2:=putF_leS "kept_layers" (V.ref L1) (putF "net" V.non [])
   have h3:=putF_leS "net" V.non []
   simp only [List.length_nil] at h3
   omega
  ·obtain rfl:a=x:=by simpa using ha
   exact .inr ⟨_,_,_,upd_same⟩
theorem scores_eq (n:Ql89.Net) (l:List Nat):Ql89.scores n l=scoresOf n (levelAt n l):=rfl
def spSsc (CS CN CL CK tP:Addr):Sp:=fun vs H Q _=>∃(sa:Addr) (x:Ql89.Abs_) (M:List Addr) (H0:Hp),vs=[.ref sa]/\SesAt CS CN CL CK tP H sa (some x) M H0/\x.fed≠[]/\∀D H',H D=none->Same H H'->IntsAt H' D (Ql89.scores x.net x.fed)->Q (.ref D) H'
theorem scSsc:FnScope ["self"] ["self"] (defScope sScores):=⟨rfl,rfl,rfl,by decide +kernel,rfl,by decide +kernel,by decide +kernel⟩
theorem LiveP.last {H H0:Hp} {n:Ql89.Net} {l:List Nat} {sa na kl lv:Addr} {M kas:List Addr} {cs:List Cols} {las:List Addr} (h:LiveP CN CL CK tP H n l sa na kl lv M H0 kas cs las) (hl:l≠[]):∃a,las[las.length - 1]? = some a/\IntsAt H0 a (levelAt n l):=by
 have hp:0 < l.length:=List.length_pos_iff.mpr hl
 have hll:=h.ll
 refine ⟨las[las.length - 1]'(by omega),by simp [show las.length - 1 < las.length by omega],?_⟩
 have:=h.las (las.length - 1) (las[las.length - 1]'(by omega)) (by simp [show las.length - 1 < las.length by omega])
 rw [List.take_of_length_le (by omega)] at this
 exact this
theorem ok_Ssc {f fW:Addr} {fd fdW:FuncData} (F:Fun K "scores" "Session.scores" sScores f fd) (T:Attrs K CS sesA) (WS:GFn P w K mg base CX0 2 "word_scores" fW fdW ["net","level"] (spWSc K CN CL)):FnOk P w K mg base CX0 3 f fd ["self"] (spSsc CS CN CL CK tP):=by
 refine F.ok scSsc (fun vs H Q E h=>?_) (fun cdv A outer s H vs Q E hr h=>?_)
 ·obtain ⟨sa,x,M,H0,rfl,_⟩:=h
  rfl
 ·obtain ⟨sa,x,M,H0,rfl,⟨⟨dx,fs,nv,kl,lv,hs,hf,na,kas,cs,las,rfl,L⟩,sM,ty⟩,hne,k⟩:=h
  refine ⟨_,pss_one (ps_ret (pe_call WS.ok hr rfl WS.glo WS.kp WS.b .nil pass0 (pa_cons (pe_fld (pv 0) rfl) (pa_cons (pe_ix ix_list (pe_fld (pv 0) rfl) (pe_un un_neg pe_int) (fun _ _=>rfl)) pa_nil)))),?_⟩
  obtain ⟨a,ha,hai⟩:=L.last hne
  have hp:0 < las.length:=by rw [L.ll];exact List.length_pos_iff.mpr hne
  refine ⟨_,rfl,sa,CS,dx,fs,_,rfl,hs,T.cl,T.no "net" (by decide +kernel),hf.net,_,rfl,sa,CS,dx,fs,_,rfl,hs,T.cl,T.no "levels" (by decide +kernel),hf.lev,_,rfl,lv,_,_,V.ref a,rfl,rfl,SqL.of L.lev,at_last (by rw [List.length_map];exact hp) ?_,na,a,x.net,levelAt x.net x.fed,rfl,L.net.mono L.sm,L.ok,SqL.of (L.sm _ _ hai),levelAt_len L.ok hne L.wd L.len,fun D H' hD s1 hD'=>?_⟩
  ·rw [List.getElem?_map,List.length_map,ha]
   rfl
  ·exact k D H' hD s1 (by rw [scores_eq];exact hD')
def spCost (CS CN CL CK tP:Addr):Sp:=fun vs H Q _=>∃(sa:Addr) (v:Nat) (x:Ql89.Abs_) (M:List Addr) (H0:Hp),vs=[.ref sa,.int v]/\SesAt CS CN CL CK tP H sa (some x) M H0/\x.fed≠[]/\v < x.net.words/\∀H',Same H H'->Q (.int (Ql89.greatest (Ql89.scores x.net x.fed) - (Ql89.scores x.net x.fed).getD v 0)) H'
theorem scCost:FnScope ["self","word","scores"] ["self","word"] (defScope sCost):=⟨rfl,rfl,rfl,by decide +kernel,rfl,by decide +kernel,by decide +kernel⟩
theorem ok_Cost {f fS:Addr} {fd fdS:FuncData} (F:Fun K "cost" "Session.cost" sCost f fd) (T:Attrs K CS sesA) (hmax:mg "max" = none) (Sc:MFn P w K mg base CX0 3 CS "scores" fS fdS ["self"] (spSsc CS CN CL CK tP)):FnOk P w K mg base CX0 4 f fd ["self","word"] (spCost CS CN CL CK tP):=by
 refine F.ok scCost (fun vs H Q E h=>?_) (fun cdv A outer s H vs Q E hr h=>?_)
 ·obtain ⟨sa,v,x,M,H0,rfl,_⟩:=h
  rfl
 ·obtain ⟨sa,v,x,M,H0,rfl,hS,hne,hv,k⟩:=h
  refine ⟨_,pss_cons (ps_set (i:=2) scCost.nd rfl (Or.inl rfl) (pe_meth0 (pv 0) T.cl Sc.m Sc.ok hr Sc.b .nil pass0)) (pss_one (ps_ret (pe_op op_sub (pe_callB (cr_max rfl) (by rfl) hmax PyProof.Rows.boot_max (pa_cons (pv 2) pa_nil)) (pe_ix ix_list (pv 2) (pv 1) (fun _ _=>rfl))))),?_⟩
  obtain ⟨dx,fs,nv,kl,lv,hs,hf,na,kas,cs,las,_,L⟩:=hS.ob
  obtain ⟨hw1,hw2⟩:=L.ok.words
  have hsl:=scores_len x.net x.fed
  refine ⟨_,rfl,sa,dx,fs,rfl,hs,hf.no "scores" (by decide +kernel),sa,x,M,H0,rfl,hS,hne,fun D H' hD s1 hD'=>?_⟩
  refine ⟨_,rfl,D,_,rfl,SqL.of hD',by omega,fun m hm hm2=>?_⟩
  refine ⟨_,rfl,_,rfl,D,_,_,_,rfl,rfl,SqL.of hD',ints_at (by omega) rfl,_,_,rfl,rfl,?_⟩
  rw [<-GM.greatest_is hm hm2]
  exact k H' s1
theorem KeptAt.but {a b:Addr} {H H':Hp} {d:Nat} {past:List Ql89.Pair} {ks vs:List Addr} (h:KeptAt CK H a d past ks vs) (s:∀c o,c≠b->H c=some o->H' c=some o) (h1:b≠a) (h2:b∉ks ++ vs) (h3:H b≠some (.lst (ks.map V.ref))) (h4:H b≠some (.lst (vs.map V.ref))):KeptAt CK H' a d past ks vs:=by
 obtain ⟨dx,fs,kc,vc,e1,e2,e3,e4,e4',e5,e6,e7,e8,e9⟩:=h.ob
 refine ⟨⟨dx,fs,kc,vc,s _ _ h1.symm e1,e2,e3,e4,e4',e5,s _ _ (fun z=>by rw [z] at e6;exact h3 e6) e6,s _ _ (fun z=>by rw [z] at e7;exact h4 e7) e7,e8,e9⟩,?_,?_,h.nd⟩
 ·exact paired_of (Paired.length h.ck) fun i c x hc hx=>s _ _ (fun z=>h2 (by rw [<-z];exact List.mem_append_left _ (List.mem_of_getElem? hx))) (paired_both h.ck hc hx)
 ·exact paired_of (Paired.length h.cv) fun i c x hc hx=>s _ _ (fun z=>h2 (by rw [<-z];exact List.mem_append_right _ (List.mem_of_getElem? hx))) (paired_both h.cv hc hx)
theorem KeptAll.but {b:Addr} {H H':Hp} {kas:List Addr} {d:Nat} {pasts:List (List Ql89.Pair)} {cs:List Cols} (h:KeptAll CK H kas d pasts cs) (s:∀c o,c≠b->H c=some o->H' c=some o) (h1:b∉kas) (h2:b∉allC cs) (h3:∀c∈cs,H b≠some (.lst (c.1.map V.ref))/\H b≠some (.lst (c.2.map V.ref))):KeptAll CK H' kas d pasts cs:=
 ⟨h.l1,h.l2,fun i ka past c q1 q2 q3=>KeptAt.but (h.at_ i ka past c q1 q2 q3) s (fun z=>h1 (by rw [z];exact List.mem_of_getElem? q1)) (fun z=>h2 (in_allC q3 z)) (h3 c (List.mem_of_getElem? q3)).1 (h3 c (List.mem_of_getElem? q3)).2,h.nd⟩
theorem KeptAll.colL {H:Hp} {kas:List Addr} {d:Nat} {pasts:List (List Ql89.Pair)} {cs:List Cols} (h:KeptAll CK H kas d pasts cs):∀b∈allC cs,∃is:List Int,H b=some (.lst (is.map V.int)):=fun b hb=>by
 obtain ⟨c,hc,hbc⟩:=List.mem_flatMap.mp hb
 obtain ⟨i,hi⟩:=List.getElem?_of_mem hc
 have li:i < cs.length:=(List.getElem?_eq_some_iff.mp hi).1
 have l1:=h.l1
 have l2:=h.l2
 have hK:=h.at_ i (kas[i]'(by omega)) (pasts[i]'(by omega)) c (by simp [show i < kas.length by omega]) (by simp [show i < pasts.length by omega]) hi
 rcases List.mem_append.mp hbc with z | z
 ·obtain ⟨k,hk⟩:=List.getElem?_of_mem z
  obtain ⟨is,_,q⟩:=paired_get hK.ck hk
  exact ⟨is,q⟩
 ·obtain ⟨k,hk⟩:=List.getElem?_of_mem z
  obtain ⟨is,_,q⟩:=paired_get hK.cv hk
  exact ⟨is,q⟩
theorem KeptAll.ins {H:Hp} {kas:List Addr} {d:Nat} {pasts:List (List Ql89.Pair)} {cs:List Cols} (h:KeptAll CK H kas d pasts cs):∀b∈kas,∃dx fs,H b=some (.ins CK dx fs):=fun b hb=>by
 obtain ⟨i,hi⟩:=List.getElem?_of_mem hb
 have li:i < kas.length:=(List.getElem?_eq_some_iff.mp hi).1
 have l1:=h.l1
 have l2:=h.l2
 obtain ⟨dx,fs,_,_,e,_⟩:=(h.at_ i b (pasts[i]'(by omega)) (cs[i]'(by omega)) hi (by simp [show i < pasts.length by omega]) (by simp [show i < cs.length by omega])).ob
 exact ⟨dx,fs,e⟩
theorem KeptAll.lens {H:Hp} {kas:List Addr} {d:Nat} {pasts:List (List Ql89.Pair)} {cs:List Cols} (h:KeptAll CK H kas d pasts cs):∀c∈cs,c.1.length=d/\c.2.length=d:=fun c hc=>by
 obtain ⟨i,hi⟩:=List.getElem?_of_mem hc
 have li:i < cs.length:=(List.getElem?_eq_some_iff.mp hi).1
 have l1:=h.l1
 have l2:=h.l2
 have hK:=h.at_ i (kas[i]'(by omega)) (pasts[i]'(by omega)) c (by simp [show i < kas.length by omega]) (by simp [show i < pasts.length by omega]) hi
 have e1:=Paired.length hK.ck
 have e2:=Paired.length hK.cv
 unfold colsOf at e1 e2
 exact ⟨by simpa using e1.symm,by simpa using e2.symm⟩
theorem map_ref_inj:∀{a b:List Addr},a.map V.ref=b.map V.ref->a=b
 | [],[],_=>rfl
 | [],_ :: _,h=>by cases h
 | _ :: _,[],h=>by cases h
 | x :: a,y :: b,h=>by
  rw [List.map_cons,List.map_cons] at h
  injection h with h1 h2
  injection h1 with h1
  rw [h1,map_ref_inj h2]
theorem LiveP.notC {H H0:Hp} {n:Ql89.Net} {l:List Nat} {sa na kl lv:Addr} {M kas:List Addr} {cs:List Cols} {las:List Addr} (h:LiveP CN CL CK tP H n l sa na kl lv M H0 kas cs las) {b:Addr} {xs:List V} (hx:(∃is:List Int,xs=is.map V.int)\/xs=las.map V.ref):∀c∈cs,(some (HO.lst xs)≠some (.lst (c.1.map V.ref)))/\some (HO.lst xs)≠some (.lst (c.2.map V.ref)):=by
 have key:∀ks:List Addr,ks.length=n.width->(∀a∈ks,a∈allC cs)->some (HO.lst xs)≠some (.lst (ks.map V.ref)):=fun ks hl hin e=>by
  have e:=Option.some.inj e
  injection e with e
  have hw:=h.ok.width.1
  obtain ⟨k0,hk0⟩:∃a,ks[0]? = some a:=⟨ks[0]'(by omega),by simp [show 0 < ks.length by omega]⟩
  rcases hx with ⟨is,rfl⟩ | rfl
  ·have e0:=congrArg (fun z:List V=>z[0]?) e
   simp only [List.getElem?_map,hk0] at e0
   cases q:is[0]? with
   | none=>rw [q] at e0;cases e0
   | some z=>rw [q] at e0;cases e0
  ·have e:=map_ref_inj e
   rw [<-e] at hk0
   have h1:=h.las 0 k0 hk0
   have h2:=h.own k0 (h.cM k0 (hin k0 (by rw [<-e];exact List.mem_of_getElem? hk0)))
   unfold IntsAt at h1
   rw [h2] at h1
   cases h1
 intro c hc
 obtain ⟨l1,l2⟩:=h.kept.lens c hc
 exact ⟨key c.1 l1 fun a ha=>List.mem_flatMap.mpr ⟨c,hc,List.mem_append_left _ ha⟩,key c.2 l2 fun a ha=>List.mem_flatMap.mpr ⟨c,hc,List.mem_append_right _ ha⟩⟩
def spTake (CS CN CL CK tP:Addr):Sp:=fun vs H Q _=>∃(sa:Addr) (v:Nat) (x:Ql89.Abs_) (M:List Addr) (H0:Hp),vs=[.ref sa,.int v]/\SesAt CS CN CL CK tP H sa (some x) M H0/\v < x.net.words/\x.fed.length < x.net.places/\Tab H tP/\
 ∀H' H0',SesAt CS CN CL CK tP H' sa (some ⟨x.net,x.fed ++ [v]⟩) M H0'->Eff tP M M H0 H0' H H'->Tab H' tP->Q .non H'
theorem scTake:FnScope ["self","word"] ["self","word"] (defScope sTake):=⟨rfl,rfl,rfl,by decide +kernel,rfl,by decide +kernel,by decide +kernel⟩
theorem ok_Take {f fP:Addr} {fd fdP:FuncData} (F:Fun K "take" "Session.take" sTake f fd) (T:Attrs K CS sesA) (hlen:mg "len" = none) (PW:GFn P w K mg base CX0 5 "pass_word" fP fdP ["net","kept_layers","word","place"] (spPW CN CL CK)):FnOk P w K mg base CX0 6 f fd ["self","word"] (spTake CS CN CL CK tP):=by
 refine F.ok scTake (fun vs H Q E h=>?_) (fun cdv A outer s H vs Q E hr h=>?_)
 ·obtain ⟨sa,v,x,M,H0,rfl,_⟩:=h
  rfl
 ·obtain ⟨sa,v,⟨n,l⟩,M,H0,rfl,⟨⟨dx,fs,nv,kl,lv,hs,hf,na,kas,cs,las,rfl,L⟩,sM,ty⟩,hv,hp,htab,k⟩:=h
  refine ⟨_,pss_one (ps_expr (pe_bm PySem.F.plainAttrs_list PySem.F.slot_list_append PySem.F.type_list_append mt_append (pe_fld (pv 0) rfl) (pa_cons (pe_call PW.ok hr rfl PW.glo PW.kp PW.b .nil pass0
   (pa_cons (pe_fld (pv 0) rfl) (pa_cons (pe_fld (pv 0) rfl) (pa_cons (pv 1) (pa_cons (pe_callB call_len_seq (by rfl) hlen PySem.boot_len (pa_cons (pe_fld (pv 0) rfl) pa_nil)) pa_nil))))) pa_nil))),?_⟩
  have L:LiveP CN CL CK tP H n l sa na kl lv M H0 kas cs las:=L
  have hv:v < n.words:=hv
  have hp:l.length < n.places:=hp
  have hlv:=L.lev
  have hkl:=L.sm _ _ L.kl
  have hll:=L.ll
  have kok:=kept_ok L.ok l
  have hpl:=L.ok.places
  have klc:kl∉allC cs:=fun z=>by have:=L.own kl (L.cM kl z);rw [L.kl] at this;cases this
  refine ⟨_,rfl,sa,CS,dx,fs,_,rfl,hs,T.cl,T.no "levels" (by decide +kernel),hf.lev,.inl ⟨rfl,_,SqL.of hlv⟩,?_⟩
  refine ⟨_,rfl,sa,CS,dx,fs,_,rfl,hs,T.cl,T.no "net" (by decide +kernel),hf.net,_,rfl,sa,CS,dx,fs,_,rfl,hs,T.cl,T.no "kept_layers" (by decide +kernel),hf.kep,_,rfl,_,rfl,sa,CS,dx,fs,_,rfl,hs,T.cl,T.no "levels" (by decide +kernel),hf.lev,lv,_,rfl,.inl (SqL.of hlv),?_⟩
  refine ⟨na,kl,n,v,l.length,kas,(Ql89.fed n l).kept,cs,H0,by rw [List.length_map,hll];rfl,L.sm,L.net,L.ok,hv,hp,hkl,L.kept,kok.len,fun a ha=>L.own a (L.cM a ha),klc,fun p hp'=>?_,fun D H' hD o hK hD'=>?_⟩
  ·obtain ⟨q1,q2⟩:=kok.each p hp'
   have:l.length < n.places:=hp
   exact ⟨⟨by omega,fun x hx=>(q2 x hx).1.1,fun x hx=>(q2 x hx).2.1⟩,by omega⟩
  ·have e1:(Ql89.layers n n.layers (Ql89.fed n l).kept (Ql89.comes n l.length v)).1=(Ql89.fed n (l ++ [v])).kept:=by rw [fed_snoc,feed_kept,fed_fed]
   have e2:Ql89.level n.g (Ql89.layers n n.layers (Ql89.fed n l).kept (Ql89.comes n l.length v)).2=levelAt n (l ++ [v]):=by unfold levelAt;rw [fed_snoc,feed_r,fed_fed]
   rw [e1] at hK
   rw [e2] at hD'
   have hlv':=o _ _ L.lc hlv
   have hsz:5000<=sizeLine:=by decide
   refine ⟨lv,_,_,rfl,rfl,hlv',by rw [List.length_map,hll];have:l.length < n.places:=hp;omega,?_⟩
   have hDl:D≠lv:=fun z=>by rw [z,hlv] at hD;cases hD
   have hD0:H0 D=none:=L.sm.free hD
   have s0:Same H0 (upd H0 D (.lst ((levelAt n (l ++ [v])).map V.int))):=Same.new hD0
   have hsa:sa≠lv:=ne_of hs hlv fun z=>by cases z
   have sac:sa∉allC cs:=fun z=>by
    obtain ⟨is,q⟩:=L.kept.colL sa z
    rw [hs] at q;cases q
   have lk:lv∉kas:=fun z=>by
    obtain ⟨dx,fs,q⟩:=L.kept.ins lv z
    rw [hlv] at q;cases q
   have s0':Same H0 H':=Off.same L.sm (fun a ha=>L.own a (L.cM a ha)) o
   have lv0:H0 lv=none:=L.own lv L.lM
   refine k _ (upd H0 D (.lst ((levelAt n (l ++ [v])).map V.int))) ⟨⟨dx,fs,_,kl,lv,by rw [upd_ne hsa];exact o _ _ sac hs,hf,na,kas,cs,las ++ [D],rfl,?_⟩,sM,fun a ha=>?_⟩ ⟨fun b ob hbt hb e=>?_,fun b hb=>.inl hb,fun b l' hb e e0=>?_⟩ (tab_keep htab fun b ob e n1 n2=>?_)
   ·refine ⟨fun b ob e=>?_,fun a ha=>?_,L.net.mono s0,L.ok,s0 _ _ L.kl,?_,L.kM,L.cM,L.lM,L.lc,L.sk,L.knd,by rw [upd_same,List.map_append];rfl,by rw [List.length_append,List.length_append,hll];rfl,fun t a ha=>?_,?_,fun u hu=>?_,?_⟩
    ·by_cases hb:b=D
     ·rw [hb,upd_same] at e
      cases e
      rw [hb,upd_ne hDl]
      exact hD'
     ·rw [upd_ne hb] at e
      rw [upd_ne fun z=>by rw [z,lv0] at e;cases e]
      exact s0' _ _ e
    ·rw [upd_ne fun z=>by
      rcases ty a ha with ⟨q,e⟩ | ⟨_,_,_,e⟩
      ·rw [z,hD] at e;cases e
      ·rw [z,hD] at e;cases e]
     exact L.own a ha
    ·refine KeptAll.but (b:=lv) hK (fun c ob hc e=>by rw [upd_ne hc];exact e) lk L.lc fun c hc=>?_
     rw [hlv']
     exact L.notC (b:=lv) (.inr rfl) c hc
    ·by_cases ht:t < las.length
     ·rw [List.getElem?_append_left ht] at ha
      show IntsAt _ a (levelAt n ((l ++ [v]).take (t + 1)))
      rw [List.take_append_of_le_length (show t + 1<=l.length by omega)]
      exact s0 _ _ (L.las t a ha)
     ·have htl:t=las.length:=by
       have:=(List.getElem?_eq_some_iff.mp ha).1
       rw [List.length_append] at this
       have:t < las.length + 1:=this
       omega
      rw [htl,List.getElem?_append_right (Nat.le_refl _),Nat.sub_self] at ha
      have:D=a:=by simpa using ha
      show IntsAt _ a (levelAt n ((l ++ [v]).take (t + 1)))
      rw [<-this,List.take_of_length_le (by rw [List.length_append,htl,hll];show l.length + 1<=l.length + 1;omega)]
      exact upd_same
    ·rw [List.length_append]
     exact hp
    ·rcases List.mem_append.mp hu with z | z
     ·exact L.wd u z
     ·rw [List.mem_singleton.mp z]
      exact hv
    ·rw [upd_ne fun z=>by
      obtain ⟨ps,q⟩:=htab.some
      rw [z,hD] at q;cases q]
     exact L.tp
   ·by_cases hal:a=lv
    ·exact .inl ⟨_,by rw [hal];exact upd_same⟩
    ·rw [upd_ne hal]
     by_cases hac:a∈allC cs
     ·obtain ⟨is,q⟩:=hK.colL a hac
      exact .inl ⟨_,q⟩
     ·rcases ty a ha with ⟨q,e⟩ | ⟨C,dx',fs',e⟩
      ·exact .inl ⟨_,o _ _ hac e⟩
      ·exact .inr ⟨_,_,_,o _ _ hac e⟩
   ·rw [upd_ne fun z=>hb (by rw [z];exact L.lM)]
    exact o _ _ (fun z=>hb (L.cM b z)) e
   ·rw [upd_ne fun z=>by rw [z,hD] at e;cases e]
    exact e0
   ·have hbl:b≠lv:=fun z=>by rw [z,hlv] at e;exact n1 _ (Option.some.inj e).symm
    rw [upd_ne hbl]
    refine o _ _ (fun z=>?_) e
    obtain ⟨is,q⟩:=L.kept.colL b z
    rw [e] at q
    exact n1 _ (Option.some.inj q)
end
end Go
namespace Go
open PySem L2
def Out (CS CN CL CK tP:Addr) (H:Hp) (sa:Addr) (M:List Addr) (H0:Hp) (ans:List Int) (st:Ql89.Abs) (Q:VK):Prop:=
 ∀D H' M' H0',H D=none->H' D=some (.lst (ans.map V.int))->SesAt CS CN CL CK tP H' sa st M' H0'->Eff tP M M' H0 H0' H H'->Tab H' tP->Q (.ref D) H'
section
variable {P:Program} {w:World} {K:PySem.W.Frag} {mg:Str->Option Value} {base:Heap} {CS CN CL CK tP:Addr}
theorem Out.one {H:Hp} {sa:Addr} {M:List Addr} {H0:Hp} {z:Int} {st:Ql89.Abs} {Q:VK} (k:Out CS CN CL CK tP H sa M H0 [z] st Q) (S:SesAt CS CN CL CK tP H sa st M H0) (t:Tab H tP) (L:Addr) (hL:H L=none):Q (.ref L) (upd H L (.lst [.int z])):=
 k L _ M H0 hL upd_same (S.mono (Same.new hL)) (Eff.of (Same.new hL)) (t.mono (Same.new hL))
def spTell (CS CN CL CK tP:Addr):Sp:=fun vs H Q _=>∃(sa:Addr) (x:Ql89.Abs_) (M:List Addr) (H0:Hp),vs=[.ref sa]/\SesAt CS CN CL CK tP H sa (some x) M H0/\Tab H tP/\Out CS CN CL CK tP H sa M H0 (if x.fed=[] then [-5] else (x.net.words:Int) :: Ql89.scores x.net x.fed) (some x) Q
theorem scTell:FnScope ["self"] ["self"] (defScope sTell):=⟨rfl,rfl,rfl,by decide +kernel,rfl,by decide +kernel,by decide +kernel⟩
theorem ok_Tell {f fS:Addr} {fd fdS:FuncData} (F:Fun K "tell" "Session.tell" sTell f fd) (T:Attrs K CS sesA) (TN:Attrs K CN netA) (Sc:MFn P w K mg base CX0 3 CS "scores" fS fdS ["self"] (spSsc CS CN CL CK tP)):FnOk P w K mg base CX0 4 f fd ["self"] (spTell CS CN CL CK tP):=by
 refine F.ok scTell (fun vs H Q E h=>?_) (fun cdv A outer s H vs Q E hr h=>?_)
 ·obtain ⟨sa,x,M,H0,rfl,_⟩:=h
  rfl
 ·obtain ⟨sa,x,M,H0,rfl,S,htab,k⟩:=h
  refine ⟨_,pss_cons (ps_if (pt_not (pt_truth (pe_fld (pv 0) rfl) (fun _=>rfl))) (pss_one (ps_ret (pe_lst (pa_cons (pe_un un_neg pe_int) pa_nil)))) pss_nil)
   (pss_one (ps_ret (pe_op op_cat (pe_lst (pa_cons (pe_fld (pe_fld (pv 0) rfl) rfl) pa_nil)) (pe_meth0 (pv 0) T.cl Sc.m Sc.ok hr Sc.b .nil pass0)))),?_⟩
  obtain ⟨dx,fs,nv,kl,lv,hs,hf,na,kas,cs,las,rfl,L⟩:=S.ob
  have hll:=L.ll
  refine ⟨_,rfl,sa,CS,dx,fs,_,rfl,hs,T.cl,T.no "levels" (by decide +kernel),hf.lev,_,.inl ⟨_,SqL.of L.lev,rfl⟩,?_⟩
  by_cases he:x.fed=[]
  ·have:las=[]:=List.eq_nil_of_length_eq_zero (by rw [hll,he];rfl)
   subst this
   refine iteT ?_
   rw [if_pos he] at k
   exact ⟨_,rfl,by show 1<=sizeLine;decide,fun L' hL'=>k.one S htab L' hL'⟩
  ·have hne:(!(las.map V.ref).isEmpty)=true:=by
    cases las with
    | nil=>exact absurd (List.eq_nil_of_length_eq_zero (by rw [<-hll];rfl)) he
    | cons a r=>rfl
   rw [hne]
   refine iteF ?_
   rw [if_neg he] at k
   have hn:=L.net.mono L.sm
   obtain ⟨dn,fn,hn1,nf⟩:=hn
   have hw:=L.ok.words
   have hsl:=scores_len x.net x.fed
   have hsz:5000<=sizeLine:=by decide
   refine ⟨_,rfl,sa,CS,dx,fs,_,rfl,hs,T.cl,T.no "net" (by decide +kernel),hf.net,na,CN,dn,fn,_,rfl,hn1,TN.cl,TN.no "words" (by decide +kernel),nf.words,by show 1<=sizeLine;decide,fun L1 hL1=>?_⟩
   have s1:Same H (upd H L1 (.lst [V.int x.net.words])):=Same.new hL1
   refine ⟨_,rfl,sa,dx,fs,rfl,s1 _ _ hs,hf.no "scores" (by decide +kernel),sa,x,M,H0,rfl,S.mono s1,he,fun D H' hD s2 hD'=>?_⟩
   refine ⟨L1,D,_,_,rfl,rfl,s2 _ _ upd_same,hD',by rw [List.length_map];show 1 + _<=_;omega,fun D2 hD2=>?_⟩
   have s3:Same H (upd H' D2 (.lst ([V.int x.net.words] ++ (Ql89.scores x.net x.fed).map V.int))):=(s1.trans s2).updN ((s1.trans s2).free hD2)
   exact k D2 _ M H0 ((s1.trans s2).free hD2) upd_same (S.mono s3) (Eff.of s3) (htab.mono s3)
theorem mem_allC_set:∀{cs:List Cols} {i:Nat} {c':Cols} {b:Addr},b∈allC (cs.set i c')->b∈colsIn c'\/b∈allC cs
 | [],i,c',b,h=>by simp [allC] at h
 | x :: cs,0,c',b,h=>by
  unfold allC at h |-
  rw [List.set_cons_zero,List.flatMap_cons] at h
  rw [List.flatMap_cons]
  rcases List.mem_append.mp h with z | z
  ·exact .inl z
  ·exact .inr (List.mem_append_right _ z)
 | x :: cs,i + 1,c',b,h=>by
  unfold allC at h
  rw [List.set_cons_succ,List.flatMap_cons] at h
  have e:allC (x :: cs)=colsIn x ++ allC cs:=by unfold allC;rw [List.flatMap_cons]
  rw [e]
  rcases List.mem_append.mp h with z | z
  ·exact .inr (List.mem_append_left _ z)
  ·rcases mem_allC_set (cs:=cs) z with q | q
   ·exact .inl q
   ·exact .inr (List.mem_append_right _ q)
theorem allC_set:∀{cs:List Cols} {i:Nat} {c':Cols},(allC cs).Nodup->(colsIn c').Nodup->(∀b∈colsIn c',b∉allC cs)->(allC (cs.set i c')).Nodup
 | [],i,c',h,_,_=>h
 | x :: cs,0,c',h,h1,h2=>by
  have e:allC (x :: cs)=colsIn x ++ allC cs:=by unfold allC;rw [List.flatMap_cons]
  have e':allC (c' :: cs)=colsIn c' ++ allC cs:=by unfold allC;rw [List.flatMap_cons]
  rw [e] at h h2
  rw [List.set_cons_zero,e']
  obtain ⟨_,q2,_⟩:=List.nodup_append.mp h
  exact List.nodup_append.mpr ⟨h1,q2,fun a ha b hb z=>h2 a ha (List.mem_append_right _ (by rw [z];exact hb))⟩
 | x :: cs,i + 1,c',h,h1,h2=>by
  have e:allC (x :: cs)=colsIn x ++ allC cs:=by unfold allC;rw [List.flatMap_cons]
  have e':allC (x :: cs.set i c')=colsIn x ++ allC (cs.set i c'):=by unfold allC;rw [List.flatMap_cons]
  rw [e] at h h2
  rw [List.set_cons_succ,e']
  obtain ⟨q1,q2,q3⟩:=List.nodup_append.mp h
  refine List.nodup_append.mpr ⟨q1,allC_set q2 h1 fun b hb z=>h2 b hb (List.mem_append_right _ z),fun a ha b hb z=>?_⟩
  rcases mem_allC_set hb with q | q
  ·exact h2 b q (List.mem_append_left _ (by rw [<-z];exact ha))
  ·exact q3 a ha b q z
theorem KeptAll.forget {H H':Hp} {kas:List Addr} {d i:Nat} {pasts:List (List Ql89.Pair)} {cs:List Cols} {ka:Addr} {past':List Ql89.Pair} {ks vs:List Addr} (h:KeptAll CK H kas d pasts cs) (knd:kas.Nodup) (h1:kas[i]? = some ka) (s:∀b o,b≠ka->H b=some o->H' b=some o) (hK:KeptAt CK H' ka d past' ks vs) (hf:∀b∈ks ++ vs,H b=none) :
  KeptAll CK H' kas d (pasts.set i past') (cs.set i (ks,vs)):=by
 have li:i < kas.length:=(List.getElem?_eq_some_iff.mp h1).1
 have l1:=h.l1
 have l2:=h.l2
 obtain ⟨dx,fs,hka⟩:=h.ins ka (List.mem_of_getElem? h1)
 refine ⟨by rw [List.length_set];exact l1,by rw [List.length_set,List.length_set];exact l2,fun j kb pb cb q1 q2 q3=>?_,?_⟩
 ·by_cases hj:j=i
  ·subst hj
   rw [h1] at q1
   cases q1
   rw [List.getElem?_set_self (by omega)] at q2 q3
   cases q2
   cases q3
   exact hK
  ·rw [List.getElem?_set_ne (Ne.symm hj)] at q2 q3
   refine KeptAt.but (b:=ka) (h.at_ j kb pb cb q1 q2 q3) s (fun z=>hj ?_) (fun z=>?_) (by rw [hka];intro z;cases z) (by rw [hka];intro z;cases z)
   ·rw [<-z] at q1
    exact nd_ix knd q1 h1
   ·obtain ⟨is,q⟩:=h.colL ka (in_allC q3 z)
    rw [hka] at q
    cases q
 ·refine allC_set h.nd hK.nd fun b hb z=>?_
  obtain ⟨is,q⟩:=h.colL b z
  rw [hf b hb] at q
  cases q
theorem cut_takeV (xs:List V) (k:Nat):cutV xs none (some (k:Int))=xs.take k:=by
 unfold cutV
 rw [HT.sIx_none,HT.sIx_nat,List.drop_zero,Nat.sub_zero]
 by_cases h:k<=xs.length
 ·rw [Nat.min_eq_left h]
 ·rw [Nat.min_eq_right (by omega),List.take_of_length_le (Nat.le_refl _),List.take_of_length_le (by omega)]
theorem SesF.levels {fs:List (Str×V)} {nv:V} {kl lv:Addr} (h:SesF fs nv kl lv) (lv':Addr):SesF (putF "levels" (.ref lv') fs) nv kl lv':=by
 have no:∀m∈sesM,¬m = "levels":=by decide +kernel
 refine ⟨?_,?_,?_,fun m hm=>?_,by rw [putF_len h.lev];exact h.len⟩
 ·rw [lookup_putF,if_neg nl1];exact h.net
 ·rw [lookup_putF,if_neg kl1];exact h.kep
 ·rw [lookup_putF,if_pos rfl]
 ·rw [lookup_putF,if_neg (no m hm)];exact h.no m hm
def spForget (CS CN CL CK tP:Addr):Sp:=fun vs H Q _=>∃(sa:Addr) (k:Int) (x:Ql89.Abs_) (M:List Addr) (H0:Hp),vs=[.ref sa,.int k]/\SesAt CS CN CL CK tP H sa (some x) M H0/\Tab H tP/\
 (¬(0<=k/\k<=x.fed.length)->Out CS CN CL CK tP H sa M H0 [-1] (some x) Q)/\∀j:Nat,k=(j:Int)->j<=x.fed.length->Out CS CN CL CK tP H sa M H0 [(j:Int)] (some ⟨x.net,x.fed.take j⟩) Q
theorem scForget:FnScope ["self","k","kept"] ["self","k"] (defScope sForget):=⟨rfl,rfl,rfl,by decide +kernel,rfl,by decide +kernel,by decide +kernel⟩
theorem ok_Forget {f fK:Addr} {fd fdK:FuncData} (F:Fun K "forget" "Session.forget" sForget f fd) (T:Attrs K CS sesA) (TK:Attrs K CK kepA) (hlen:mg "len" = none) (KO:MFn P w K mg base CX0 1 CK "keep_only" fK fdK ["self","words"] (spKO CK)):FnOk P w K mg base CX0 2 f fd ["self","k"] (spForget CS CN CL CK tP):=by
 refine F.ok scForget (fun vs H Q E h=>?_) (fun cdv A outer s H vs Q E hr h=>?_)
 ·obtain ⟨sa,k,x,M,H0,rfl,_⟩:=h
  rfl
 ·obtain ⟨sa,k0,⟨n,l⟩,M,H0,rfl,S,htab,kbad,kok⟩:=h
  refine ⟨_,pss_cons (ps_if (PW.pt (pw_or (pt_cmpR op_lt (pv 1) pe_int (nomark _)) (pw_or1 (pt_cmpR op_gt (pv 1) (pe_callB call_len_seq (by rfl) hlen PySem.boot_len (pa_cons (pe_fld (pv 0) rfl) pa_nil)) (nomark _))))) (pss_one (ps_ret (pe_lst (pa_cons (pe_un un_neg pe_int) pa_nil)))) pss_nil)
   (pss_cons (ps_fld (pv 0) (pe_slice sl_list (pe_fld (pv 0) rfl) po_none (po_some (pv 1))) rfl)
   (pss_cons (ps_for PassesOwn.never rfl (pi_list (pe_fld (pv 0) rfl)) (pg_name (i:=2) scForget.nd rfl (Or.inl rfl)) (pss_one (ps_expr (pe_meth (pv 2) TK.cl KO.m KO.ok hr KO.b .nil pass0 (pa_cons (pv 1) pa_nil)))))
   (pss_one (ps_ret (pe_lst (pa_cons (pv 1) pa_nil)))))),?_⟩
  obtain ⟨dx,fs,nv,kl,lv,hs,hf,na,kas,cs,las,rfl,L⟩:=S.ob
  have L:LiveP CN CL CK tP H n l sa na kl lv M H0 kas cs las:=L
  have hll:las.length=l.length:=L.ll
  have hml:(las.map V.ref).length=l.length:=by rw [List.length_map,hll]
  have kbad:¬(0<=k0/\k0<=(l.length:Int))->Out CS CN CL CK tP H sa M H0 [-1] (some ⟨n,l⟩) Q:=kbad
  have kok:∀j:Nat,k0=(j:Int)->j<=l.length->Out CS CN CL CK tP H sa M H0 [(j:Int)] (some ⟨n,l.take j⟩) Q:=kok
  refine ⟨_,rfl,_,_,rfl,rfl,_,rfl,?_⟩
  refine ite2 (fun hc=>?_) (fun hc=>?_)
  ·have hc:=of_decide_eq_true hc
   refine iteT ?_
   exact ⟨_,rfl,by show 1<=sizeLine;decide,fun L' hL'=>(kbad (by omega)).one S htab L' hL'⟩
  have hc:¬k0 < 0:=fun z=>hc (decide_eq_true z)
  refine ⟨_,rfl,_,rfl,sa,CS,dx,fs,_,rfl,hs,T.cl,T.no "levels" (by decide +kernel),hf.lev,lv,_,rfl,.inl (SqL.of L.lev),_,_,rfl,rfl,_,rfl,?_⟩
  rw [hml]
  refine ite2 (fun hc2=>?_) (fun hc2=>?_)
  ·have hc2:=of_decide_eq_true hc2
   exact ⟨_,rfl,by show 1<=sizeLine;decide,fun L' hL'=>(kbad (by omega)).one S htab L' hL'⟩
  have hc2:¬(l.length:Int) < k0:=fun z=>hc2 (decide_eq_true z)
  obtain ⟨j,rfl⟩:∃j:Nat,k0=(j:Int):=⟨k0.toNat,by omega⟩
  have hj:j<=l.length:=by omega
  have kk:=kok j rfl hj
  refine ⟨_,rfl,sa,CS,dx,fs,_,rfl,hs,T.cl,T.no "levels" (by decide +kernel),hf.lev,_,rfl,_,rfl,lv,_,rfl,SqL.of L.lev,fun lv' hlv'=>?_⟩
  rw [cut_takeV]
  have s1:Same H (upd H lv' (.lst ((las.map V.ref).take j))):=Same.new hlv'
  have hsl:sa≠lv':=ne_of_none hs hlv'
  refine ⟨_,rfl,sa,CS,dx,fs,rfl,s1 _ _ hs,T.cl,T.no "levels" (by decide +kernel),by have:=hf.len;omega,?_⟩
  have hf':=hf.levels lv'
  have hkl:H kl=some (.lst (kas.map V.ref)):=L.sm _ _ L.kl
  have kls:kl≠sa:=ne_of hkl hs fun z=>by cases z
  have klv:kl≠lv':=ne_of_none hkl hlv'
  have hkl2:(upd (upd H lv' (.lst ((las.map V.ref).take j))) sa (.ins CS dx (putF "levels" (V.ref lv') fs))) kl=some (.lst (kas.map V.ref)):=by rw [upd_ne kls,upd_ne klv];exact hkl
  refine ⟨_,rfl,sa,CS,dx,_,_,rfl,upd_same,T.cl,T.no "kept_layers" (by decide +kernel),hf'.kep,kl,rfl,⟨_,SqL.of hkl2⟩,?_⟩
  have kas0:∀a∈kas,H0 a=none:=fun a ha=>L.own a (L.kM a ha)
  have klk:kl∉kas:=fun z=>by have:=L.kl;rw [kas0 kl z] at this;cases this
  obtain ⟨hw1,hw2⟩:=L.ok.width
  have okl:=kept_ok L.ok l
  have b1:∀b o,b≠sa->H b=some o->(upd (upd H lv' (.lst ((las.map V.ref).take j))) sa (.ins CS dx (putF "levels" (V.ref lv') fs))) b=some o:=fun b o hb e=>by rw [upd_ne hb];exact s1 _ _ e
  have hs1:(upd (upd H lv' (.lst ((las.map V.ref).take j))) sa (.ins CS dx (putF "levels" (V.ref lv') fs))) sa=some (.ins CS dx (putF "levels" (V.ref lv') fs)):=upd_same
  have hl1:(upd (upd H lv' (.lst ((las.map V.ref).take j))) sa (.ins CS dx (putF "levels" (V.ref lv') fs))) lv'=some (.lst ((las.map V.ref).take j)):=by rw [upd_ne hsl.symm];exact upd_same
  have sac:sa∉allC cs:=fun z=>by
   obtain ⟨is,q⟩:=L.kept.colL sa z
   rw [hs] at q;cases q
  have hK1:KeptAll CK (upd (upd H lv' (.lst ((las.map V.ref).take j))) sa (.ins CS dx (putF "levels" (V.ref lv') fs))) kas n.width (Ql89.fed n l).kept cs:=
   KeptAll.but (b:=sa) (L.kept.mono s1) (fun c o hc e=>by rw [upd_ne hc];exact e) L.sk sac fun c hc=>by
    have:=s1 _ _ hs
    exact ⟨(by rw [this];intro z;cases z),(by rw [this];intro z;cases z)⟩
  generalize (upd (upd H lv' (.lst ((las.map V.ref).take j))) sa (.ins CS dx (putF "levels" (V.ref lv') fs)))=H1 at hkl2 b1 hs1 hl1 hK1 |-
  have lvk:lv'∉kas:=fun z=>by
   obtain ⟨_,_,q⟩:=L.kept.ins lv' z
   rw [hlv'] at q;cases q
  have hkl':kas.length=(Ql89.fed n l).kept.length:=L.kept.l1
  have sk:sa∉kas:=L.sk
  have fr:∀{cs':List Cols} {ps:List (List Ql89.Pair)} {H':Hp},KeptAll CK H' kas n.width ps cs'->(∀b o,b∉kas->H1 b=some o->H' b=some o)->∀b,H' b=none->H b=none:=fun {cs' ps H'} hK o b e=>by
   cases q:H b with
   | none=>rfl
   | some u=>
    by_cases hb:b∈kas
    ·obtain ⟨_,_,z⟩:=hK.ins b hb
     rw [e] at z;cases z
    ·by_cases hbs:b=sa
     ·rw [hbs,o _ _ sk hs1] at e;cases e
     ·rw [o _ _ hb (b1 _ _ hbs q)] at e;cases e
  refine for_list (K:=K) (xs:=kas.map V.ref) (fun i σ H'=>∃v2 cs',σ=[some (.ref sa),some (.int j),v2]/\KeptAll CK H' kas n.width (((Ql89.fed n l).kept.take i).map (fun (p:List Ql89.Pair)=>p.take j) ++ (Ql89.fed n l).kept.drop i) cs'/\(∀b∈allC cs',b∈allC cs\/H b=none)/\lv'∉allC cs'/\∀b o,b∉kas->H1 b=some o->H' b=some o) ?_ ?_ ?_ ?_
  ·refine ⟨none,cs,rfl,hK1,fun b hb=>.inl hb,fun z=>?_,fun b o _ e=>e⟩
   obtain ⟨_,q⟩:=L.kept.colL lv' z
   rw [hlv'] at q;cases q
  ·rintro i σ H' _ ⟨v2,cs',rfl,_,_,_,o⟩
   exact SqL.of (o _ _ klk hkl2)
  ·rintro i y σ H' hy ⟨v2,cs',rfl,hK,hm,hl,o⟩
   rw [List.getElem?_map] at hy
   obtain ⟨ka,hka,rfl⟩:=Option.map_eq_some_iff.mp hy
   have hi:i < kas.length:=(List.getElem?_eq_some_iff.mp hka).1
   obtain ⟨past,hpast⟩:∃q,(Ql89.fed n l).kept[i]? = some q:=⟨(Ql89.fed n l).kept[i]'(by omega),by simp [show i < (Ql89.fed n l).kept.length by omega]⟩
   have tl:(((Ql89.fed n l).kept.take i).map (fun (p:List Ql89.Pair)=>p.take j)).length=i:=by rw [List.length_map,List.length_take];omega
   have hpi:(((Ql89.fed n l).kept.take i).map (fun (p:List Ql89.Pair)=>p.take j) ++ (Ql89.fed n l).kept.drop i)[i]? = some past:=by
    rw [List.getElem?_append_right (by omega),tl,Nat.sub_self,List.getElem?_drop]
    simpa using hpast
   have l2:=hK.l2
   have l1:=hK.l1
   obtain ⟨c,hc⟩:∃q,cs'[i]? = some q:=⟨cs'[i]'(by omega),by simp [show i < cs'.length by omega]⟩
   have hKa:=hK.at_ i ka past c hka hpi hc
   obtain ⟨dk,fk,_,_,ek,_,_,_,eko,_⟩:=hKa.ob
   refine ⟨_,rfl,ka,dk,fk,rfl,ek,eko,_,rfl,ka,n.width,j,past,c.1,c.2,rfl,hKa,⟨by omega,by omega⟩,fun H2 ks' vs' s2 hK2 hf2=>?_⟩
   refine ⟨_,cs'.set i (ks',vs'),rfl,?_,fun b hb=>?_,fun z=>?_,fun b ob hb e=>?_⟩
   ·have:=KeptAll.forget hK L.knd hka s2 hK2 hf2
    rw [List.set_append_right _ _ (by omega),tl,Nat.sub_self,drop_at hpast,List.set_cons_zero] at this
    rw [List.take_add_one,hpast,List.map_append,List.append_assoc]
    exact this
   ·rcases mem_allC_set hb with q | q
    ·exact .inr (fr hK o b (hf2 b q))
    ·exact hm b q
   ·rcases mem_allC_set z with q | q
    ·have:=hf2 lv' q
     rw [o _ _ lvk hl1] at this;cases this
    ·exact hl q
   ·exact s2 _ _ (fun z=>hb (by rw [z];exact List.mem_of_getElem? hka)) (o _ _ hb e)
  ·rintro σ H' ⟨v2,cs',rfl,hK,hm,hl,o⟩
   rw [List.length_map,hkl',List.take_length,List.drop_length,List.append_nil,<-kept_take L.ok l j hj] at hK
   refine ⟨_,rfl,by show 1<=sizeLine;decide,fun D hD=>?_⟩
   have sD:Same H' (upd H' D (.lst [V.int j])):=Same.new hD
   have sa0:H0 sa=none:=L.own sa S.sM
   refine kk D _ (lv' :: (M ++ allC cs')) H0 (fr hK o D hD) upd_same ⟨⟨dx,_,_,kl,lv',sD _ _ (o _ _ sk hs1),hf',na,kas,cs',las.take j,rfl,?_⟩,List.mem_cons_of_mem _ (List.mem_append_left _ S.sM),fun a ha=>?_⟩ ⟨fun b ob hbt hb e=>?_,fun b hb=>?_,fun b l' hb e e0=>e0⟩ (tab_keep htab fun b ob e n1 n2=>?_)
   ·refine ⟨fun b ob e=>?_,fun a ha=>?_,L.net,L.ok,L.kl,hK.mono sD,fun a ha=>List.mem_cons_of_mem _ (List.mem_append_left _ (L.kM a ha)),fun a ha=>List.mem_cons_of_mem _ (List.mem_append_right _ ha),List.mem_cons_self,hl,sk,L.knd,sD _ _ (by rw [List.map_take];exact o _ _ lvk hl1),?_,fun t a ha=>?_,?_,fun u hu=>L.wd u (List.mem_of_mem_take hu),L.tp⟩
    ·exact sD _ _ (o _ _ (fun z=>by rw [kas0 b z] at e;cases e) (b1 _ _ (fun z=>by rw [z,sa0] at e;cases e) (L.sm _ _ e)))
    ·rcases List.mem_cons.mp ha with rfl | ha
     ·exact L.sm.free hlv'
     ·rcases List.mem_append.mp ha with ha | ha
      ·exact L.own a ha
      ·rcases hm a ha with q | q
       ·exact L.own a (L.cM a q)
       ·exact L.sm.free q
    ·show (las.take j).length=(l.take j).length
     rw [List.length_take,List.length_take,hll]
    ·show IntsAt H0 a (levelAt n ((l.take j).take (t + 1)))
     have ht:t < j:=by
      have:=(List.getElem?_eq_some_iff.mp ha).1
      rw [List.length_take] at this
      omega
     rw [List.getElem?_take_of_lt ht] at ha
     rw [List.take_take,Nat.min_eq_left (by omega)]
     exact L.las t a ha
    ·show (l.take j).length<=n.places
     have:=L.len
     rw [List.length_take]
     omega
   ·have key:(∃l,H' a=some (.lst l))\/∃C dx fs,H' a=some (.ins C dx fs):=by
     rcases List.mem_cons.mp ha with rfl | ha
     ·exact .inl ⟨_,o _ _ lvk hl1⟩
     ·rcases List.mem_append.mp ha with ha | ha
      ·by_cases hak:a∈kas
       ·obtain ⟨_,_,q⟩:=hK.ins a hak
        exact .inr ⟨_,_,_,q⟩
       ·by_cases has:a=sa
        ·exact .inr ⟨_,_,_,by rw [has];exact o _ _ sk hs1⟩
        ·rcases S.ty a ha with ⟨_,q⟩ | ⟨_,_,_,q⟩
         ·exact .inl ⟨_,o _ _ hak (b1 _ _ has q)⟩
         ·exact .inr ⟨_,_,_,o _ _ hak (b1 _ _ has q)⟩
      ·obtain ⟨_,q⟩:=hK.colL a ha
       exact .inl ⟨_,q⟩
    rcases key with ⟨_,q⟩ | ⟨_,_,_,q⟩
    ·exact .inl ⟨_,sD _ _ q⟩
    ·exact .inr ⟨_,_,_,sD _ _ q⟩
   ·exact sD _ _ (o _ _ (fun z=>hb (L.kM b z)) (b1 _ _ (fun z=>hb (by rw [z];exact S.sM)) e))
   ·rcases List.mem_cons.mp hb with rfl | hb
    ·exact .inr hlv'
    ·rcases List.mem_append.mp hb with hb | hb
     ·exact .inl hb
     ·rcases hm b hb with q | q
      ·exact .inl (L.cM b q)
      ·exact .inr q
   ·refine sD _ _ (o _ _ (fun z=>?_) (b1 _ _ (fun z=>?_) e))
    ·obtain ⟨_,_,q⟩:=L.kept.ins b z
     rw [e] at q
     exact n2 _ _ _ (Option.some.inj q)
    ·rw [z,hs] at e
     exact n2 _ _ _ (Option.some.inj e).symm
end
end Go
namespace Go
open PySem L2
section
variable {P:Program} {w:World} {K:PySem.W.Frag} {mg:Str->Option Value} {base:Heap} {CS CN CL CK tP:Addr}
def spFeed (CS CN CL CK tP:Addr):Sp:=fun vs H Q _=>∃(sa d:Addr) (ws:List Nat) (x:Ql89.Abs_) (M:List Addr) (H0:Hp),vs=[.ref sa,.ref d]/\SesAt CS CN CL CK tP H sa (some x) M H0/\Tab H tP/\H d=some (.lst (natI ws))/\d∉M/\ws.length<=100000/\
 (256 < ws.length->Out CS CN CL CK tP H sa M H0 [-1] (some x) Q)/\(ws.length<=256->(∃v∈ws,x.net.words<=v)->Out CS CN CL CK tP H sa M H0 [-3] (some x) Q)/\
 (ws.length<=256->(∀v∈ws,v < x.net.words)->x.net.places < x.fed.length + ws.length->Out CS CN CL CK tP H sa M H0 [-4] (some x) Q)/\
 (ws.length<=256->(∀v∈ws,v < x.net.words)->x.fed.length + ws.length<=x.net.places->Out CS CN CL CK tP H sa M H0 [((x.fed.length + ws.length:Nat):Int),Ql89.cost x.net x.fed ws] (some ⟨x.net,x.fed ++ ws⟩) Q)
theorem scFeed:FnScope ["self","words","cost","word"] ["self","words"] (defScope sFeed):=⟨rfl,rfl,rfl,by decide +kernel,rfl,by decide +kernel,by decide +kernel⟩
theorem ok_Feed {f fC fT:Addr} {fd fdC fdT:FuncData} (F:Fun K "feed" "Session.feed" sFeed f fd) (T:Attrs K CS sesA) (TN:Attrs K CN netA) (hlen:mg "len" = none) (hany:mg "any" = none) (hmost:∃t,mg "MOST_AT_ONCE" = some (.int 256 t))
  (Co:MFn P w K mg base CX0 4 CS "cost" fC fdC ["self","word"] (spCost CS CN CL CK tP)) (Ta:MFn P w K mg base CX0 6 CS "take" fT fdT ["self","word"] (spTake CS CN CL CK tP)):FnOk P w K mg base CX0 7 f fd ["self","words"] (spFeed CS CN CL CK tP):=by
 refine F.ok scFeed (fun vs H Q E h=>?_) (fun cdv A outer s H vs Q E hr h=>?_)
 ·obtain ⟨sa,d,ws,x,M,H0,rfl,_⟩:=h
  rfl
 ·obtain ⟨sa,d,ws,⟨n,l⟩,M,H0,rfl,S,htab,hd,hdM,hwl,k1,k2,k3,k4⟩:=h
  have hr4:Room 4 _:=hr.mono (by decide)
  refine ⟨_,pss_cons (ps_if (pt_cmpR op_gt (pe_callB call_len_seq (by rfl) hlen PySem.boot_len (pa_cons (pv 1) pa_nil)) (pe_const hmost rfl) (nomark _)) (pss_one (ps_ret (pe_lst (pa_cons (pe_un un_neg pe_int) pa_nil)))) pss_nil)
   (pss_cons (ps_if (pt_truth (pe_callB (cr_any rfl) (by rfl) hany PyProof.Rows.boot_any (pa_cons
    (pe_lc rfl scFeed.nd (pi_list (pv 1)) (blkOk_by (own:=[("word",3)]) (by kernel_rfl)) (fun _ _ _ _ _=>pg_name (i:=3) scFeed.nd rfl (Or.inl rfl)) (fun _ _ _ _ _=>pts_nil)
     (fun _ _ _ _ _=>pe_cmpR op_ge (pv 3) (pe_fldK (K:=K) rfl (pe_fldK (K:=K) rfl (pv 0) rfl) rfl) (nomark _))) pa_nil)) (fun _=>rfl)) (pss_one (ps_ret (pe_lst (pa_cons (pe_un un_neg pe_int) pa_nil)))) pss_nil)
   (pss_cons (ps_if (pt_cmpR op_gt (pe_op op_add (pe_callB call_len_seq (by rfl) hlen PySem.boot_len (pa_cons (pe_fld (pv 0) rfl) pa_nil)) (pe_callB call_len_seq (by rfl) hlen PySem.boot_len (pa_cons (pv 1) pa_nil))) (pe_fld (pe_fld (pv 0) rfl) rfl) (nomark _)) (pss_one (ps_ret (pe_lst (pa_cons (pe_un un_neg pe_int) pa_nil)))) pss_nil)
   (pss_cons (ps_set (i:=2) scFeed.nd rfl (Or.inl rfl) pe_int)
   (pss_cons (ps_for PassesOwn.never rfl (pi_list (pv 1)) (pg_name (i:=3) scFeed.nd rfl (Or.inl rfl))
    (pss_cons (ps_if (pt_truth (pe_fld (pv 0) rfl) (fun _=>rfl)) (pss_one (ps_aug (i:=2) scFeed.nd rfl (Or.inl rfl) (pe_meth (pv 0) T.cl Co.m Co.ok hr4 Co.b .nil pass0 (pa_cons (pv 3) pa_nil)) ip_add)) pss_nil)
    (pss_one (ps_expr (pe_meth (pv 0) T.cl Ta.m Ta.ok hr Ta.b .nil pass0 (pa_cons (pv 3) pa_nil))))))
   (pss_one (ps_ret (pe_lst (pa_cons (pe_callB call_len_seq (by rfl) hlen PySem.boot_len (pa_cons (pe_fld (pv 0) rfl) pa_nil)) (pa_cons (pv 2) pa_nil))))))))),?_⟩
  have hws:(natI ws).length=ws.length:=by unfold natI;rw [List.length_map]
  have hsz:200000<=sizeLine:=by decide
  have k1:256 < ws.length->Out CS CN CL CK tP H sa M H0 [-1] (some ⟨n,l⟩) Q:=k1
  have k2:ws.length<=256->(∃v∈ws,n.words<=v)->Out CS CN CL CK tP H sa M H0 [-3] (some ⟨n,l⟩) Q:=k2
  have k3:ws.length<=256->(∀v∈ws,v < n.words)->n.places < l.length + ws.length->Out CS CN CL CK tP H sa M H0 [-4] (some ⟨n,l⟩) Q:=k3
  have k4:ws.length<=256->(∀v∈ws,v < n.words)->l.length + ws.length<=n.places->Out CS CN CL CK tP H sa M H0 [((l.length + ws.length:Nat):Int),Ql89.cost n l ws] (some ⟨n,l ++ ws⟩) Q:=k4
  refine ⟨_,rfl,d,_,rfl,.inl (SqL.of hd),_,_,rfl,rfl,_,rfl,?_⟩
  rw [hws]
  refine ite2 (fun hc=>?_) (fun hc=>?_)
  ·have hc:=of_decide_eq_true hc
   exact ⟨_,rfl,by show 1<=sizeLine;decide,fun L' hL'=>(k1 (by omega)).one S htab L' hL'⟩
  have hc:¬(256:Int) < ((ws.length:Nat):Int):=fun z=>hc (decide_eq_true z)
  have hw6:ws.length<=256:=by omega
  obtain ⟨dx,fs,nv,kl,lv,hs,hf,na,kas,cs,las,rfl,L⟩:=S.ob
  have L:LiveP CN CL CK tP H n l sa na kl lv M H0 kas cs las:=L
  have hll:las.length=l.length:=L.ll
  have hml:(las.map V.ref).length=l.length:=by rw [List.length_map,hll]
  obtain ⟨dn,fn,hn1,nf⟩:=L.net.mono L.sm
  have hw:=L.ok.words
  refine ⟨_,rfl,d,rfl,⟨_,SqL.of hd⟩,fun D hD=>?_⟩
  refine lc_listV (xs:=natI ws) ((ws.map fun (v:Nat)=>decide ((n.words:Int)<=(v:Int))).map V.bl) (by unfold natI;simp) (by rw [hws];omega) (SqL.of hd) hD ?_ ?_
  ·intro i y z H' Q' hy hz s1 kQ
   unfold natI at hy
   rw [List.getElem?_map] at hy
   obtain ⟨v,hv,rfl⟩:=Option.map_eq_some_iff.mp hy
   rw [List.getElem?_map,List.getElem?_map,hv] at hz
   cases hz
   exact ⟨rfl,_,rfl,_,rfl,sa,CS,dx,fs,_,rfl,s1 _ _ hs,T.cl,T.no "net" (by decide +kernel),hf.net,na,CN,dn,fn,_,rfl,s1 _ _ hn1,TN.cl,TN.no "words" (by decide +kernel),nf.words,_,_,rfl,rfl,kQ H' (Same.refl _)⟩
  ·intro H1 s1 hD1
   refine ⟨D,_,rfl,SqL.of hD1,_,rfl,?_⟩
   have S1:=S.mono s1
   have t1:=htab.mono s1
   have out1:∀{ans:List Int} {st:Ql89.Abs},Out CS CN CL CK tP H sa M H0 ans st Q->Out CS CN CL CK tP H1 sa M H0 ans st Q:=fun k D' H' M' H0' a b c e f=>k D' H' M' H0' (s1.free a) b c ((Eff.of (H0:=H0) s1).trans e htab t1) f
   by_cases hall:∀v∈ws,v < n.words
   case neg=>
    have ef:((ws.map fun (v:Nat)=>decide ((n.words:Int)<=(v:Int))).any id)=true:=by
     rw [List.any_eq_true]
     have:∃v∈ws,n.words<=v:=Classical.byContradiction fun z=>hall fun v hv=>Nat.lt_of_not_le fun q=>z ⟨v,hv,q⟩
     obtain ⟨v,hv,q⟩:=this
     exact ⟨_,List.mem_map.mpr ⟨v,hv,rfl⟩,decide_eq_true (by omega)⟩
    rw [ef]
    refine iteT ?_
    have:∃v∈ws,n.words<=v:=Classical.byContradiction fun z=>hall fun v hv=>Nat.lt_of_not_le fun q=>z ⟨v,hv,q⟩
    exact ⟨_,rfl,by show 1<=sizeLine;decide,fun L' hL'=>(out1 (k2 hw6 this)).one S1 t1 L' hL'⟩
   have ef:((ws.map fun (v:Nat)=>decide ((n.words:Int)<=(v:Int))).any id)=false:=by
    rw [List.any_eq_false]
    intro z hz q
    obtain ⟨v,hv,rfl⟩:=List.mem_map.mp hz
    have q:=of_decide_eq_true q
    have:=hall v hv
    omega
   rw [ef]
   refine iteF ?_
   have hlv1:=s1 _ _ L.lev
   refine ⟨_,rfl,sa,CS,dx,fs,_,rfl,s1 _ _ hs,T.cl,T.no "levels" (by decide +kernel),hf.lev,lv,_,rfl,.inl (SqL.of hlv1),_,rfl,d,_,rfl,.inl (SqL.of (s1 _ _ hd)),_,_,rfl,rfl,
    _,rfl,sa,CS,dx,fs,_,rfl,s1 _ _ hs,T.cl,T.no "net" (by decide +kernel),hf.net,na,CN,dn,fn,_,rfl,s1 _ _ hn1,TN.cl,TN.no "places" (by decide +kernel),nf.places,_,_,rfl,rfl,_,rfl,?_⟩
   rw [hml,hws]
   refine ite2 (fun hc2=>?_) (fun hc2=>?_)
   ·have hc2:=of_decide_eq_true hc2
    exact ⟨_,rfl,by show 1<=sizeLine;decide,fun L' hL'=>(out1 (k3 hw6 hall (by omega))).one S1 t1 L' hL'⟩
   have hc2:¬(n.places:Int) < (l.length:Int) + (ws.length:Int):=fun z=>hc2 (decide_eq_true z)
   have hfit:l.length + ws.length<=n.places:=by omega
   have kk:=out1 (k4 hw6 hall hfit)
   have hd1:=s1 _ _ hd
   refine ⟨_,rfl,d,rfl,⟨_,SqL.of hd1⟩,?_⟩
   refine for_list (K:=K) (xs:=natI ws) (fun i σ H'=>∃v3 H0',σ=[some (.ref sa),some (.ref d),some (.int (Ql89.cost n l (ws.take i))),v3]/\SesAt CS CN CL CK tP H' sa (some ⟨n,l ++ ws.take i⟩) M H0'/\Eff tP M M H0 H0' H1 H'/\Tab H' tP) ?_ ?_ ?_ ?_
   ·refine ⟨none,H0,rfl,?_,Eff.of (Same.refl _),t1⟩
    rw [List.take_zero,List.append_nil]
    exact S1
   ·rintro i σ H' _ ⟨v3,H0',rfl,_,ef,_⟩
    exact SqL.of (ef.k _ _ (tab_lst t1 hd1) hdM hd1)
   ·rintro i y σ H' hy ⟨v3,H0',rfl,S',ef',t'⟩
    unfold natI at hy
    rw [List.getElem?_map] at hy
    obtain ⟨v,hv,rfl⟩:=Option.map_eq_some_iff.mp hy
    have hi:i < ws.length:=(List.getElem?_eq_some_iff.mp hv).1
    have hvw:=hall v (List.mem_of_getElem? hv)
    have htk:ws.take (i + 1)=ws.take i ++ [v]:=by rw [List.take_add_one,hv];rfl
    have hlt:(l ++ ws.take i).length < n.places:=by rw [List.length_append,List.length_take];omega
    obtain ⟨dx',fs',nv',kl',lv',hs',hf',na',kas',cs',las',rfl,L'⟩:=S'.ob
    have hll':las'.length=(l ++ ws.take i).length:=L'.ll
    have hco:=cost_snoc n (ws.take i) l v
    rw [<-htk] at hco
    refine ⟨_,rfl,sa,CS,dx',fs',_,rfl,hs',T.cl,T.no "levels" (by decide +kernel),hf'.lev,_,.inl ⟨_,SqL.of L'.lev,rfl⟩,?_⟩
    have fin:∀{H2:Hp} {c:Int},Same H' H2->c=Ql89.cost n l (ws.take (i + 1))->spTake CS CN CL CK tP [.ref sa,.int v] H2 (fun _ H3=>∃v3 H0',([some (.ref sa),some (.ref d),some (.int c),some (.int v)]:L2.St)=[some (.ref sa),some (.ref d),some (.int (Ql89.cost n l (ws.take (i + 1)))),v3]/\SesAt CS CN CL CK tP H3 sa (some ⟨n,l ++ ws.take (i + 1)⟩) M H0'/\Eff tP M M H0 H0' H1 H3/\Tab H3 tP) E0:=fun {H2 c} s2 hc=>by
     subst hc
     refine ⟨sa,v,⟨n,l ++ ws.take i⟩,M,H0',rfl,S'.mono s2,hvw,hlt,t'.mono s2,fun H3 H03 S3 e3 t3=>⟨_,H03,rfl,?_,?_,t3⟩⟩
     ·rw [htk,<-List.append_assoc]
      exact S3
     ·exact ef'.trans ((Eff.of (H0:=H0') s2).trans e3 t' (t'.mono s2)) t1 t'
    by_cases he:l ++ ws.take i=[]
    ·have:las'=[]:=List.eq_nil_of_length_eq_zero (by rw [hll',he];rfl)
     subst this
     refine iteF ?_
     rw [if_pos he] at hco
     exact ⟨_,rfl,sa,dx',fs',rfl,hs',hf'.no "take" (by decide +kernel),_,rfl,fin (Same.refl _) (by rw [hco];omega)⟩
    ·have hne:(!(las'.map V.ref).isEmpty)=true:=by
      cases las' with
      | nil=>exact absurd (List.eq_nil_of_length_eq_zero (by rw [<-hll'];rfl)) he
      | cons a r=>rfl
     rw [hne]
     refine iteT ?_
     rw [if_neg he] at hco
     refine ⟨_,rfl,_,rfl,sa,dx',fs',rfl,hs',hf'.no "cost" (by decide +kernel),_,rfl,sa,v,⟨n,l ++ ws.take i⟩,M,H0',rfl,S',he,hvw,fun H2 s2=>?_⟩
     refine ⟨_,_,rfl,rfl,?_⟩
     exact ⟨_,rfl,sa,dx',fs',rfl,s2 _ _ hs',hf'.no "take" (by decide +kernel),_,rfl,fin s2 hco.symm⟩
   ·rintro σ H' ⟨v3,H0',rfl,S',ef',t'⟩
    rw [hws,List.take_length] at S' |-
    obtain ⟨dx',fs',nv',kl',lv',hs',hf',na',kas',cs',las',rfl,L'⟩:=S'.ob
    have hll':las'.length=(l ++ ws).length:=L'.ll
    refine ⟨_,rfl,sa,CS,dx',fs',_,rfl,hs',T.cl,T.no "levels" (by decide +kernel),hf'.lev,lv',_,rfl,.inl (SqL.of L'.lev),_,rfl,by show 2<=sizeLine;decide,fun D' hD'=>?_⟩
    have s2:Same H' (upd H' D' (.lst [V.int ((las'.map V.ref).length:Nat),V.int (Ql89.cost n l ws)])):=Same.new hD'
    refine kk D' _ M H0' ?_ ?_ (S'.mono s2) (ef'.trans (Eff.of s2) t1 t') (t'.mono s2)
    ·cases q:H1 D' with
     | none=>rfl
     | some o=>
      by_cases hM:D'∈M
      ·rcases S'.ty D' hM with ⟨_,z⟩ | ⟨_,_,_,z⟩
       ·rw [hD'] at z;cases z
       ·rw [hD'] at z;cases z
      ·by_cases hp:D'=tP
       ·obtain ⟨ps,z⟩:=t'.some
        rw [hp,z] at hD';cases hD'
       ·rw [ef'.k _ _ hp hM q] at hD';cases hD'
    ·rw [upd_same,List.length_map,hll',List.length_append]
     rfl
end
end Go
namespace Go
open PySem L2
def Off2 (r x:Addr) (H H':Hp):Prop:=∀b o,b≠r->b≠x->H b=some o->H' b=some o
theorem Off2.but {r x:Addr} {H H1 H':Hp} (o:Off2 r x H H1) (e:But r H1 H'):Off2 r x H H':=fun b ob h1 h2 q=>e b ob h1 (o b ob h1 h2 q)
theorem Off2.upd {r x:Addr} {H H1:Hp} {u:HO} (o:Off2 r x H H1):Off2 r x H (L2.upd H1 x u):=fun b ob h1 h2 q=>by rw [upd_ne h2];exact o b ob h1 h2 q
theorem Off2.refl (r x:Addr) (H:Hp):Off2 r x H H:=fun _ _ _ _ q=>q
theorem Off2.of {r x:Addr} {H H':Hp} (e:But r H H'):Off2 r x H H':=fun b o h1 _ q=>e b o h1 q
def Bad2 (C r x:Addr) (H:Hp) (E:XK) (pl kd:Nat):Prop:=∀dx H',Off2 r x H H'->H' dx=some (.xd (xf pl kd))->E (.ref C) (some dx) H'
theorem Reads.callX {α:Type} {K:PySem.W.Frag} {C CR r dx d x:Addr} {s:List Int} {p:Nat} {act:Ql89.R α} {rel:α->V->Hp->Prop} {H H1:Hp} {Q:VK} {E:XK} {ok:α->Nat->Prop} (S:Src K H1 d s) (e:Off2 r x H H1) (h1:H1 r=some (.ins CR dx (rf d p)))
  (run:GM.Run act (Ql89Neutral.octets s) p ok (Bad2 C r x H E)) (hok:∀x q,ok x q->∀v H',But r H1 H'->H' r=some (.ins CR dx (rf d q))->rel x v H'->Fresh H1 v->Q v H'):Reads K C CR r dx d s p act rel H1 Q E:=
 ⟨h1,S,GM.run_mono run (fun x q h v H' e' h' r' f'=>hok x q h v H' e' h' r' f') fun _ _ h dx' H' e' hd=>h dx' H' (e.but e') hd⟩
def InsAt (H:Hp) (a:Addr):Prop:=∃C dx fs,H a=some (.ins C dx fs)
abbrev Fct:=List (Str×(Hp->V->Prop))
def Stab (r x:Addr) (P:Hp->V->Prop):Prop:=∀H H' v,InsAt H r->InsAt H x->Off2 r x H H'->P H v->P H' v
def pInts (l:List Int) (H:Hp) (v:V):Prop:=∃a,v=.ref a/\IntsAt H a l
def pScaled (l:List Ql89.Row) (H:Hp) (v:V):Prop:=∃a,v=.ref a/\ScaledAt H a l
def pLines (l:List (List Int)) (H:Hp) (v:V):Prop:=∃a,v=.ref a/\LinesAt H a l
def pNats (l:List Nat) (H:Hp) (v:V):Prop:=∃a,v=.ref a/\H a=some (.lst (natI l))
def pNum (n:Nat) (_:Hp) (v:V):Prop:=v=.int (n:Int)
theorem off_lst {r x a:Addr} {H H':Hp} {l:List V} (h1:InsAt H r) (h2:InsAt H x) (o:Off2 r x H H') (h:H a=some (.lst l)):H' a=some (.lst l):=by
 obtain ⟨_,_,_,q1⟩:=h1
 obtain ⟨_,_,_,q2⟩:=h2
 exact o _ _ (ne_of h q1 (by intro z;cases z)) (ne_of h q2 (by intro z;cases z)) h
theorem off_tup {r x a:Addr} {H H':Hp} {l:List V} (h1:InsAt H r) (h2:InsAt H x) (o:Off2 r x H H') (h:H a=some (.tup l)):H' a=some (.tup l):=by
 obtain ⟨_,_,_,q1⟩:=h1
 obtain ⟨_,_,_,q2⟩:=h2
 exact o _ _ (ne_of h q1 (by intro z;cases z)) (ne_of h q2 (by intro z;cases z)) h
theorem off_pairs {r x a:Addr} {H H':Hp} {ps:List (Int×Int)} (h1:InsAt H r) (h2:InsAt H x) (o:Off2 r x H H') (h:PairsAt H a ps):PairsAt H' a ps:=by
 obtain ⟨as,q1,q2⟩:=h
 exact ⟨as,off_lst h1 h2 o q1,Paired.mapP q2 fun p b q=>off_tup h1 h2 o q⟩
theorem stab_ints {r x:Addr} {l:List Int}:Stab r x (pInts l):=by
 rintro H H' v h1 h2 o ⟨a,rfl,q⟩
 exact ⟨a,rfl,off_lst h1 h2 o q⟩
theorem stab_nats {r x:Addr} {l:List Nat}:Stab r x (pNats l):=by
 rintro H H' v h1 h2 o ⟨a,rfl,q⟩
 exact ⟨a,rfl,off_lst h1 h2 o q⟩
theorem stab_num {r x:Addr} {n:Nat}:Stab r x (pNum n):=fun _ _ _ _ _ _ q=>q
theorem stab_lines {r x:Addr} {l:List (List Int)}:Stab r x (pLines l):=by
 rintro H H' v h1 h2 o ⟨a,rfl,as,q1,q2⟩
 exact ⟨a,rfl,as,off_lst h1 h2 o q1,Paired.mapP q2 fun p b q=>off_pairs h1 h2 o q⟩
theorem stab_scaled {r x:Addr} {l:List Ql89.Row}:Stab r x (pScaled l):=by
 rintro H H' v h1 h2 o ⟨a,rfl,as,q1,q2⟩
 exact ⟨a,rfl,as,off_lst h1 h2 o q1,Paired.mapP q2 fun p b ⟨l,t1,t2⟩=>⟨l,off_tup h1 h2 o t1,off_pairs h1 h2 o t2⟩⟩
structure Fill (K:PySem.W.Frag) (CR CX r x dx d dxx:Addr) (s:List Int) (H0 H:Hp) (q:Nat) (fs:List (Str×V)) (F:Fct):Prop where
 off:Off2 r x H0 H
 hr:H r=some (.ins CR dx (rf d q))
 hx:H x=some (.ins CX dxx fs)
 src:Src K H d s
 has:∀p∈F,∃v,fs.lookup p.1=some v/\p.2 H v
 st:∀p∈F,Stab r x p.2
 len:fs.length<=F.length
section
variable {K:PySem.W.Frag} {CR CX r x dx d dxx:Addr} {s:List Int} {H0 H:Hp} {q:Nat} {fs:List (Str×V)} {F:Fct} {f:Str}
theorem Fill.gI {l:List Int} (h:Fill K CR CX r x dx d dxx s H0 H q fs F) (hp:(f,pInts l)∈F):FI H fs f l:=by
 obtain ⟨v,q1,a,e,q2⟩:=h.has _ hp
 have e:v=.ref a:=e
 subst e
 exact ⟨a,q1,q2⟩
theorem Fill.gS {l:List Ql89.Row} (h:Fill K CR CX r x dx d dxx s H0 H q fs F) (hp:(f,pScaled l)∈F):FS H fs f l:=by
 obtain ⟨v,q1,a,e,q2⟩:=h.has _ hp
 have e:v=.ref a:=e
 subst e
 exact ⟨a,q1,q2⟩
theorem Fill.gM {l:List (List Int)} (h:Fill K CR CX r x dx d dxx s H0 H q fs F) (hp:(f,pLines l)∈F):FM H fs f l:=by
 obtain ⟨v,q1,a,e,q2⟩:=h.has _ hp
 have e:v=.ref a:=e
 subst e
 exact ⟨a,q1,q2⟩
theorem Fill.gN {n:Nat} (h:Fill K CR CX r x dx d dxx s H0 H q fs F) (hp:(f,pNum n)∈F):FN fs f n:=by
 obtain ⟨v,q1,q2⟩:=h.has _ hp
 have q2:v=.int (n:Int):=q2
 subst q2
 exact q1
end
theorem putF_le (f:Str) (y:V):∀(l:List (Str×V)),(putF f y l).length<=l.length + 1
 | []=>Nat.le_refl _
 | (g,x) :: r=>by
  unfold putF
  split
  ·simp
  ·simp only [List.length_cons]
   have:=putF_le f y r
   omega
theorem Fill.next {K:PySem.W.Frag} {CR CX r x dx d dxx:Addr} {s:List Int} {H0 H H':Hp} {q q':Nat} {fs:List (Str×V)} {F:Fct} {f:Str} {y:V} {P:Hp->V->Prop} (h:Fill K CR CX r x dx d dxx s H0 H q fs F) (e:But r H H') (h':H' r=some (.ins CR dx (rf d q'))) (hP:P H' y) (sP:Stab r x P)
  (names:List Str) (hn:F.map (·.1)=names) (hf:f∉names) (hxr:x≠r):Fill K CR CX r x dx d dxx s H0 (upd H' x (.ins CX dxx (putF f y fs))) q' (putF f y fs) ((f,P) :: F):=by
 have hx':H' x=some (.ins CX dxx fs):=e _ _ hxr h.hx
 have ir:InsAt H r:=⟨_,_,_,h.hr⟩
 have ix:InsAt H x:=⟨_,_,_,h.hx⟩
 have ir':InsAt H' r:=⟨_,_,_,h'⟩
 have ix':InsAt H' x:=⟨_,_,_,hx'⟩
 have o1:Off2 r x H (upd H' x (.ins CX dxx (putF f y fs))):=(Off2.of e).upd
 refine ⟨(h.off.but e).upd,by rw [upd_ne hxr.symm];exact h',upd_same,?_,fun p hp=>?_,fun p hp=>?_,?_⟩
 ·refine ⟨?_,h.src.byt,h.src.len⟩
  have e2:SqL K H' d (s.map V.int):=e.seq h.hr h.src.ls
  rcases e2 with (z | ⟨o,z⟩) | z
  ·exact .inl (.inl (by rw [upd_ne (ne_of z hx' (by intro y;cases y))];exact z))
  ·exact .inl (.inr ⟨o,by rw [upd_ne (ne_of z hx' (by intro y;cases y))];exact z⟩)
  ·exact .inr z
 ·rcases List.mem_cons.mp hp with z | z
  ·subst z
   exact ⟨y,by rw [lookup_putF,if_pos rfl],sP H' _ y ir' ix' (Off2.refl r x H').upd hP⟩
  ·obtain ⟨v,q1,q2⟩:=h.has p z
   have hne:¬p.1=f:=fun e=>hf (by rw [<-hn,<-e];exact List.mem_map.mpr ⟨p,z,rfl⟩)
   exact ⟨v,by rw [lookup_putF,if_neg hne];exact q1,h.st p z H _ v ir ix o1 q2⟩
 ·rcases List.mem_cons.mp hp with z | z
  ·subst z
   exact sP
  ·exact h.st p z
 ·have:=putF_le f y fs
  have:=h.len
  rw [List.length_cons]
  omega
section
variable {P:Program} {w:World} {K:PySem.W.Frag} {mg:Str->Option Value} {base:Heap} {C CR fF CL:Addr}
def spLI (K:PySem.W.Frag) (C CR CL:Addr):Sp:=fun vs H Q E=>∃(x r dx d dxx:Addr) (s:List Int) (p width inner:Nat),vs=[.ref x,.ref r,.int width,.int inner]/\H x=some (.ins CL dxx [])/\H r=some (.ins CR dx (rf d p))/\x≠r/\Src K H d s/\(width<=4096/\inner<=4096)/\
 GM.Run (Ql89.readLayer width inner) (Ql89Neutral.octets s) p (fun y q=>∀H',Off2 r x H H'->H' r=some (.ins CR dx (rf d q))->LayerAt CL H' y x->LayerOk y width inner->Q .non H') (Bad2 C r x H E)
theorem scLI:FnScope ["self","reader","width","inner"] ["self","reader","width","inner"] (defScope sLI):=⟨rfl,rfl,rfl,by decide +kernel,rfl,by decide +kernel,by decide +kernel⟩
theorem gains_len {n:Nat} {l:Ql89.Bytes} {p:Nat} {ok:List Int->Nat->Prop} {bad:Nat->Nat->Prop} (h:GM.Run (Ql89.readGains n) l p ok bad):GM.Run (Ql89.readGains n) l p (fun x q=>x.length=n/\ok x q) bad:=by
 unfold Ql89.readGains at h |-
 exact GM.run_mono (GM.run_times_all (F:=fun _=>True) (fun p ok h=>GM.run_mono h (fun _ _ h=>⟨trivial,h⟩) fun _ _ h=>h) n h) (fun x q h=>⟨h.1.1,h.2⟩) fun _ _ h=>h
theorem ok_LI {f fG fS fU:Addr} {fd fdG fdS fdU:FuncData} (F:Fun K "__init__" "Layer.__init__" sLI f fd) (T:Txt K mg C CR fF) (T3:Txt3 mg) (TL:Attrs K CL layA) (G:GFn P w K mg base (CXF P w C) 5 "read_gains" fG fdG ["reader","width"] (spGains K C CR))
  (S:GFn P w K mg base (CXF P w C) 10 "read_scaled" fS fdS ["reader","rows","columns"] (spScaled K C CR)) (UW:MFn P w K mg base (CXF P w C) 4 CR "unsigned_within" fU fdU ["self","size","low","high"] (spUW K C CR)) :
  FnOk P w K mg base (CXF P w C) 11 f fd ["self","reader","width","inner"] (spLI K C CR CL):=by
 refine F.okX (C:=C) scLI (fun vs H Q E h=>?_) (fun cdv A outer st H vs Q E hr h hX po hT=>?_)
 ·obtain ⟨x,r,dx,d,dxx,s,p,width,inner,rfl,_⟩:=h
  rfl
 ·obtain ⟨x,r,dx,d,dxx,s,p,width,inner,rfl,hx,hr0,hxr,src,⟨hw,hi⟩,run⟩:=h
  have hr4:Room 4 _:=hr.mono (by decide)
  have hr5:Room 5 _:=hr.mono (by decide)
  refine ⟨_,pss_cons (ps_fld (pv 0) (pe_call G.ok hr5 rfl G.glo G.kp G.b .nil (passX hX) (pa_cons (pv 1) (pa_cons (pv 2) pa_nil))) rfl)
   (pss_cons (ps_fld (pv 0) (pe_call S.ok hr rfl S.glo S.kp S.b .nil (passX hX) (pa_cons (pv 1) (pa_cons (pv 2) (pa_cons (pv 2) pa_nil)))) rfl)
   (pss_cons (ps_fld (pv 0) (pe_call S.ok hr rfl S.glo S.kp S.b .nil (passX hX) (pa_cons (pv 1) (pa_cons (pv 2) (pa_cons (pv 2) pa_nil)))) rfl)
   (pss_cons (ps_fld (pv 0) (pe_call S.ok hr rfl S.glo S.kp S.b .nil (passX hX) (pa_cons (pv 1) (pa_cons (pv 2) (pa_cons (pv 2) pa_nil)))) rfl)
   (pss_cons (ps_fld (pv 0) (pe_meth (pv 1) T.cl UW.m UW.ok hr4 UW.b .nil (passX hX) (pa_cons pe_int (pa_cons pe_int (pa_cons (pe_const T3.fall rfl) pa_nil)))) rfl)
   (pss_cons (ps_fld (pv 0) (pe_call S.ok hr rfl S.glo S.kp S.b .nil (passX hX) (pa_cons (pv 1) (pa_cons (pv 2) (pa_cons (pv 2) pa_nil)))) rfl)
   (pss_cons (ps_fld (pv 0) (pe_call G.ok hr5 rfl G.glo G.kp G.b .nil (passX hX) (pa_cons (pv 1) (pa_cons (pv 2) pa_nil))) rfl)
   (pss_cons (ps_fld (pv 0) (pe_call S.ok hr rfl S.glo S.kp S.b .nil (passX hX) (pa_cons (pv 1) (pa_cons (pv 3) (pa_cons (pv 2) pa_nil)))) rfl)
   (pss_one (ps_fld (pv 0) (pe_call S.ok hr rfl S.glo S.kp S.b .nil (passX hX) (pa_cons (pv 1) (pa_cons (pv 2) (pa_cons (pv 3) pa_nil)))) rfl))))))))),?_⟩
  have f0:Fill K CR CL r x dx d dxx s H H p [] []:=⟨Off2.refl r x H,hr0,hx,src,fun _ z=>by simp at z,fun _ z=>by simp at z,Nat.le_refl _⟩
  unfold Ql89.readLayer at run
  rw [GM.run_bind] at run
  -- first_gains
  refine ⟨_,rfl,_,rfl,r,dx,d,s,_,width,rfl,hw,Reads.callX f0.src f0.off f0.hr (gains_len run) fun g1 q1 hok v1 H1 e1 h1 hv1 _=>?_⟩
  obtain ⟨hg1,hok⟩:=hok
  have f1:=f0.next (f:="first_gains") (P:=pInts g1) e1 h1 hv1 stab_ints [] rfl (by simp) hxr
  refine ⟨_,rfl,x,CL,dxx,_,rfl,e1 _ _ hxr f0.hx,TL.cl,TL.no "first_gains" (by decide +kernel),(by show 0 < 1000;decide),?_⟩
  rw [GM.run_bind] at hok
  -- query
  refine ⟨_,rfl,_,rfl,_,rfl,r,dx,d,s,_,width,width,rfl,hw,Reads.callX f1.src f1.off f1.hr hok fun q2 p2 hok v2 H2 e2 h2 hv2 _=>?_⟩
  obtain ⟨a2,rfl,hv2,ok2,ok2'⟩:=hv2
  have f2:=f1.next (f:="query") (P:=pScaled q2) e2 h2 ⟨a2,rfl,hv2⟩ stab_scaled ["first_gains"] rfl (by decide +kernel) hxr
  refine ⟨_,rfl,x,CL,dxx,_,rfl,e2 _ _ hxr f1.hx,TL.cl,TL.no "query" (by decide +kernel),(by have:=f1.len;simp only [List.length_cons,List.length_nil] at this;omega),?_⟩
  rw [GM.run_bind] at hok
  -- key
  refine ⟨_,rfl,_,rfl,_,rfl,r,dx,d,s,_,width,width,rfl,hw,Reads.callX f2.src f2.off f2.hr hok fun q3 p3 hok v3 H3 e3 h3 hv3 _=>?_⟩
  obtain ⟨a3,rfl,hv3,ok3,ok3'⟩:=hv3
  have f3:=f2.next (f:="key") (P:=pScaled q3) e3 h3 ⟨a3,rfl,hv3⟩ stab_scaled ["query","first_gains"] rfl (by decide +kernel) hxr
  refine ⟨_,rfl,x,CL,dxx,_,rfl,e3 _ _ hxr f2.hx,TL.cl,TL.no "key" (by decide +kernel),(by have:=f2.len;simp only [List.length_cons,List.length_nil] at this;omega),?_⟩
  rw [GM.run_bind] at hok
  -- value
  refine ⟨_,rfl,_,rfl,_,rfl,r,dx,d,s,_,width,width,rfl,hw,Reads.callX f3.src f3.off f3.hr hok fun q4 p4 hok v4 H4 e4 h4 hv4 _=>?_⟩
  obtain ⟨a4,rfl,hv4,ok4,ok4'⟩:=hv4
  have f4:=f3.next (f:="value") (P:=pScaled q4) e4 h4 ⟨a4,rfl,hv4⟩ stab_scaled ["key","query","first_gains"] rfl (by decide +kernel) hxr
  refine ⟨_,rfl,x,CL,dxx,_,rfl,e4 _ _ hxr f3.hx,TL.cl,TL.no "value" (by decide +kernel),(by have:=f3.len;simp only [List.length_cons,List.length_nil] at this;omega),?_⟩
  rw [GM.run_bind] at hok
  -- fall_shift
  refine ⟨_,rfl,r,dx,_,rfl,f4.hr,noUW _ _,r,dx,d,s,_,1,0,24,rfl,⟨by decide,by decide⟩,Reads.callX f4.src f4.off f4.hr hok fun c5 p5 hok v5 H5 e5 h5 hv5 _=>?_⟩
  have f5:=f4.next (f:="fall_shift") (P:=pNum c5) e5 h5 hv5 stab_num ["value","key","query","first_gains"] rfl (by decide +kernel) hxr
  refine ⟨_,rfl,x,CL,dxx,_,rfl,e5 _ _ hxr f4.hx,TL.cl,TL.no "fall_shift" (by decide +kernel),(by have:=f4.len;simp only [List.length_cons,List.length_nil] at this;omega),?_⟩
  rw [GM.run_bind] at hok
  -- out
  refine ⟨_,rfl,_,rfl,_,rfl,r,dx,d,s,_,width,width,rfl,hw,Reads.callX f5.src f5.off f5.hr hok fun q6 p6 hok v6 H6 e6 h6 hv6 _=>?_⟩
  obtain ⟨a6,rfl,hv6,ok6,ok6'⟩:=hv6
  have f6:=f5.next (f:="out") (P:=pScaled q6) e6 h6 ⟨a6,rfl,hv6⟩ stab_scaled ["fall_shift","value","key","query","first_gains"] rfl (by decide +kernel) hxr
  refine ⟨_,rfl,x,CL,dxx,_,rfl,e6 _ _ hxr f5.hx,TL.cl,TL.no "out" (by decide +kernel),(by have:=f5.len;simp only [List.length_cons,List.length_nil] at this;omega),?_⟩
  rw [GM.run_bind] at hok
  -- second_gains
  refine ⟨_,rfl,_,rfl,r,dx,d,s,_,width,rfl,hw,Reads.callX f6.src f6.off f6.hr (gains_len hok) fun g7 p7 hok v7 H7 e7 h7 hv7 _=>?_⟩
  obtain ⟨hg7,hok⟩:=hok
  have f7:=f6.next (f:="second_gains") (P:=pInts g7) e7 h7 hv7 stab_ints ["out","fall_shift","value","key","query","first_gains"] rfl (by decide +kernel) hxr
  refine ⟨_,rfl,x,CL,dxx,_,rfl,e7 _ _ hxr f6.hx,TL.cl,TL.no "second_gains" (by decide +kernel),(by have:=f6.len;simp only [List.length_cons,List.length_nil] at this;omega),?_⟩
  rw [GM.run_bind] at hok
  -- up
  refine ⟨_,rfl,_,rfl,_,rfl,r,dx,d,s,_,inner,width,rfl,hi,Reads.callX f7.src f7.off f7.hr hok fun q8 p8 hok v8 H8 e8 h8 hv8 _=>?_⟩
  obtain ⟨a8,rfl,hv8,ok8,ok8'⟩:=hv8
  have f8:=f7.next (f:="up") (P:=pScaled q8) e8 h8 ⟨a8,rfl,hv8⟩ stab_scaled ["second_gains","out","fall_shift","value","key","query","first_gains"] rfl (by decide +kernel) hxr
  refine ⟨_,rfl,x,CL,dxx,_,rfl,e8 _ _ hxr f7.hx,TL.cl,TL.no "up" (by decide +kernel),(by have:=f7.len;simp only [List.length_cons,List.length_nil] at this;omega),?_⟩
  rw [GM.run_bind] at hok
  -- down
  refine ⟨_,rfl,_,rfl,_,rfl,r,dx,d,s,_,width,inner,rfl,hw,Reads.callX f8.src f8.off f8.hr hok fun q9 p9 hok v9 H9 e9 h9 hv9 _=>?_⟩
  obtain ⟨a9,rfl,hv9,ok9,ok9'⟩:=hv9
  have f9:=f8.next (f:="down") (P:=pScaled q9) e9 h9 ⟨a9,rfl,hv9⟩ stab_scaled ["up","second_gains","out","fall_shift","value","key","query","first_gains"] rfl (by decide +kernel) hxr
  refine ⟨_,rfl,x,CL,dxx,_,rfl,e9 _ _ hxr f8.hx,TL.cl,TL.no "down" (by decide +kernel),(by have:=f8.len;simp only [List.length_cons,List.length_nil] at this;omega),?_⟩
  exact hok _ f9.off f9.hr ⟨dxx,_,f9.hx,f9.gI (by simp),f9.gS (by simp),f9.gS (by simp),f9.gS (by simp),f9.gN (by simp),f9.gS (by simp),f9.gI (by simp),f9.gS (by simp),f9.gS (by simp)⟩ ⟨hg1,⟨ok2,ok2'⟩,⟨ok3,ok3'⟩,⟨ok4,ok4'⟩,⟨ok6,ok6'⟩,hg7,⟨ok8,ok8'⟩,⟨ok9,ok9'⟩⟩
end
end Go
namespace GM
open Ql89
def markOk (a b c d:Nat):Prop:=a=71/\b=79/\c=78/\d=49
instance (a b c d:Nat):Decidable (markOk a b c d):=by unfold markOk;infer_instance
theorem ite2' {c:Prop} [Decidable c] {p q:Prop} (h1:c->p) (h2:¬c->q):if c then p else q:=by
 by_cases h:c
 ·rw [if_pos h];exact h1 h
 ·rw [if_neg h];exact h2 h
theorem run_mark {l:Bytes} {bad:Nat->Nat->Prop} {ok:Nat->Nat->Prop} (h:Run (numIn 4 MARK MARK) l 0 ok bad) :
  Run (times_ 4 (num 1)) l 0 (fun xs q=>∃a b c d,xs=[a,b,c,d]/\if markOk a b c d then ok MARK q else bad 0 2) bad:=by
 rw [run_numIn,run_num] at h
 simp only [run_times_succ,run_times_zero,run_num]
 match l,h with
 | [],h=>exact h
 | [a],h=>exact h
 | [a,b],h=>exact h
 | [a,b,c],h=>exact h
 | a :: b :: c :: d :: t,h=>
  have n (k:Nat) (hk:k<=4):¬(a :: b :: c :: d :: t).length < k:=by simp only [List.length_cons];omega
  rw [if_neg (n _ (by decide))] at h
  rw [if_neg (n _ (by decide)),if_neg (n _ (by decide)),if_neg (n _ (by decide)),if_neg (n _ (by decide))]
  refine ⟨_,_,_,_,rfl,?_⟩
  have hM:MARK=71 + 256 * (79 + 256 * (78 + 256 * (49 + 256 * 0))):=by decide
  have h:if MARK<=a.toNat + 256 * (b.toNat + 256 * (c.toNat + 256 * (d.toNat + 256 * 0)))/\a.toNat + 256 * (b.toNat + 256 * (c.toNat + 256 * (d.toNat + 256 * 0)))<=MARK then ok (a.toNat + 256 * (b.toNat + 256 * (c.toNat + 256 * (d.toNat + 256 * 0)))) 4 else bad 0 2:=h
  show if markOk (a.toNat + 256 * 0) (b.toNat + 256 * 0) (c.toNat + 256 * 0) (d.toNat + 256 * 0) then ok MARK 4 else bad 0 2
  have ha:=a.toNat_lt
  have hb:=b.toNat_lt
  have hc:=c.toNat_lt
  have hd:=d.toNat_lt
  refine ite2' (fun g=>?_) (fun g=>?_)
  ·unfold markOk at g
   have e:a.toNat + 256 * (b.toNat + 256 * (c.toNat + 256 * (d.toNat + 256 * 0)))=MARK:=by omega
   rw [e,if_pos ⟨Nat.le_refl _,Nat.le_refl _⟩] at h
   exact h
  ·unfold markOk at g
   rw [if_neg (fun z=>g (by omega))] at h
   exact h
end GM
namespace Go
open PySem L2
section
variable {P:Program} {w:World} {K:PySem.W.Frag} {mg:Str->Option Value} {base:Heap} {C CR fF CM CN CL:Addr}
def markV:List V:=[.int 71,.int 79,.int 78,.int 49]
def relNone {α:Type} (_:α) (v:V) (_:Hp):Prop:=v=.non
def spMark (K:PySem.W.Frag) (C CR:Addr):Sp:=fun vs H Q E=>∃(r dx d:Addr) (s:List Int),vs=[.ref r]/\Reads K C CR r dx d s 0 (Ql89.numIn 4 Ql89.MARK Ql89.MARK) relNone H Q E
structure TxtM (K:PySem.W.Frag) (mg:Str->Option Value) (m:Addr):Prop where
 mark:mg "MARK" = some (.ref m)
 tup:∀H,SqT K H m markV
 list:mg "list" = none
theorem eqv_mark (a b c d:Nat):PyData.eqv (.list [.int a,.int b,.int c,.int d]) (.list [.int 71,.int 79,.int 78,.int 49])=decide (GM.markOk a b c d):=by
 simp only [PyData.eqv,PyData.eqvAll,Bool.and_true]
 rw [Bool.eq_iff_iff,decide_eq_true_iff]
 unfold GM.markOk
 simp only [Bool.and_eq_true,beq_iff_eq]
 omega
theorem scMark:FnScope ["reader","found","letter"] ["reader"] (defScope sMark):=⟨rfl,rfl,rfl,by decide +kernel,rfl,by decide +kernel,by decide +kernel⟩
theorem ok_mark {f fU m:Addr} {fd fdF fdU:FuncData} (F:Fun K "read_mark" "read_mark" sMark f fd) (T:Txt K mg C CR fF) (TM:TxtM K mg m) (FF:FnOk P w K mg base CX0 1 fF fdF ["self","place","kind"] (spInit C)) (bF:Binds K fdF ["self","place","kind"] [])
  (U:MFn P w K mg base (CXF P w C) 3 CR "unsigned" fU fdU ["self","size"] (spU K C CR)):FnOk P w K mg base (CXF P w C) 4 f fd ["reader"] (spMark K C CR):=by
 refine F.okX (C:=C) scMark (fun vs H Q E h=>?_) (fun cdv A outer st H vs Q E hr h hX po hT=>?_)
 ·obtain ⟨r,dx,d,s,rfl,_⟩:=h
  rfl
 ·obtain ⟨r,dx,d,s,rfl,R⟩:=h
  have hr2:Room 2 _:=hr.mono (by decide)
  refine ⟨_,pss_cons (ps_setLcX (i:=1) hT hX rfl scMark.nd rfl rfl (sw_true rfl rfl rfl rfl) (pi_tup (pe_glob rfl TM.mark (v:=.ref m) rfl)) (blkOk_by (own:=[("letter",2)]) (by kernel_rfl)) (fun _ _ _ _ _=>pg_name (i:=2) scMark.nd rfl (Or.inl rfl)) (fun _ _ _ _ _=>pts_nil)
    (fun _ _ _ _ _ _ hx=>pe_meth (pv 0) T.cl U.m U.ok hr U.b .nil (passX hx) (pa_cons pe_int pa_nil)))
   (pss_one (ps_if (pt_cmpR (op_neD hr.units) (pv 1) (pe_callTy call_list_of rfl TM.list PySem.Pv.boot_list (pa_cons (pe_glob rfl TM.mark (v:=.ref m) rfl) pa_nil)) (nomark _)) (pss_one (ps_raise T.xc FF hr2 bF (fun _ _ _ _ z=>z) rfl rfl T.mgF hX (pa_cons pe_int (pa_cons pe_int pa_nil)))) pss_nil)),?_⟩
  have run:=GM.run_mark R.run
  refine ⟨m,rfl,⟨_,TM.tup _⟩,fun D hD=>?_⟩
  have hDr:r≠D:=ne_of_none R.at_ hD
  refine lc_tup (xs:=markV) (fun i H'=>∃(q:Nat) (acc:List Nat),But r H H'/\H' r=some (.ins CR dx (rf d q))/\H' D=some (.lst (natI acc))/\acc.length=i/\GM.Run (Ql89.times_ (4 - i) (Ql89.num 1)) (Ql89Neutral.octets s) q (fun y q'=>∃a b c e,acc ++ y=[a,b,c,e]/\if GM.markOk a b c e then ∀v H',But r H H'->H' r=some (.ins CR dx (rf d q'))->relNone Ql89.MARK v H'->Fresh H v->Q v H' else Bad C r H E 0 2) (Bad C r H E)) ?_ (fun i H' _ _=>TM.tup _) ?_ ?_
  ·exact ⟨0,[],But.new hD,by rw [upd_ne hDr];exact R.at_,upd_same,rfl,run⟩
  ·rintro i x H' hx ⟨q,acc,e,h',hD',hacc,hrun⟩
   have hi:i < 4:=(List.getElem?_eq_some_iff.mp hx).1
   have e4:4 - i=4 - (i + 1) + 1:=by omega
   rw [e4,GM.run_times_succ] at hrun
   refine ⟨rfl,_,rfl,r,dx,_,rfl,h',noU _ _,r,dx,d,s,q,1,rfl,⟨by decide,by decide⟩,Reads.call (R.src.but e R.at_) e h' hrun fun x q' hok v H'' e2 h2 hv _=>?_⟩
   have hv:v=.int (x:Int):=hv
   subst hv
   have hsz:1000<=sizeLine:=by decide
   have hnl:(natI acc).length=acc.length:=by unfold natI;simp
   refine ⟨_,e2 D _ hDr.symm hD',by omega,q',acc ++ [x],(e.trans e2).upd hD,by rw [upd_ne hDr];exact h2,?_,by rw [List.length_append,hacc];rfl,?_⟩
   ·rw [upd_same]
    unfold natI
    rw [List.map_append]
    rfl
   ·simpa only [List.append_assoc,List.singleton_append] using hok
  ·rintro H' ⟨q,acc,e,h',hD',hacc,hrun⟩
   have hrun:=GM.run_times_zero.mp hrun
   rw [List.append_nil] at hrun
   obtain ⟨a,b,c,e',rfl,hok⟩:=hrun
   refine ⟨_,rfl,m,_,rfl,.inr (TM.tup _),fun l hl=>?_⟩
   have hlD:D≠l:=ne_of_none hD' hl
   refine ⟨.list [.int a,.int b,.int c,.int e'],.list [.int 71,.int 79,.int 78,.int 49],.lst (SqL.of (by rw [upd_ne hlD];exact hD')) (.cons (.int _) (.cons (.int _) (.cons (.int _) (.cons (.int _) .nil)))),.lst (SqL.of upd_same) (.cons (.int _) (.cons (.int _) (.cons (.int _) (.cons (.int _) .nil)))),?_,?_,_,rfl,?_⟩
   ·rfl
   ·rfl
   ·rw [eqv_mark]
    have hl0:H l=none:=e.none' h' hl
    refine ite2 (fun hc=>?_) (fun hc=>?_)
    ·have hc:¬GM.markOk a b c e':=fun z=>by
      rw [decide_eq_true z] at hc
      exact absurd hc (by decide)
     rw [if_neg hc] at hok
     exact ⟨_,_,rfl,fun dx' hdx=>hok dx' _ ((e.upd hl0).trans (But.new hdx)) upd_same⟩
    ·have hc:GM.markOk a b c e':=Decidable.byContradiction fun z=>hc (by rw [decide_eq_false z];rfl)
     rw [if_pos hc] at hok
     exact hok .non _ (e.upd hl0) (by rw [upd_ne (ne_of_none h' hl)];exact h') rfl (fun _ z=>nomatch z)
end
end Go
namespace GM
open Ql89
section
variable {l:Bytes} {p:Nat} {bad:Nat->Nat->Prop}
theorem run_signedIn_in {w:Nat} {lo hi:Int} {ok:Int->Nat->Prop} (h:Run (signedIn w lo hi) l p ok bad):Run (signedIn w lo hi) l p (fun x q=>(lo<=x/\x<=hi)/\ok x q) bad:=by
 rw [run_signedIn] at h |-
 refine run_mono h (fun x q h=>?_) fun _ _ h=>h
 by_cases c:lo<=signed (8 * w) x/\signed (8 * w) x<=hi
 ·rw [if_pos c] at h |-
  exact ⟨c,h⟩
 ·rw [if_neg c] at h |-
  exact h
theorem run_bends {n:Nat} {ok:List Int->Nat->Prop} (h:Run (times_ n (signedIn 1 (-128) 127)) l p ok bad):Run (times_ n (signedIn 1 (-128) 127)) l p (fun x q=>(x.length=n/\∀z∈x,-128<=z/\z<=127)/\ok x q) bad:=
 run_mono (run_times_all (F:=fun z=>-128<=z/\z<=127) (fun p ok h=>run_signedIn_in h) n h) (fun x q h=>⟨⟨h.1.1,h.1.2⟩,h.2⟩) fun _ _ h=>h
theorem run_times_len {α:Type} {r:R α} {n:Nat} {ok:List α->Nat->Prop} (h:Run (times_ n r) l p ok bad):Run (times_ n r) l p (fun x q=>x.length=n/\ok x q) bad:=
 run_mono (run_times_all (F:=fun _=>True) (fun p ok h=>run_mono h (fun _ _ h=>⟨trivial,h⟩) fun _ _ h=>h) n h) (fun x q h=>⟨h.1.1,h.2⟩) fun _ _ h=>h
theorem run_shaped_in {rows cols:Nat} {ok:Matrix->Nat->Prop} (h:Run (readShaped rows cols) l p ok bad):Run (readShaped rows cols) l p (fun m q=>(m.rows=rows/\m.cols=cols)/\ok m q) bad:=by
 unfold readShaped at h |-
 rw [run_bind,run_here,run_bind] at h |-
 refine run_mono h (fun m q h=>?_) fun _ _ h=>h
 rw [run_ite] at h |-
 by_cases c:m.rows=rows/\m.cols=cols
 ·rw [if_pos c] at h |-
  exact ⟨c,h⟩
 ·rw [if_neg c] at h |-
  exact h
theorem run_falling_in:∀(n lo hi:Nat) {p:Nat} {ok:List Nat->Nat->Prop},Run (readFalling n lo hi) l p ok bad->Run (readFalling n lo hi) l p (fun x q=>(x.length=n/\(0 < n->lo<=x.getD 0 0)/\∀z∈x,z<=hi)/\ok x q) bad
 | 0,lo,hi,p,ok,h=>⟨⟨rfl,fun z=>absurd z (by decide),fun z hz=>by simp at hz⟩,h⟩
 | n + 1,lo,hi,p,ok,h=>by
  rw [run_falling_succ] at h |-
  refine run_mono (run_numIn_in h) (fun x q h=>?_) fun _ _ h=>h
  refine run_mono (run_falling_in n 0 x h.2) (fun y q' h'=>?_) fun _ _ h=>h
  refine ⟨⟨by rw [List.length_cons,h'.1.1],fun _=>h.1.1,fun z hz=>?_⟩,h'.2⟩
  rcases List.mem_cons.mp hz with z' | z'
  ·rw [z'];exact h.1.2
  ·exact Nat.le_trans (h'.1.2.2 z z') h.1.2
theorem run_heads_in {width:Nat} {ok:Nat->Nat->Prop} (h:Run (numIn 1 1 8) l p (fun h q=>if width % h≠0 then bad p 2 else ok h q) bad):Run (headsAct width) l p (fun h q=>(1<=h/\h<=8/\width % h=0)/\ok h q) bad:=by
 rw [run_heads]
 refine run_mono (run_numIn_in h) (fun x q h=>?_) fun _ _ h=>h
 by_cases c:width % x≠0
 ·rw [if_pos c]
  have:=h.2
  rw [if_pos c] at this
  exact this
 ·rw [if_neg c]
  have:=h.2
  rw [if_neg c] at this
  exact ⟨⟨h.1.1,h.1.2,by omega⟩,this⟩
end
end GM
namespace Go
open PySem L2
section
variable {H H':Hp}
structure Lt (H H':Hp):Prop where
 l:∀b xs,H b=some (.lst xs)->H' b=some (.lst xs)
 t:∀b xs,H b=some (.tup xs)->H' b=some (.tup xs)
theorem Lt.pairs (k:Lt H H') {a:Addr} {ps:List (Int×Int)} (h:PairsAt H a ps):PairsAt H' a ps:=by
 obtain ⟨as,q1,q2⟩:=h
 exact ⟨as,k.l _ _ q1,Paired.mapP q2 fun p b q=>k.t _ _ q⟩
theorem Lt.scaled (k:Lt H H') {a:Addr} {l:List Ql89.Row} (h:ScaledAt H a l):ScaledAt H' a l:=by
 obtain ⟨as,q1,q2⟩:=h
 exact ⟨as,k.l _ _ q1,Paired.mapP q2 fun p b ⟨l,t1,t2⟩=>⟨l,k.t _ _ t1,k.pairs t2⟩⟩
theorem Lt.fs (k:Lt H H') {fs:List (Str×V)} {f:Str} {l:List Ql89.Row} (h:FS H fs f l):FS H' fs f l:=by
 obtain ⟨a,h1,h2⟩:=h
 exact ⟨a,h1,k.scaled h2⟩
theorem Lt.fi (k:Lt H H') {fs:List (Str×V)} {f:Str} {l:List Int} (h:FI H fs f l):FI H' fs f l:=by
 obtain ⟨a,h1,h2⟩:=h
 exact ⟨a,h1,k.l _ _ h2⟩
theorem Lt.layer (k:Lt H H') {CL a:Addr} {y:Ql89.Layer} (h:LayerAt CL H y a) (ha:∀o,H a=some o->H' a=some o):LayerAt CL H' y a:=by
 obtain ⟨dx,fs,h1,h2⟩:=h
 exact ⟨dx,fs,ha _ h1,k.fi h2.g1,k.fs h2.q,k.fs h2.k,k.fs h2.v,h2.c,k.fs h2.o,k.fi h2.g2,k.fs h2.u,k.fs h2.d⟩
end
def hid (D:Addr) (H:Hp):Hp:=fun b=>if b=D then none else H b
theorem hid_upd {D:Addr} {H:Hp} {u:HO}:hid D (upd H D u)=hid D H:=by
 funext b
 unfold hid
 by_cases c:b=D
 ·rw [if_pos c,if_pos c]
 ·rw [if_neg c,if_neg c,upd_ne c]
theorem hid_some {D b:Addr} {H:Hp} {o:HO} (h:hid D H b=some o):b≠D/\H b=some o:=by
 unfold hid at h
 by_cases c:b=D
 ·rw [if_pos c] at h;cases h
 ·rw [if_neg c] at h;exact ⟨c,h⟩
theorem hid_of {D b:Addr} {H:Hp} {o:HO} (hb:b≠D) (h:H b=some o):hid D H b=some o:=by
 unfold hid
 rw [if_neg hb];exact h
theorem LayerAt.hide {CL a D:Addr} {H:Hp} {y:Ql89.Layer} {od:Obj} {u:HO} (h:LayerAt CL H y a) (hD:H D=some (.frz od u)):LayerAt CL (hid D H) y a:=
 Lt.layer ⟨fun b xs q=>hid_of (fun z=>by rw [z,hD] at q;cases q) q,fun b xs q=>hid_of (fun z=>by rw [z,hD] at q;cases q) q⟩ h fun o q=>by
  obtain ⟨dx,fs,h1,_⟩:=h
  exact hid_of (fun z=>by rw [z,hD] at h1;cases h1) q
theorem LayerAt.shown {CL a D:Addr} {H:Hp} {y:Ql89.Layer} (h:LayerAt CL (hid D H) y a):LayerAt CL H y a:=
 Lt.layer ⟨fun b xs q=>(hid_some q).2,fun b xs q=>(hid_some q).2⟩ h fun o q=>(hid_some q).2
theorem LayerAt.hbut {CL a D r:Addr} {H H':Hp} {y:Ql89.Layer} (h:LayerAt CL (hid D H) y a) (e:But r H H') (hr:InsAt H r) (ha:a≠r):LayerAt CL (hid D H') y a:=by
 obtain ⟨_,_,_,q2⟩:=hr
 refine Lt.layer ⟨fun b xs q=>?_,fun b xs q=>?_⟩ h fun o q=>?_
 ·obtain ⟨n,q⟩:=hid_some q
  exact hid_of n (e _ _ (ne_of q q2 (by intro z;cases z)) q)
 ·obtain ⟨n,q⟩:=hid_some q
  exact hid_of n (e _ _ (ne_of q q2 (by intro z;cases z)) q)
 ·obtain ⟨n,q⟩:=hid_some q
  exact hid_of n (e _ _ ha q)
def pLay (CL r x:Addr) (ls:List Ql89.Layer) (H:Hp) (v:V):Prop:=∃a as,v=.ref a/\H a=some (.lst (as.map V.ref))/\Paired (fun y b=>b≠r/\b≠x/\LayerAt CL H y b) ls as
theorem stab_lay {CL r x:Addr} {ls:List Ql89.Layer}:Stab r x (pLay CL r x ls):=by
 rintro H H' v h1 h2 o ⟨a,as,rfl,q1,q2⟩
 exact ⟨a,as,rfl,off_lst h1 h2 o q1,Paired.mapP q2 fun y b ⟨n1,n2,q⟩=>⟨n1,n2,Lt.layer ⟨fun c xs z=>off_lst h1 h2 o z,fun c xs z=>off_tup h1 h2 o z⟩ q fun u z=>o _ _ n1 n2 z⟩⟩
section
variable {K:PySem.W.Frag} {CR CX r x dx d dxx:Addr} {s:List Int} {H0 H H':Hp} {q q':Nat} {fs:List (Str×V)} {F:Fct} {f:Str}
theorem Fill.step (h:Fill K CR CX r x dx d dxx s H0 H q fs F) (e:But r H H') (h':H' r=some (.ins CR dx (rf d q'))) (hxr:x≠r):Fill K CR CX r x dx d dxx s H0 H' q' fs F:=by
 have hx':H' x=some (.ins CX dxx fs):=e _ _ hxr h.hx
 have ir:InsAt H r:=⟨_,_,_,h.hr⟩
 have ix:InsAt H x:=⟨_,_,_,h.hx⟩
 refine ⟨h.off.but e,h',hx',⟨e.seq h.hr h.src.ls,h.src.byt,h.src.len⟩,fun p hp=>?_,h.st,h.len⟩
 obtain ⟨v,q1,q2⟩:=h.has p hp
 exact ⟨v,q1,h.st p hp H H' v ir ix (Off2.of e) q2⟩
end
end Go
namespace Go
open PySem L2
section
variable {P:Program} {w:World} {K:PySem.W.Frag} {mg:Str->Option Value} {base:Heap} {C CR fF CN CL:Addr}
def OffX (x:Addr) (H H':Hp):Prop:=∀b o,b≠x->H b=some o->H' b=some o
def BadX (C x:Addr) (H:Hp) (E:XK) (pl kd:Nat):Prop:=∀dx H',OffX x H H'->H' dx=some (.xd (xf pl kd))->E (.ref C) (some dx) H'
def spNI (K:PySem.W.Frag) (C CN CL:Addr):Sp:=fun vs H Q E=>∃(x d dxx:Addr) (s:List Int),vs=[.ref x,.ref d]/\H x=some (.ins CN dxx [])/\Src K H d s/\
 GM.Run Ql89.readNet (Ql89Neutral.octets s) 0 (fun n q=>if q < s.length then BadX C x H E q 5 else ∀H',OffX x H H'->NetAt CN CL H' n x->NetOk n->Q .non H') (BadX C x H E)
theorem scNI:FnScope ["self","data","reader","layers","entry","layer","word"] ["self","data"] (defScope sNI):=⟨rfl,rfl,rfl,by decide +kernel,rfl,by decide +kernel,by decide +kernel⟩
theorem ok_NI {f fRI fMk fU fH fFa fS fT fLI fG fSW fN m:Addr} {fd fdRI fdMk fdU fdH fdFa fdS fdT fdLI fdG fdSW fdN:FuncData} (F:Fun K "__init__" "Net.__init__" sNI f fd) (T:Txt K mg C CR fF) (T3:Txt3 mg) (TN:Attrs K CN netA) (mgR:mg "Reader" = some (.ref CR)) (mgL:mg "Layer" = some (.ref CL))
  (MR:Mk K CR fRI) (FR:FnOk P w K mg base CX0 1 fRI fdRI ["self","data"] (spMk CR)) (bR:Binds K fdRI ["self","data"] [])
  (MK:GFn P w K mg base (CXF P w C) 4 "read_mark" fMk fdMk ["reader"] (spMark K C CR)) (UW:MFn P w K mg base (CXF P w C) 4 CR "unsigned_within" fU fdU ["self","size","low","high"] (spUW K C CR))
  (HD:GFn P w K mg base (CXF P w C) 5 "read_heads" fH fdH ["reader","width"] (spHeads K C CR)) (FA:GFn P w K mg base (CXF P w C) 5 "read_falling" fFa fdFa ["reader"] (spFal K C CR)) (S:MFn P w K mg base (CXF P w C) 4 CR "signed" fS fdS ["self","size"] (spS K C CR))
  (TL:GFn P w K mg base (CXF P w C) 9 "read_told_lines" fT fdT ["reader","rows","columns"] (spTL K C CR)) (ML:Mk K CL fLI) (LI:FnOk P w K mg base (CXF P w C) 11 fLI fdLI ["self","reader","width","inner"] (spLI K C CR CL)) (bL:Binds K fdLI ["self","reader","width","inner"] [])
  (G:GFn P w K mg base (CXF P w C) 5 "read_gains" fG fdG ["reader","width"] (spGains K C CR)) (SW:MFn P w K mg base (CXF P w C) 5 CR "signed_within" fSW fdSW ["self","size","low","high"] (spSW K C CR)) (NF:MFn P w K mg base (CXF P w C) 3 CR "nothing_follows" fN fdN ["self"] (spNF K C CR)) :
  FnOk P w K mg base (CXF P w C) 13 f fd ["self","data"] (spNI K C CN CL):=by
 refine F.okX (C:=C) scNI (fun vs H Q E h=>?_) (fun cdv A outer st H vs Q E hr h hX po hT=>?_)
 ·obtain ⟨x,d,dxx,s,rfl,_⟩:=h
  rfl
 ·obtain ⟨x,d,dxx,s,rfl,hx,src,run⟩:=h
  have hr2:Room 2 _:=hr.mono (by decide)
  have hr3:Room 3 _:=hr.mono (by decide)
  have hr4:Room 4 _:=hr.mono (by decide)
  have hr5:Room 5 _:=hr.mono (by decide)
  have hr9:Room 9 _:=hr.mono (by decide)
  refine ⟨_,pss_cons (ps_set (i:=2) scNI.nd rfl (by first | exact Or.inl rfl | exact Or.inr rfl) (pe_make MR FR hr2 rfl mgR bR .nil pass0 (pa_cons (pv 1) pa_nil)))
   (pss_cons (ps_expr (pe_call MK.ok hr4 rfl MK.glo MK.kp MK.b .nil (passX hX) (pa_cons (pv 2) pa_nil)))
   (pss_cons (ps_fld (pv 0) (pe_meth (pv 2) T.cl UW.m UW.ok hr4 UW.b .nil (passX hX) (pa_cons pe_int (pa_cons pe_int (pa_cons pe_int pa_nil)))) rfl)
   (pss_cons (ps_fld (pv 0) (pe_meth (pv 2) T.cl UW.m UW.ok hr4 UW.b .nil (passX hX) (pa_cons pe_int (pa_cons pe_int (pa_cons pe_int pa_nil)))) rfl)
   (pss_cons (ps_fld (pv 0) (pe_call HD.ok hr5 rfl HD.glo HD.kp HD.b .nil (passX hX) (pa_cons (pv 2) (pa_cons (pe_fld (pv 0) rfl) pa_nil))) rfl)
   (pss_cons (ps_set (i:=3) scNI.nd rfl (Or.inl rfl) (pe_meth (pv 2) T.cl UW.m UW.ok hr4 UW.b .nil (passX hX) (pa_cons pe_int (pa_cons pe_int (pa_cons pe_int pa_nil)))))
   (pss_cons (ps_fld (pv 0) (pe_meth (pv 2) T.cl UW.m UW.ok hr4 UW.b .nil (passX hX) (pa_cons pe_int (pa_cons pe_int (pa_cons pe_int pa_nil)))) rfl)
   (pss_cons (ps_fld (pv 0) (pe_meth (pv 2) T.cl UW.m UW.ok hr4 UW.b .nil (passX hX) (pa_cons pe_int (pa_cons pe_int (pa_cons pe_int pa_nil)))) rfl)
   (pss_cons (ps_fld (pv 0) (pe_meth (pv 2) T.cl UW.m UW.ok hr4 UW.b .nil (passX hX) (pa_cons pe_int (pa_cons pe_int (pa_cons pe_int pa_nil)))) rfl)
   (pss_cons (ps_fld (pv 0) (pe_meth (pv 2) T.cl UW.m UW.ok hr4 UW.b .nil (passX hX) (pa_cons pe_int (pa_cons pe_int (pa_cons pe_int pa_nil)))) rfl)
   (pss_cons (ps_fld (pv 0) (pe_call FA.ok hr5 rfl FA.glo FA.kp FA.b .nil (passX hX) (pa_cons (pv 2) pa_nil)) rfl)
   (pss_cons (ps_fld (pv 0) (pe_lcX hT hX rfl scNI.nd (pi_range1 rfl T3.range (pa_cons (pe_const T3.table rfl) pa_nil)) (blkOk_by (own:=[("entry",4)]) (by kernel_rfl)) (fun _ _ _ _ _=>pg_name (i:=4) scNI.nd rfl (Or.inl rfl)) (fun _ _ _ _ _=>pts_nil) (fun _ _ _ _ _ _ hx=>pe_meth (pv 2) T.cl S.m S.ok hr4 S.b .nil (passX hx) (pa_cons pe_int pa_nil))) rfl)
   (pss_cons (ps_fld (pv 0) (pe_call TL.ok hr9 rfl TL.glo TL.kp TL.b .nil (passX hX) (pa_cons (pv 2) (pa_cons (pe_fld (pv 0) rfl) (pa_cons (pe_fld (pv 0) rfl) pa_nil)))) rfl)
   (pss_cons (ps_fld (pv 0) (pe_call TL.ok hr9 rfl TL.glo TL.kp TL.b .nil (passX hX) (pa_cons (pv 2) (pa_cons (pe_fld (pv 0) rfl) (pa_cons (pe_fld (pv 0) rfl) pa_nil)))) rfl)
   (pss_cons (ps_fld (pv 0) (pe_lcX hT hX rfl scNI.nd (pi_range1 rfl T3.range (pa_cons (pv 3) pa_nil)) (blkOk_by (own:=[("layer",5)]) (by kernel_rfl)) (fun _ _ _ _ _=>pg_name (i:=5) scNI.nd rfl (Or.inl rfl)) (fun _ _ _ _ _=>pts_nil) (fun _ _ _ _ _ _ hx=>pe_lock (pe_make ML LI hr rfl mgL bL .nil (passX hx) (pa_cons (pv 2) (pa_cons (pe_fldK rfl (pv 0) rfl) (pa_cons (pe_fldK rfl (pv 0) rfl) pa_nil)))))) rfl)
   (pss_cons (ps_fld (pv 0) (pe_call G.ok hr5 rfl G.glo G.kp G.b .nil (passX hX) (pa_cons (pv 2) (pa_cons (pe_fld (pv 0) rfl) pa_nil))) rfl)
   (pss_cons (ps_fld (pv 0) (pe_lcX hT hX rfl scNI.nd (pi_range1 rfl T3.range (pa_cons (pe_fld (pv 0) rfl) pa_nil)) (blkOk_by (own:=[("word",6)]) (by kernel_rfl)) (fun _ _ _ _ _=>pg_name (i:=6) scNI.nd rfl (Or.inl rfl)) (fun _ _ _ _ _=>pts_nil) (fun _ _ _ _ _ _ hx=>pe_meth (pv 2) T.cl SW.m SW.ok hr5 SW.b .nil (passX hx) (pa_cons pe_int (pa_cons (pe_un un_neg (pe_const T3.lean rfl)) (pa_cons (pe_const T3.lean rfl) pa_nil))))) rfl)
   (pss_cons (ps_fld (pv 0) (pe_meth (pv 2) T.cl UW.m UW.ok hr4 UW.b .nil (passX hX) (pa_cons pe_int (pa_cons pe_int (pa_cons (pe_const T3.fall rfl) pa_nil)))) rfl)
   (pss_one (ps_expr (pe_meth0 (pv 2) T.cl NF.m NF.ok hr3 NF.b .nil (passX hX))))))))))))))))))))),?_⟩
  -- reader=Reader(data)
  refine ⟨_,rfl,fun r dx nr ndx ne=>⟨r,dx,d,rfl,upd_same,rfl,?_⟩⟩
  rw [upd_upd]
  have s1:Same H (upd (upd H dx (.own r)) r (.ins CR dx (rf d 0))):=fun b o e=>by rw [upd_ne (ne_of_none e nr),upd_ne (ne_of_none e ndx)];exact e
  generalize hH1:upd (upd H dx (.own r)) r (.ins CR dx (rf d 0))=H1 at s1
  have h1:H1 r=some (.ins CR dx (rf d 0)):=by rw [<-hH1];exact upd_same
  have hxr:x≠r:=ne_of_none hx nr
  have f0:Fill K CR CN r x dx d dxx s H1 H1 0 [] []:=⟨Off2.refl r x H1,h1,s1 _ _ hx,src.mono s1,fun _ z=>by simp at z,fun _ z=>by simp at z,Nat.le_refl _⟩
  have ofX:∀H',Off2 r x H1 H'->OffX x H H':=fun H' o b ob hb q=>o b ob (ne_of_none q nr) hb (s1 _ _ q)
  have run:GM.Run Ql89.readNet (Ql89Neutral.octets s) 0 (fun n q=>if q < s.length then BadX C x H E q 5 else ∀H',OffX x H H'->NetAt CN CL H' n x->NetOk n->Q .non H') (Bad2 C r x H1 E):=GM.run_mono run (fun _ _ h=>h) fun pl kd h dx' H' o hd=>h dx' H' (ofX H' o) hd
  unfold Ql89.readNet at run
  rw [GM.run_bind] at run
  -- the mark
  refine ⟨_,rfl,r,dx,d,s,rfl,Reads.callX f0.src f0.off f0.hr run fun _ q0 hok v0 H2 e0 h0 hv0 _=>?_⟩
  have f0:=f0.step e0 h0 hxr
  rw [GM.run_bind] at hok
  refine ⟨_,rfl,r,dx,_,rfl,f0.hr,noUW _ _,r,dx,d,s,_,2,1,4096,rfl,⟨by decide,by decide⟩,Reads.callX f0.src f0.off f0.hr (GM.run_numIn_in hok) fun words p_words hok v_words H_words e_words h_words hv_words _=>?_⟩
  obtain ⟨b_words,hok⟩:=hok
  have g1:=f0.next (f:="words") (P:=pNum words) e_words h_words hv_words stab_num [] rfl (by simp) hxr
  refine ⟨_,rfl,x,CN,dxx,_,rfl,e_words _ _ hxr f0.hx,TN.cl,TN.no "words" (by decide +kernel),(by show 0 < 1000;decide),?_⟩
  rw [GM.run_bind] at hok
  refine ⟨_,rfl,r,dx,_,rfl,g1.hr,noUW _ _,r,dx,d,s,_,2,1,256,rfl,⟨by decide,by decide⟩,Reads.callX g1.src g1.off g1.hr (GM.run_numIn_in hok) fun width p_width hok v_width H_width e_width h_width hv_width _=>?_⟩
  obtain ⟨b_width,hok⟩:=hok
  have g2:=g1.next (f:="width") (P:=pNum width) e_width h_width hv_width stab_num ["words"] rfl (by decide +kernel) hxr
  refine ⟨_,rfl,x,CN,dxx,_,rfl,e_width _ _ hxr g1.hx,TN.cl,TN.no "width" (by decide +kernel),(by have:=g1.len;simp only [List.length_cons,List.length_nil] at this;omega),?_⟩
  rw [GM.run_bind,GM.run_here,GM.run_bind] at hok
  have hok:=GM.run_heads_in (width:=width) (GM.run_mono hok (fun h q z=>GM.run_ite.mp z) fun _ _ z=>z)
  refine ⟨_,rfl,_,rfl,x,CN,dxx,_,_,rfl,g2.hx,TN.cl,TN.no "width" (by decide +kernel),g2.gN (n:=width) (by simp),r,dx,d,s,_,width,rfl,Reads.callX g2.src g2.off g2.hr hok fun heads p_h hok v_h H_h e_h h_h hv_h _=>?_⟩
  obtain ⟨b_heads,hok⟩:=hok
  have g3:=g2.next (f:="heads") (P:=pNum heads) e_h h_h hv_h stab_num ["width","words"] rfl (by decide +kernel) hxr
  refine ⟨_,rfl,x,CN,dxx,_,rfl,e_h _ _ hxr g2.hx,TN.cl,TN.no "heads" (by decide +kernel),(by have:=g2.len;simp only [List.length_cons,List.length_nil] at this;omega),?_⟩
  rw [GM.run_bind] at hok
  refine ⟨_,rfl,r,dx,_,rfl,g3.hr,noUW _ _,r,dx,d,s,_,1,1,8,rfl,⟨by decide,by decide⟩,Reads.callX g3.src g3.off g3.hr (GM.run_numIn_in hok) fun layers p_layers hok v_layers H_layers e_layers h_layers hv_layers _=>?_⟩
  obtain ⟨b_layers,hok⟩:=hok
  have hv_layers:v_layers=.int (layers:Int):=hv_layers
  subst hv_layers
  have g4:=g3.step e_layers h_layers hxr
  rw [GM.run_bind] at hok
  refine ⟨_,rfl,r,dx,_,rfl,g4.hr,noUW _ _,r,dx,d,s,_,2,1,1024,rfl,⟨by decide,by decide⟩,Reads.callX g4.src g4.off g4.hr (GM.run_numIn_in hok) fun inner p_inner hok v_inner H_inner e_inner h_inner hv_inner _=>?_⟩
  obtain ⟨b_inner,hok⟩:=hok
  have g5:=g4.next (f:="inner") (P:=pNum inner) e_inner h_inner hv_inner stab_num ["heads","width","words"] rfl (by decide +kernel) hxr
  refine ⟨_,rfl,x,CN,dxx,_,rfl,e_inner _ _ hxr g4.hx,TN.cl,TN.no "inner" (by decide +kernel),(by have:=g4.len;simp only [List.length_cons,List.length_nil] at this;omega),?_⟩
  rw [GM.run_bind] at hok
  refine ⟨_,rfl,r,dx,_,rfl,g5.hr,noUW _ _,r,dx,d,s,_,2,1,256,rfl,⟨by decide,by decide⟩,Reads.callX g5.src g5.off g5.hr (GM.run_numIn_in hok) fun places p_places hok v_places H_places e_places h_places hv_places _=>?_⟩
  obtain ⟨b_places,hok⟩:=hok
  have g6:=g5.next (f:="places") (P:=pNum places) e_places h_places hv_places stab_num ["inner","heads","width","words"] rfl (by decide +kernel) hxr
  refine ⟨_,rfl,x,CN,dxx,_,rfl,e_places _ _ hxr g5.hx,TN.cl,TN.no "places" (by decide +kernel),(by have:=g5.len;simp only [List.length_cons,List.length_nil] at this;omega),?_⟩
  rw [GM.run_bind] at hok
  refine ⟨_,rfl,r,dx,_,rfl,g6.hr,noUW _ _,r,dx,d,s,_,1,0,7,rfl,⟨by decide,by decide⟩,Reads.callX g6.src g6.off g6.hr (GM.run_numIn_in hok) fun w0 p_w0 hok v_w0 H_w0 e_w0 h_w0 hv_w0 _=>?_⟩
  obtain ⟨b_w0,hok⟩:=hok
  have g7:=g6.next (f:="word_power") (P:=pNum w0) e_w0 h_w0 hv_w0 stab_num ["places","inner","heads","width","words"] rfl (by decide +kernel) hxr
  refine ⟨_,rfl,x,CN,dxx,_,rfl,e_w0 _ _ hxr g6.hx,TN.cl,TN.no "word_power" (by decide +kernel),(by have:=g6.len;simp only [List.length_cons,List.length_nil] at this;omega),?_⟩
  rw [GM.run_bind] at hok
  refine ⟨_,rfl,r,dx,_,rfl,g7.hr,noUW _ _,r,dx,d,s,_,1,0,7,rfl,⟨by decide,by decide⟩,Reads.callX g7.src g7.off g7.hr (GM.run_numIn_in hok) fun w1 p_w1 hok v_w1 H_w1 e_w1 h_w1 hv_w1 _=>?_⟩
  obtain ⟨b_w1,hok⟩:=hok
  have g8:=g7.next (f:="place_power") (P:=pNum w1) e_w1 h_w1 hv_w1 stab_num ["word_power","places","inner","heads","width","words"] rfl (by decide +kernel) hxr
  refine ⟨_,rfl,x,CN,dxx,_,rfl,e_w1 _ _ hxr g7.hx,TN.cl,TN.no "place_power" (by decide +kernel),(by have:=g7.len;simp only [List.length_cons,List.length_nil] at this;omega),?_⟩
  rw [GM.run_bind] at hok
  refine ⟨_,rfl,r,dx,d,s,_,rfl,Reads.callX g8.src g8.off g8.hr (GM.run_falling_in _ _ _ hok) fun fal p_f hok v_f H_f e_f h_f hv_f _=>?_⟩
  obtain ⟨b_fal,hok⟩:=hok
  have g9:=g8.next (f:="falling") (P:=pNats fal) e_f h_f hv_f stab_nats ["place_power","word_power","places","inner","heads","width","words"] rfl (by decide +kernel) hxr
  refine ⟨_,rfl,x,CN,dxx,_,rfl,e_f _ _ hxr g8.hx,TN.cl,TN.no "falling" (by decide +kernel),(by have:=g8.len;simp only [List.length_cons,List.length_nil] at this;omega),?_⟩
  rw [GM.run_bind] at hok
  refine ⟨_,rfl,by decide,by decide,fun D hD=>?_⟩
  refine lc_reads (n:=256) relI g9.hr hD (by omega) (GM.run_bends hok) (fun _ _ _ _ _ _ _ _ _ h=>h) (fun _ _ _ _ _ _ h=>h) ?_ ?_
  ·intro i H' q ok' Q' hi e h' hDl hrun kQ
   have hrun':GM.Run (numS 1) (Ql89Neutral.octets s) q ok' (Bad2 C r x H1 E):=by
    unfold numS
    rw [GM.run_bind]
    exact GM.run_signed_byte hrun
   refine ⟨rfl,_,rfl,r,dx,_,rfl,h',noS _ _,r,dx,d,s,q,1,rfl,⟨by decide,by decide⟩,Reads.callX (g9.src.but e g9.hr) (g9.off.but e) h' hrun' fun x q' hok v H'' e2 h2 hv _=>?_⟩
   exact kQ x v q' H'' e2 h2 hv hok
  intro bend us p_b H_b e_b h_b hD_b hP hxl hok
  obtain ⟨b_bend,hok⟩:=hok
  rw [paired_ints hP] at hD_b
  have g10:=g9.next (f:="bend") (P:=pInts bend) e_b h_b ⟨D,rfl,hD_b⟩ stab_ints ["falling","place_power","word_power","places","inner","heads","width","words"] rfl (by decide +kernel) hxr
  refine ⟨_,rfl,x,CN,dxx,_,rfl,e_b _ _ hxr g9.hx,TN.cl,TN.no "bend" (by decide +kernel),(by have:=g9.len;simp only [List.length_cons,List.length_nil] at this;omega),?_⟩
  clear hP hxl hD hD_b
  rw [GM.run_bind] at hok
  refine ⟨_,rfl,_,rfl,x,CN,dxx,_,_,rfl,g10.hx,TN.cl,TN.no "words" (by decide +kernel),g10.gN (n:=words) (by simp),_,rfl,x,CN,dxx,_,_,rfl,g10.hx,TN.cl,TN.no "width" (by decide +kernel),g10.gN (n:=width) (by simp),r,dx,d,s,_,words,width,rfl,Reads.callX g10.src g10.off g10.hr (GM.run_shaped_in hok) fun emb p_emb hok v_emb H_emb e_emb h_emb hv_emb _=>?_⟩
  obtain ⟨b_emb,hok⟩:=hok
  obtain ⟨a_emb,rfl,l_emb,m_emb⟩:=hv_emb
  have g11:=g10.next (f:="word_lines") (P:=pLines emb.row) e_emb h_emb ⟨a_emb,rfl,l_emb⟩ stab_lines ["bend","falling","place_power","word_power","places","inner","heads","width","words"] rfl (by decide +kernel) hxr
  refine ⟨_,rfl,x,CN,dxx,_,rfl,e_emb _ _ hxr g10.hx,TN.cl,TN.no "word_lines" (by decide +kernel),(by have:=g10.len;simp only [List.length_cons,List.length_nil] at this;omega),?_⟩
  rw [GM.run_bind] at hok
  refine ⟨_,rfl,_,rfl,x,CN,dxx,_,_,rfl,g11.hx,TN.cl,TN.no "places" (by decide +kernel),g11.gN (n:=places) (by simp),_,rfl,x,CN,dxx,_,_,rfl,g11.hx,TN.cl,TN.no "width" (by decide +kernel),g11.gN (n:=width) (by simp),r,dx,d,s,_,places,width,rfl,Reads.callX g11.src g11.off g11.hr (GM.run_shaped_in hok) fun pos p_pos hok v_pos H_pos e_pos h_pos hv_pos _=>?_⟩
  obtain ⟨b_pos,hok⟩:=hok
  obtain ⟨a_pos,rfl,l_pos,m_pos⟩:=hv_pos
  have g12:=g11.next (f:="place_lines") (P:=pLines pos.row) e_pos h_pos ⟨a_pos,rfl,l_pos⟩ stab_lines ["word_lines","bend","falling","place_power","word_power","places","inner","heads","width","words"] rfl (by decide +kernel) hxr
  refine ⟨_,rfl,x,CN,dxx,_,rfl,e_pos _ _ hxr g11.hx,TN.cl,TN.no "place_lines" (by decide +kernel),(by have:=g11.len;simp only [List.length_cons,List.length_nil] at this;omega),?_⟩
  rw [GM.run_bind] at hok
  refine ⟨_,rfl,_,rfl,by omega,by omega,fun D hD=>?_⟩
  rw [Int.toNat_natCast]
  have hDr:r≠D:=ne_of_none g12.hr hD
  have hDx:x≠D:=ne_of_none g12.hx hD
  refine lc_reads (fun (y:Ql89.Layer) v H'=>∃a,v=.ref a/\a≠r/\a≠x/\LayerAt CL (hid D H') y a/\LayerOk y width inner) g12.hr hD (by omega) hok ?_ ?_ ?_ ?_
  ·rintro y v H' H'' q l h' hD' e ⟨a,rfl,n1,n2,q1,q2⟩
   exact ⟨a,rfl,n1,n2,q1.hbut e ⟨_,_,_,h'⟩ n1,q2⟩
  ·rintro y v H' l l' hD' ⟨a,rfl,n1,n2,q1,q2⟩
   exact ⟨a,rfl,n1,n2,by rw [hid_upd];exact q1,q2⟩
  ·rintro i H' q ok' Q' hi e h' ⟨l,hD'⟩ hrun kQ
   have fH:=g12.step e h' hxr
   refine ⟨rfl,D,.lst l,hD',trivial,fun od=>?_⟩
   refine ⟨_,rfl,_,rfl,x,CN,dxx,_,_,rfl,by rw [upd_ne hDx];exact fH.hx,TN.cl,TN.no "width" (by decide +kernel),fH.gN (n:=width) (by simp),_,rfl,x,CN,dxx,_,_,rfl,by rw [upd_ne hDx];exact fH.hx,TN.cl,TN.no "inner" (by decide +kernel),fH.gN (n:=inner) (by simp),fun xl dxl nxl ndxl nel=>?_⟩
   have old:∀b o,b≠D->H' b=some o->upd (upd (upd H' D (.frz od (.lst l))) dxl (.own xl)) xl (.ins CL dxl []) b=some o:=fun b o hb q=>by
    have z:upd H' D (.frz od (.lst l)) b=some o:=by rw [upd_ne hb];exact q
    rw [upd_ne (ne_of_none z nxl),upd_ne (ne_of_none z ndxl)]
    exact z
   have hDf:upd (upd (upd H' D (.frz od (.lst l))) dxl (.own xl)) xl (.ins CL dxl []) D=some (.frz od (.lst l)):=by
    have z:upd H' D (.frz od (.lst l)) D=some (.frz od (.lst l)):=upd_same
    rw [upd_ne (ne_of_none z nxl),upd_ne (ne_of_none z ndxl)]
    exact z
   have zr:upd H' D (.frz od (.lst l)) r=some (.ins CR dx (rf d q)):=by rw [upd_ne hDr];exact h'
   have zx:=(upd_ne hDx (H:=H') (o:=.frz od (.lst l))).trans fH.hx
   have nlr:xl≠r:=(ne_of_none zr nxl).symm
   have nlx:xl≠x:=(ne_of_none zx nxl).symm
   have nlD:D≠xl:=ne_of_none (show upd H' D (.frz od (.lst l)) D=some _ from upd_same) nxl
   refine ⟨xl,r,dx,d,dxl,s,q,width,inner,rfl,upd_same,old _ _ hDr h',nlr,?_,⟨by omega,by omega⟩,?_⟩
   ·refine ⟨?_,src.byt,src.len⟩
    rcases g12.src.ls with (z | ⟨o,z⟩) | z
    ·exact .inl (.inl (old _ _ (ne_of_none z hD) (e _ _ (ne_of z g12.hr (by intro y;cases y)) z)))
    ·exact .inl (.inr ⟨o,old _ _ (ne_of_none z hD) (e _ _ (ne_of z g12.hr (by intro y;cases y)) z)⟩)
    ·exact .inr z
   ·refine GM.run_mono hrun (fun y q' hok' H'' o2 h2 lay lok=>⟨rfl,?_,?_⟩) fun pl kd hb dx' H'' o2 hd=>?_
    ·exact o2 _ _ hDr.symm nlD hDf
    ·have hDf2:=o2 _ _ hDr.symm nlD hDf
     refine kQ y _ q' _ (fun b o hb q=>?_) (by rw [upd_ne hDr];exact h2) ⟨xl,rfl,nlr,nlx,by rw [hid_upd];exact lay.hide hDf2,lok⟩ hok'
     by_cases c:b=D
     ·rw [c] at q |-
      rw [upd_same]
      rw [hD'] at q
      exact q
     ·rw [upd_ne c]
      have z:upd H' D (.frz od (.lst l)) b=some o:=by rw [upd_ne c];exact q
      exact o2 _ _ hb (ne_of_none z nxl) (old _ _ c q)
    ·refine hb dx' H'' (fun b o n1 n2 q=>?_) hd
     have q1:=g12.off b o n1 n2 q
     have c:b≠D:=ne_of_none q1 hD
     have q2:=e b o n1 q1
     have z:upd H' D (.frz od (.lst l)) b=some o:=by rw [upd_ne c];exact q2
     exact o2 _ _ n1 (ne_of_none z nxl) (old _ _ c q2)
  intro ls us p_l H_l e_l h_l hD_l hP hll hok
  have hLays:pLay CL r x ls H_l (.ref D)/\∀y∈ls,LayerOk y width inner:=by
   clear hok hll
   have key:∃as:List Addr,us=as.map V.ref/\Paired (fun y b=>b≠r/\b≠x/\LayerAt CL H_l y b) ls as/\∀y∈ls,LayerOk y width inner:=by
    clear hD_l
    induction hP with
    | nil=>exact ⟨[],rfl,.nil,fun _ z=>by simp at z⟩
    | cons q t ih=>
     obtain ⟨as,e1,e2,e3⟩:=ih
     obtain ⟨a,rfl,n1,n2,q1,q2⟩:=q
     refine ⟨a :: as,by rw [e1];rfl,.cons ⟨n1,n2,q1.shown⟩ e2,fun y hy=>?_⟩
     rcases List.mem_cons.mp hy with z | z
     ·rw [z];exact q2
     ·exact e3 y z
   obtain ⟨as,e1,e2,e3⟩:=key
   exact ⟨⟨D,as,rfl,by rw [hD_l,e1],e2⟩,e3⟩
  obtain ⟨hLays,okLays⟩:=hLays
  have g13:=g12.next (f:="layers") (P:=pLay CL r x ls) e_l h_l hLays stab_lay ["place_lines","word_lines","bend","falling","place_power","word_power","places","inner","heads","width","words"] rfl (by decide +kernel) hxr
  refine ⟨_,rfl,x,CN,dxx,_,rfl,e_l _ _ hxr g12.hx,TN.cl,TN.no "layers" (by decide +kernel),(by have:=g12.len;simp only [List.length_cons,List.length_nil] at this;omega),?_⟩
  clear hP hll hD hD_l hDr hDx
  rw [GM.run_bind] at hok
  refine ⟨_,rfl,_,rfl,x,CN,dxx,_,_,rfl,g13.hx,TN.cl,TN.no "width" (by decide +kernel),g13.gN (n:=width) (by simp),r,dx,d,s,_,width,rfl,by omega,Reads.callX g13.src g13.off g13.hr (gains_len hok) fun g p_g hok v_g H_g e_g h_g hv_g _=>?_⟩
  obtain ⟨b_g,hok⟩:=hok
  have g14:=g13.next (f:="last_gains") (P:=pInts g) e_g h_g hv_g stab_ints ["layers","place_lines","word_lines","bend","falling","place_power","word_power","places","inner","heads","width","words"] rfl (by decide +kernel) hxr
  refine ⟨_,rfl,x,CN,dxx,_,rfl,e_g _ _ hxr g13.hx,TN.cl,TN.no "last_gains" (by decide +kernel),(by have:=g13.len;simp only [List.length_cons,List.length_nil] at this;omega),?_⟩
  rw [GM.run_bind] at hok
  refine ⟨_,rfl,x,CN,dxx,_,_,rfl,g14.hx,TN.cl,TN.no "words" (by decide +kernel),g14.gN (n:=words) (by simp),_,rfl,by omega,by omega,fun D hD=>?_⟩
  rw [Int.toNat_natCast]
  refine lc_reads relI g14.hr hD (by omega) (GM.run_times_len hok) (fun _ _ _ _ _ _ _ _ _ h=>h) (fun _ _ _ _ _ _ h=>h) ?_ ?_
  ·intro i H' q ok' Q' hi e h' hDl hrun kQ
   refine ⟨rfl,_,rfl,r,dx,_,rfl,h',noSW _ _,_,rfl,r,dx,d,s,q,4,_,_,rfl,⟨by decide,by decide⟩,Reads.callX (g14.src.but e g14.hr) (g14.off.but e) h' hrun fun x q' hok v H'' e2 h2 hv _=>?_⟩
   exact kQ x v q' H'' e2 h2 hv hok
  intro lean us p_n H_n e_n h_n hD_n hP hxl hok
  obtain ⟨b_lean,hok⟩:=hok
  rw [paired_ints hP] at hD_n
  have g15:=g14.next (f:="leanings") (P:=pInts lean) e_n h_n ⟨D,rfl,hD_n⟩ stab_ints ["last_gains","layers","place_lines","word_lines","bend","falling","place_power","word_power","places","inner","heads","width","words"] rfl (by decide +kernel) hxr
  refine ⟨_,rfl,x,CN,dxx,_,rfl,e_n _ _ hxr g14.hx,TN.cl,TN.no "leanings" (by decide +kernel),(by have:=g14.len;simp only [List.length_cons,List.length_nil] at this;omega),?_⟩
  clear hP hxl hD hD_n
  rw [GM.run_bind] at hok
  refine ⟨_,rfl,r,dx,_,rfl,g15.hr,noUW _ _,r,dx,d,s,_,1,0,24,rfl,⟨by decide,by decide⟩,Reads.callX g15.src g15.off g15.hr (GM.run_numIn_in hok) fun c p_c hok v_c H_c e_c h_c hv_c _=>?_⟩
  obtain ⟨b_c,hok⟩:=hok
  have g16:=g15.next (f:="fall_shift") (P:=pNum c) e_c h_c hv_c stab_num ["leanings","last_gains","layers","place_lines","word_lines","bend","falling","place_power","word_power","places","inner","heads","width","words"] rfl (by decide +kernel) hxr
  refine ⟨_,rfl,x,CN,dxx,_,rfl,e_c _ _ hxr g15.hx,TN.cl,TN.no "fall_shift" (by decide +kernel),(by have:=g15.len;simp only [List.length_cons,List.length_nil] at this;omega),?_⟩
  -- nothing follows
  refine ⟨_,rfl,r,dx,_,rfl,g16.hr,noNF _ _,r,dx,d,s,_,rfl,g16.hr,g16.src,?_⟩
  by_cases hq:p_c < s.length
  ·rw [if_pos hq]
   have hok:=(show if p_c < s.length then BadX C x H E p_c 5 else _ from hok)
   rw [if_pos hq] at hok
   exact fun dx' hdx=>hok dx' _ (fun b o hb q=>by
    have z:=ofX _ g16.off b o hb q
    rw [upd_ne (ne_of_none z hdx)];exact z) upd_same
  ·rw [if_neg hq]
   have hok:=(show if p_c < s.length then BadX C x H E p_c 5 else _ from hok)
   rw [if_neg hq] at hok
   refine hok _ (ofX _ g16.off) ⟨dxx,_,g16.hx,g16.gN (by simp),g16.gN (by simp),g16.gN (by simp),g16.gN (by simp),g16.gN (by simp),g16.gN (by simp),g16.gN (by simp),?_,g16.gI (by simp),g16.gM (by simp),g16.gM (by simp),?_,g16.gI (by simp),g16.gI (by simp),g16.gN (by simp)⟩ ?_
   ·obtain ⟨v,q1,a,rfl,q2⟩:=g16.has ("falling",pNats fal) (by simp)
    exact ⟨a,q1,q2⟩
   ·obtain ⟨v,q1,a,as,rfl,q2,q3⟩:=g16.has ("layers",pLay CL r x ls) (by simp)
    exact ⟨a,as,q1,q2,Paired.mapP q3 fun _ _ z=>z.2.2⟩
   ·exact ⟨b_words,b_width,b_heads,b_inner,b_places,b_w0.2,b_w1.2,⟨b_fal.1,b_fal.2.1 (by decide),b_fal.2.2⟩,b_bend,⟨by rw [m_emb.len];exact b_emb.1,fun z hz=>⟨by rw [(m_emb.row z hz).1];exact b_emb.2,(m_emb.row z hz).2⟩⟩,⟨by rw [m_pos.len];exact b_pos.1,fun z hz=>⟨by rw [(m_pos.row z hz).1];exact b_pos.2,(m_pos.row z hz).2⟩⟩,okLays,b_g,b_lean⟩
end
end Go
namespace L2
open PySem PySem.Spec PyProof.Rows
def isTup:Option HO->Bool
 | some (.tup _)=>true
 | _=>false
def inS (S:List Addr) (H:Hp) (b:Addr):Bool:=match H b with
 | some (.own a)=>S.contains a || isTup (H a)
 | some (.tup _)=>true
 | _=>S.contains b
def cutF (S:List Addr) (H:Hp):Hp:=fun b=>if inS S H b=true then H b else none
def joinF (S:List Addr) (H H1:Hp):Hp:=fun b=>match H1 b with
 | some o=>some o
 | none=>if inS S H b=true then none else H b
def Apart (S:List Addr) (H H1:Hp):Prop:=∀b o,H b=some o->inS S H b=false->H1 b=none
theorem inS_lst {S:List Addr} {H:Hp} {b:Addr} {l:List V} (h:H b=some (.lst l)):inS S H b=S.contains b:=by unfold inS;rw [h]
theorem inS_ins {S:List Addr} {H:Hp} {b C dx:Addr} {fs:List (Str×V)} (h:H b=some (.ins C dx fs)):inS S H b=S.contains b:=by unfold inS;rw [h]
theorem inS_tup {S:List Addr} {H:Hp} {b:Addr} {l:List V} (h:H b=some (.tup l)):inS S H b=true:=by unfold inS;rw [h]
theorem inS_own {S:List Addr} {H:Hp} {a b:Addr} {o:HO} (ha:H a=some o) (hn:∀y,o≠.own y) (hb:H b=some (.own a)):inS S H b=inS S H a:=by
 have e1:inS S H b=(S.contains a || isTup (H a)):=by unfold inS;rw [hb]
 rw [e1]
 cases o with
 | own y=>exact absurd rfl (hn y)
 | tup xs=>rw [inS_tup ha,ha];simp [isTup]
 | _=>unfold inS;rw [ha];simp [isTup]
theorem join_in {S:List Addr} {H H1:Hp} {b:Addr} {o:HO} (h:H1 b=some o):joinF S H H1 b=some o:=by unfold joinF;rw [h]
theorem join_out {S:List Addr} {H H1:Hp} {b:Addr} (h:H1 b=none) (hi:inS S H b=false):joinF S H H1 b=H b:=by unfold joinF;rw [h];simp [hi]
theorem join_none {S:List Addr} {H H1:Hp} {b:Addr} (h:H1 b=none) (hb:H b=none):joinF S H H1 b=none:=by
 unfold joinF
 rw [h,hb]
 simp
section
variable {P:Program} {w:World} {H H':Hp} {h h':Heap} {a:Addr} {o:HO}
theorem ObjOk.get (x:ObjOk P w H h a o):∃u,h.get? a=some u:=by
 cases o with
 | lst xs=>obtain ⟨_,_,_,_,e⟩:=x;exact ⟨_,e⟩
 | tup xs=>obtain ⟨_,_,_,u,e,_⟩:=x;exact ⟨u,e⟩
 | dK kvs=>obtain ⟨_,_,_,_,o,_,_,e,_⟩:=x;exact ⟨o,e⟩
 | dT kvs=>obtain ⟨_,_,_,_,o,_,_,e,_⟩:=x;exact ⟨o,e⟩
 | set S n=>obtain ⟨o,_,_,_,e,_⟩:=x;exact ⟨o,e⟩
 | ins C dx fs=>obtain ⟨_,_,_,e,_⟩:=x;exact ⟨_,e⟩
 | own y=>exact x
 | xd fs=>obtain ⟨_,⟨o,_,_,e,_⟩,_⟩:=x;exact ⟨o,e⟩
 | rng lo hi=>obtain ⟨_,_,_,e⟩:=x;exact ⟨_,e⟩
 | frz ob u=>exact ⟨ob,x.1⟩
 | tbl ps=>exact ⟨_,x⟩
 | met f y=>exact ⟨_,x⟩
 | ext φ=>exact x.2.1
theorem ObjOk.stay' (x:ObjOk P w H h a o) (k:∀b u,(b=a\/((∀y,o≠.own y)/\H b=some (.own a)))->h.get? b=some u->h'.get? b=some u)
  (ho:(∀y,o≠.own y)->∀b,H b=some (.own a)->H' b=some (.own a)) (ht:∀b xs,H b=some (.tup xs)->H' b=some (.tup xs)):ObjOk P w H' h' a o:=by
 by_cases hy:∀y,o≠.own y
 ·exact x.stay (fun b u hb q=>k b u (hb.imp id fun z=>⟨hy,z⟩) q) (ho hy) ht
 ·have:∃y,o=.own y:=by
   refine Classical.byContradiction fun z=>hy fun y e=>z ⟨y,e⟩
  obtain ⟨y,rfl⟩:=this
  obtain ⟨u,e⟩:=x
  exact ⟨u,k a u (.inl rfl) e⟩
end
section
variable {P:Program} {w:World} {S:List Addr} {H H1:Hp} {h h':Heap} {fs:List Addr}
theorem HOk.cut (x:HOk P w H h):HOk P w (cutF S H) h:=fun b u e=>by
 unfold cutF at e
 by_cases hb:inS S H b=true
 ·rw [if_pos hb] at e
  refine (x b u e).stay' (fun _ _ _ q=>q) (fun hy c hc=>?_) fun c xs hc=>?_
  ·unfold cutF
   rw [if_pos (by rw [inS_own e hy hc];exact hb)]
   exact hc
  ·unfold cutF
   rw [if_pos (inS_tup hc)]
   exact hc
 ·rw [if_neg hb] at e
  cases e
theorem cut_free {b:Addr} (hb:inS S H b=false):cutF S H b=none:=by unfold cutF;simp [hb]
theorem cut_none {b:Addr} (hb:H b=none):cutF S H b=none:=by unfold cutF;rw [hb];simp
theorem cut_in {b:Addr} {o:HO} (hb:inS S H b=true) (e:H b=some o):cutF S H b=some o:=by unfold cutF;rw [if_pos hb];exact e
theorem apart_of (x:HOk P w H h) (un:Un fs [] (cutF S H) H1 h h'):Apart S H H1:=fun b o e hb=>by
 obtain ⟨u,q⟩:=(x b o e).get
 exact un.free b u q (cut_free hb) (by simp)
theorem Un.join (x:HOk P w H h) (un:Un fs [] (cutF S H) H1 h h'):Un fs [] H (joinF S H H1) h h':=by
 have ap:=apart_of x un
 refine {keep:=fun b o q n hb he=>un.keep b o q (cut_none n) hb he,slot:=fun b o q n hb he=>un.slot b o q (cut_none n) hb he,free:=fun b o q n he=>?_,there:=un.there,tups:=fun b xs q=>?_,frzs:=fun b o u q=>?_,tbls:=fun b ps q=>?_}
 ·exact join_none (un.free b o q (cut_none n) he) n
 ·exact join_in (un.tups b xs (cut_in (inS_tup q) q))
 ·cases hb:inS S H b with
  | true=>exact join_in (un.frzs b o u (cut_in hb q))
  | false=>rw [join_out (ap b _ q hb) hb];exact q
 ·cases hb:inS S H b with
  | true=>
   obtain ⟨m,e⟩:=un.tbls b ps (cut_in hb q)
   exact ⟨m,join_in e⟩
  | false=>exact ⟨#[],by rw [join_out (ap b _ q hb) hb,q];simp⟩
theorem HOk.join (x:HOk P w H h) (hf:∀b∈fs,H b=none) (un:Un fs [] (cutF S H) H1 h h') (y:HOk P w H1 h'):HOk P w (joinF S H H1) h':=fun b u e=>by
 have ap:=apart_of x un
 cases q:H1 b with
 | some v=>
  rw [join_in q] at e
  cases e
  exact (y b _ q).stay (fun _ _ _ z=>z) (fun c z=>join_in z) fun c xs z=>join_in z
 | none=>
  cases hb:inS S H b with
  | true=>
   unfold joinF at e
   rw [q] at e
   simp [hb] at e
  | false=>
   rw [join_out q hb] at e
   refine (x b u e).stay' (fun c v hc z=>?_) (fun hy c hc=>?_) fun c xs hc=>?_
   ·rcases hc with rfl | ⟨hy,hc⟩
    ·exact un.keep c v z (cut_free hb) (fun m=>by rw [hf c m] at e;cases e) (by simp)
    ·have:inS S H c=false:=by rw [inS_own e hy hc];exact hb
     exact un.keep c v z (cut_free this) (fun m=>by rw [hf c m] at hc;cases hc) (by simp)
   ·have:inS S H c=false:=by rw [inS_own e hy hc];exact hb
    rw [join_out (ap c _ hc this) this]
    exact hc
   ·exact join_in (un.tups c xs (cut_in (inS_tup hc) hc))
end
def frameSp (sp:Sp):Sp:=fun vs H Q E=>∃S:List Addr,sp vs (cutF S H) (fun v H1=>Apart S H H1->Q v (joinF S H H1)) (fun c d H1=>Apart S H H1->E c d (joinF S H H1))
theorem FnOk.frame {P:Program} {w:World} {K:PySem.W.Frag} {mg:Str->Option Value} {base:Heap} {C:Addr} {k:Nat} {f:Addr} {fd:FuncData} {ps:List Str} {sp:Sp} (F:FnOk P w K mg base (CXF P w C) k f fd ps sp) :
  FnOk P w K mg base (CXF P w C) k f fd ps (frameSp sp):=by
 refine ⟨fun vs H Q E h=>?_,fun A outer s H args us vs Q E hr e0 hb hv hs=>?_⟩
 ·obtain ⟨S,h⟩:=h
  exact F.len _ _ _ _ h
 ·obtain ⟨S,hs⟩:=hs
  have e1:Env0 P w K mg base A outer s (cutF S H):=⟨e0.frames,e0.mod,fun b o e=>⟨(e0.bs b o e).1,cut_none (e0.bs b o e).2⟩,e0.bsz,e0.funs,fun b hb=>cut_none (e0.frf b hb),e0.hok.cut,e0.bare⟩
  refine codeAny_mono (F.run A outer s (cutF S H) args us vs _ _ hr e1 hb hv hs) fun r s' h=>?_
  cases r with
  | error e=>
   obtain ⟨a,dx,T,H1,rfl,os,bare,un,hok,xr,ha,hT,na,nT,hE⟩:=h
   exact ⟨a,dx,T,joinF S H H1,rfl,os,bare,Un.join e0.hok un,e0.hok.join e0.frf un hok,xr,ha,hT,join_none na (e0.hok.fresh ha),join_none nT (e0.hok.fresh hT),hE (apart_of e0.hok un)⟩
  | ok fl=>
   cases fl with
   | ret u=>
    obtain ⟨v,H1,os,bare,un,hok,rv,q⟩:=h
    exact ⟨v,joinF S H H1,os,bare,Un.join e0.hok un,e0.hok.join e0.frf un hok,rv,q (apart_of e0.hok un)⟩
   | next=>exact h
   | brk=>exact h
   | cont=>exact h
end L2
namespace GM
open Ql89
theorem net_layers {l:Bytes} {p:Nat} {bad:Nat->Nat->Prop} {ok:Net->Nat->Prop} (h:Run readNet l p ok bad):Run readNet l p (fun n q=>n.layers.length<=8/\ok n q) bad:=by
 unfold readNet at h |-
 iterate 3 (rw [run_bind] at h |-;refine run_mono h (fun _ _ h=>?_) fun _ _ z=>z)
 rw [run_bind,run_here,run_bind] at h |-
 refine run_mono h (fun _ _ h=>?_) fun _ _ z=>z
 rw [run_ite] at h |-
 split at h
 ·rename_i hc
  rw [if_pos hc]
  exact h
 ·rename_i hc
  rw [if_neg hc]
  rw [run_bind] at h |-
  refine run_mono (run_numIn_in h) (fun layers _ h=>?_) fun _ _ z=>z
  obtain ⟨b,h⟩:=h
  iterate 8 (rw [run_bind] at h |-;refine run_mono h (fun _ _ h=>?_) fun _ _ z=>z)
  rw [run_bind] at h |-
  refine run_mono (run_times_all (F:=fun _=>True) (fun p ok h=>run_mono h (fun _ _ h=>⟨trivial,h⟩) fun _ _ z=>z) layers h) (fun ls _ h=>?_) fun _ _ z=>z
  obtain ⟨⟨hl,_⟩,h⟩:=h
  iterate 3 (rw [run_bind] at h |-;refine run_mono h (fun _ _ h=>?_) fun _ _ z=>z)
  exact ⟨by show ls.length<=8;omega,h⟩
end GM
namespace Go
open PySem L2
abbrev readNt (s:List Int):Except Ql89.Fault Ql89.Net:=Ql89.whole Ql89.readNet (Ql89Neutral.octets s)
theorem SesF.put {fs:List (Str×V)} {nv:V} {kl lv:Addr} (h:SesF fs nv kl lv) (nv':V):SesF (putF "net" nv' fs) nv' kl lv:=by
 have no:∀m∈sesM,¬m = "net":=by decide +kernel
 refine ⟨?_,?_,?_,fun m hm=>?_,by rw [putF_len h.net];exact h.len⟩
 ·rw [lookup_putF,if_pos rfl]
 ·rw [lookup_putF,if_neg fun z=>nk1 z.symm];exact h.kep
 ·rw [lookup_putF,if_neg fun z=>nl1 z.symm];exact h.lev
 ·rw [lookup_putF,if_neg (no m hm)];exact h.no m hm
theorem SesF.kept {fs:List (Str×V)} {nv:V} {kl lv:Addr} (h:SesF fs nv kl lv) (kl':Addr):SesF (putF "kept_layers" (.ref kl') fs) nv kl' lv:=by
 have no:∀m∈sesM,¬m = "kept_layers":=by decide +kernel
 refine ⟨?_,?_,?_,fun m hm=>?_,by rw [putF_len h.kep];exact h.len⟩
 ·rw [lookup_putF,if_neg nk1];exact h.net
 ·rw [lookup_putF,if_pos rfl]
 ·rw [lookup_putF,if_neg fun z=>kl1 z.symm];exact h.lev
 ·rw [lookup_putF,if_neg (no m hm)];exact h.no m hm
theorem allC_snoc (cs:List Cols) (c:Cols):allC (cs ++ [c])=allC cs ++ colsIn c:=by unfold allC;rw [List.flatMap_append];simp
theorem KeptAll.snoc {CK:Addr} {H:Hp} {kas:List Addr} {d:Nat} {pasts:List (List Ql89.Pair)} {cs:List Cols} {ka:Addr} {past:List Ql89.Pair} {ks vs:List Addr} (h:KeptAll CK H kas d pasts cs) (hK:KeptAt CK H ka d past ks vs) (hd:∀b∈ks ++ vs,b∉allC cs):KeptAll CK H (kas ++ [ka]) d (pasts ++ [past]) (cs ++ [(ks,vs)]):=by
 have l1:=h.l1
 have l2:=h.l2
 refine ⟨by rw [List.length_append,List.length_append,l1];rfl,by rw [List.length_append,List.length_append,l2];rfl,fun i kb pb cb q1 q2 q3=>?_,?_⟩
 ·by_cases hi:i < kas.length
  ·rw [List.getElem?_append_left hi] at q1
   rw [List.getElem?_append_left (by omega)] at q2 q3
   exact h.at_ i kb pb cb q1 q2 q3
  ·have hil:i < kas.length + 1:=by
    have:=(List.getElem?_eq_some_iff.mp q1).1
    rw [List.length_append] at this
    exact this
   have e:i=kas.length:=by omega
   rw [List.getElem?_append_right (by omega),show i - kas.length=0 by omega] at q1
   rw [List.getElem?_append_right (by omega),show i - pasts.length=0 by omega] at q2
   rw [List.getElem?_append_right (by omega),show i - cs.length=0 by omega] at q3
   have q1:ka=kb:=by simpa using q1
   have q2:past=pb:=by simpa using q2
   have q3:(ks,vs)=cb:=by simpa using q3
   subst q1 q2 q3
   exact hK
 ·rw [allC_snoc]
  exact List.nodup_append.mpr ⟨h.nd,hK.nd,fun a ha b hb z=>hd b hb (by rw [<-z];exact ha)⟩
section
variable {P:Program} {w:World} {K:PySem.W.Frag} {mg:Str->Option Value} {base:Heap} {C CR fF CS CN CL CK tP:Addr}
structure LaidK (CK:Addr) (H1 H:Hp) (D:Addr) (d i:Nat) (kas:List Addr) (cs:List Cols):Prop where
 len:kas.length=i
 sm:Same H1 H
 at_:H D=some (.lst (kas.map V.ref))
 kept:KeptAll CK H kas d (List.replicate i []) cs
 new:∀a∈kas,H1 a=none/\a≠D
 nd:kas.Nodup
 cnew:∀a∈allC cs,H1 a=none/\a≠D
theorem LaidK.more {H1 H H':Hp} {D x dk:Addr} {d i:Nat} {kas ks vs:List Addr} {cs:List Cols} (h:LaidK CK H1 H D d i kas cs) (hd:0 < d) (hD:H1 D=none) (nx:H x=none) (ndk:H dk=none) (hne:dk≠x)
  (s:∀b o,b≠x->(upd (upd H dk (.own x)) x (.ins CK dk [])) b=some o->H' b=some o) (hK:KeptAt CK H' x d [] ks vs) (hf:∀a∈ks ++ vs,(upd (upd H dk (.own x)) x (.ins CK dk [])) a=none) :
  H' D=some (.lst (kas.map V.ref))/\LaidK CK H1 (upd H' D (.lst (kas.map V.ref ++ [V.ref x]))) D d (i + 1) (kas ++ [x]) (cs ++ [(ks,vs)]):=by
 have sH:Same H H':=fun b o e=>s b o (ne_of_none e nx) (by rw [upd_ne (ne_of_none e nx),upd_ne (ne_of_none e ndk)];exact e)
 have hDx:D≠x:=ne_of_none h.at_ nx
 have fr:∀a∈ks ++ vs,H a=none:=fun a ha=>by
  cases q:H a with
  | none=>rfl
  | some o=>
   have:=hf a ha
   rw [upd_ne (ne_of_none q nx),upd_ne (ne_of_none q ndk),q] at this
   cases this
 have fD:∀a∈ks ++ vs,a≠D:=fun a ha z=>by have:=fr a ha;rw [z,h.at_] at this;cases this
 have hKA:KeptAll CK H' (kas ++ [x]) d (List.replicate (i + 1) []) (cs ++ [(ks,vs)]):=by
  rw [List.replicate_succ']
  exact (h.kept.mono sH).snoc hK fun b hb z=>by
   obtain ⟨_,q⟩:=h.kept.colL b z
   rw [fr b hb] at q;cases q
 have xk:x∉kas:=fun z=>by
  obtain ⟨_,_,q⟩:=h.kept.ins x z
  rw [nx] at q;cases q
 refine ⟨sH _ _ h.at_,by rw [List.length_append,h.len];rfl,(h.sm.trans sH).updN hD,by rw [upd_same,List.map_append];rfl,?_,fun a ha=>?_,?_,fun a ha=>?_⟩
 ·refine KeptAll.but (b:=D) hKA (fun c o hc e=>by rw [upd_ne hc];exact e) (fun z=>?_) (fun z=>?_) fun c hc=>?_
  ·rcases List.mem_append.mp z with z | z
   ·exact (h.new D z).2 rfl
   ·exact hDx (List.mem_singleton.mp z)
  ·rw [allC_snoc] at z
   rcases List.mem_append.mp z with z | z
   ·exact (h.cnew D z).2 rfl
   ·exact fD D z rfl
  ·have hDH:=sH _ _ h.at_
   obtain ⟨c1,c2⟩:=hKA.lens c hc
   have key:∀us:List Addr,us.length=d->(∀a∈us,a∈allC (cs ++ [(ks,vs)]))->H' D≠some (.lst (us.map V.ref)):=fun us hl hin e=>by
    rw [hDH] at e
    have e:=Option.some.inj e
    injection e with e
    have e:=map_ref_inj e
    obtain ⟨u0,hu0⟩:∃a,us[0]? = some a:=⟨us[0]'(by omega),by simp [show 0 < us.length by omega]⟩
    obtain ⟨_,q⟩:=hKA.colL u0 (hin u0 (List.mem_of_getElem? hu0))
    obtain ⟨_,_,q'⟩:=hKA.ins u0 (List.mem_append_left _ (by rw [e];exact List.mem_of_getElem? hu0))
    rw [q] at q';cases q'
   exact ⟨key c.1 c1 fun a ha=>List.mem_flatMap.mpr ⟨c,hc,List.mem_append_left _ ha⟩,key c.2 c2 fun a ha=>List.mem_flatMap.mpr ⟨c,hc,List.mem_append_right _ ha⟩⟩
 ·rcases List.mem_append.mp ha with z | z
  ·exact h.new a z
  ·rw [List.mem_singleton.mp z]
   exact ⟨h.sm.free nx,hDx.symm⟩
 ·exact List.nodup_append.mpr ⟨h.nd,by simp,fun a ha b hb z=>xk (by rw [<-List.mem_singleton.mp hb,<-z];exact ha)⟩
 ·rw [allC_snoc] at ha
  rcases List.mem_append.mp ha with z | z
  ·exact h.cnew a z
  ·exact ⟨h.sm.free (fr a z),fD a z⟩
def spBegin (CS CN CL CK tP:Addr):Sp:=fun vs H Q _=>∃(sa d:Addr) (s:List Int) (st:Ql89.Abs) (M:List Addr) (H0:Hp),vs=[.ref sa,.ref d]/\SesAt CS CN CL CK tP H sa st M H0/\Tab H tP/\H d=some (.lst (s.map V.int))/\(∀z∈s,GM.isByte z)/\s.length<=100000/\
 ((∃fl,readNt s=.error fl)->Out CS CN CL CK tP H sa M H0 [-2] st Q)/\
 ∀n,readNt s=.ok n->∀D H' M' H0',H D=none->H' D=some (.lst ([(0:Int)].map V.int))->SesAt CS CN CL CK tP H' sa (some ⟨n,[]⟩) M' H0'->(∀b o,b≠tP->b∉M->H b=some o->H' b=some o)->(∀b∈M',b∈M\/H b=none)->(∀b l,b∉M->b≠d->H b=some (.lst l)->H0' b=none)->Tab H' tP->Q (.ref D) H'
theorem scBegin:FnScope ["self","data","net","layer"] ["self","data"] (defScope sBegin):=⟨rfl,rfl,rfl,by decide +kernel,rfl,by decide +kernel,by decide +kernel⟩
theorem ok_Begin {f fNI fKI:Addr} {fd fdNI fdKI:FuncData} (F:Fun K "begin" "Session.begin" sBegin f fd) (T:Txt K mg C CR fF) (TS:Attrs K CS sesA) (TN:Attrs K CN netA) (hbytes:∃t,mg "MOST_NET_BYTES" = some (.int 16777216 t)) (mgN:mg "Net" = some (.ref CN)) (mgK:mg "Kept" = some (.ref CK))
  (MN:Mk K CN fNI) (NI:FnOk P w K mg base (CXF P w C) 13 fNI fdNI ["self","data"] (spNI K C CN CL)) (bN:Binds K fdNI ["self","data"] [])
  (MK:Mk K CK fKI) (KI:FnOk P w K mg base CX0 1 fKI fdKI ["self","width"] (spKI CK)) (bK:Binds K fdKI ["self","width"] []):FnOk P w K mg base CX0 15 f fd ["self","data"] (spBegin CS CN CL CK tP):=by
 refine F.ok scBegin (fun vs H Q E h=>?_) (fun cdv A outer st H vs Q E hr h=>?_)
 ·obtain ⟨sa,d,s,st,M,H0,rfl,_⟩:=h
  rfl
 ·obtain ⟨sa,d,s,st',M,H0,rfl,S,htab,hd,hby,hsl,kerr,kok⟩:=h
  have hr14:Room 14 _:=hr
  have hr2:Room 2 _:=hr.mono (by decide)
  refine ⟨_,pss_cons (ps_if (pt_cmpR op_gt (pe_callB call_len_seq (by rfl) T.len PySem.boot_len (pa_cons (pv 1) pa_nil)) (pe_const hbytes rfl) (nomark _)) (pss_one (ps_ret (pe_lst (pa_cons (pe_un un_neg pe_int) pa_nil)))) pss_nil)
   (pss_cons (ps_try (C:=C) (E:=fun _ _ H'=>(∃fl,readNt s=.error fl)/\Same H H') ⟨_,_,_,rfl,rfl,rfl⟩ rfl T.mgF T.xc.em
    (fun pn xe po hX=>pss_one (ps_set (i:=2) scBegin.nd rfl (Or.inr rfl) (pe_make MN (FnOk.frame NI) hr14 rfl mgN bN .nil (passX hX) (pa_cons (pv 1) pa_nil))))
    (fun a pn=>pss_one (ps_ret (pe_lst (pa_cons (pe_un un_neg pe_int) pa_nil)))))
   (pss_cons (ps_fld (pv 0) (pv 2) rfl)
   (pss_cons (ps_fld (pv 0) (pe_lc rfl scBegin.nd (pi_list (pe_fld (pv 2) rfl)) (blkOk_by (own:=[("layer",3)]) (by kernel_rfl)) (fun _ _ _ _ _=>pg_name (i:=3) scBegin.nd rfl (Or.inl rfl)) (fun _ _ _ _ _=>pts_nil)
    (fun _ _ _ _ _=>pe_make MK KI hr2 rfl mgK bK .nil pass0 (pa_cons (pe_fldK (K:=K) rfl (pv 2) rfl) pa_nil))) rfl)
   (pss_cons (ps_fld (pv 0) (pe_lst pa_nil) rfl)
   (pss_one (ps_ret (pe_lst (pa_cons pe_int pa_nil)))))))),?_⟩
  have hlen:(s.map V.int).length=s.length:=List.length_map _
  have hsz:200000<=sizeLine:=by decide
  refine ⟨_,rfl,d,_,rfl,.inl (SqL.of hd),_,_,rfl,rfl,_,rfl,?_⟩
  rw [hlen]
  refine ite2 (fun hc=>?_) (fun hc=>?_)
  ·have hc:=of_decide_eq_true hc
   omega
  obtain ⟨dx,fs,nv,kl,lv,hs,hf,hst⟩:=S.ob
  refine ⟨⟨_,rfl,fun x dxx nx ndx nex=>⟨[x,d],x,d,dxx,s,rfl,?_,?_,?_⟩⟩,?_⟩
  ·exact cut_in (by rw [inS_ins upd_same];simp) upd_same
  ·have hxd:d≠x:=ne_of_none hd nx
   have hdd:d≠dxx:=ne_of_none hd ndx
   have e:(upd (upd H dxx (.own x)) x (.ins CN dxx [])) d=some (.lst (s.map V.int)):=by rw [upd_ne hxd,upd_ne hdd];exact hd
   exact ⟨SqL.of (cut_in (by rw [inS_lst e];simp) e),hby,hsl⟩
  ·have hX:∀b o,H b=some o->(upd (upd H dxx (.own x)) x (.ins CN dxx [])) b=some o:=fun b o e=>by rw [upd_ne (ne_of_none e nx),upd_ne (ne_of_none e ndx)];exact e
   have sm:∀H1,OffX x (cutF [x,d] (upd (upd H dxx (.own x)) x (.ins CN dxx []))) H1->Apart [x,d] (upd (upd H dxx (.own x)) x (.ins CN dxx [])) H1->Same H (joinF [x,d] (upd (upd H dxx (.own x)) x (.ins CN dxx [])) H1):=fun H1 o ap b ob e=>by
    cases hi:inS [x,d] (upd (upd H dxx (.own x)) x (.ins CN dxx [])) b with
    | true=>exact join_in (o b ob (ne_of_none e nx) (cut_in hi (hX _ _ e)))
    | false=>rw [join_out (ap b ob (hX _ _ e) hi) hi];exact hX _ _ e
   have run:=(GM.whole_run Ql89.readNet (Ql89Neutral.octets s) (fun e=>readNt s=e)).mp rfl
   refine GM.run_mono (GM.net_layers run) (fun n q h=>?_) fun pl kd h dx' H1 o _ ap=>⟨⟨_,h⟩,sm H1 o ap⟩
   obtain ⟨h8,h⟩:=h
   rw [GM.octets_length] at h
   by_cases hq:q < s.length
   ·rw [if_pos hq] at h |-
    exact fun dx' H1 o _ ap=>⟨⟨_,h⟩,sm H1 o ap⟩
   ·rw [if_neg hq] at h |-
    intro H1 o hN nok ap
    have s02:=sm H1 o ap
    have s12:Same H1 (joinF [x,d] (upd (upd H dxx (.own x)) x (.ins CN dxx [])) H1):=fun b ob e=>join_in e
    have apL:∀b l,b≠d->H b=some (.lst l)->H1 b=none:=fun b l hb e=>ap b _ (hX _ _ e) (by rw [inS_lst (hX _ _ e)];simp [hb,ne_of_none e nx])
    have apI:∀b C dx fs,H b=some (.ins C dx fs)->H1 b=none:=fun b C dx fs e=>ap b _ (hX _ _ e) (by rw [inS_ins (hX _ _ e)];simp [ne_of e hd (fun z=>by cases z),ne_of_none e nx])
    have apT:H1 tP=none:=by
     obtain ⟨ps,e⟩:=htab.some
     refine ap tP _ (hX _ _ e) ?_
     unfold inS
     rw [hX _ _ e]
     simp [ne_of e hd (fun z=>by cases z),ne_of_none e nx]
    generalize joinF [x,d] (upd (upd H dxx (.own x)) x (.ins CN dxx [])) H1=H2 at s02 s12 |-
    refine ⟨rfl,?_⟩
    have kk:=kok n h
    have hs2:=s02 _ _ hs
    have sa1:H1 sa=none:=apI _ _ _ _ hs
    obtain ⟨dn,fn,hn1,nf⟩:=hN
    have hN:NetAt CN CL H1 n x:=⟨dn,fn,hn1,nf⟩
    have xsa:x≠sa:=fun z=>by rw [z,sa1] at hn1;cases hn1
    obtain ⟨la,las,l1,l2,l3⟩:=nf.lay
    have hlasl:n.layers.length=las.length:=Paired.length l3
    refine ⟨_,rfl,_,rfl,sa,CS,dx,fs,rfl,hs2,TS.cl,TS.no "net" (by decide +kernel),by have:=hf.len;omega,?_⟩
    have hf3:=hf.put (V.ref x)
    have b23:∀b ob,b≠sa->H2 b=some ob->(upd H2 sa (.ins CS dx (putF "net" (V.ref x) fs))) b=some ob:=fun b ob hb e=>by rw [upd_ne hb];exact e
    have hs3:(upd H2 sa (.ins CS dx (putF "net" (V.ref x) fs))) sa=some (.ins CS dx (putF "net" (V.ref x) fs)):=upd_same
    generalize (upd H2 sa (.ins CS dx (putF "net" (V.ref x) fs)))=H3 at b23 hs3 |-
    have s13:Same H1 H3:=fun b ob e=>b23 b ob (fun z=>by rw [z,sa1] at e;cases e) (s12 _ _ e)
    have hla:la≠sa:=fun z=>by rw [z,sa1] at l2;cases l2
    obtain ⟨hw1,hw2⟩:=nok.width
    have fr3:∀b,H3 b=none->H b=none:=fun b e=>by
     cases q:H b with
     | none=>rfl
     | some ob=>
      by_cases hb:b=sa
      ·rw [hb,hs3] at e;cases e
      ·rw [b23 _ _ hb (s02 _ _ q)] at e;cases e
    refine ⟨_,rfl,x,CN,dn,fn,_,rfl,s13 _ _ hn1,TN.cl,TN.no "layers" (by decide +kernel),l1,la,rfl,⟨_,SqL.of (s13 _ _ l2)⟩,fun D hD=>?_⟩
    refine lc_list (xs:=las.map V.ref) (fun i H'=>∃kas cs,LaidK CK H3 H' D n.width i kas cs) ⟨[],[],rfl,Same.new hD,upd_same,⟨rfl,rfl,fun i _ _ _ q=>by simp at q,by simp [allC]⟩,fun _ z=>by simp at z,List.nodup_nil,fun _ z=>by simp [allC] at z⟩ (fun i H' _ ⟨_,_,p⟩=>SqL.of (p.sm _ _ (s13 _ _ l2))) ?_ ?_
    ·rintro i y H' hy ⟨kas,cs,p⟩
     have hi:i < las.length:=by have:=(List.getElem?_eq_some_iff.mp hy).1;rw [List.length_map] at this;exact this
     refine ⟨rfl,_,rfl,x,CN,dn,fn,_,rfl,p.sm _ _ (s13 _ _ hn1),TN.cl,TN.no "width" (by decide +kernel),nf.width,fun xk dk nxk ndk nek=>⟨xk,dk,n.width,rfl,upd_same,⟨by omega,by omega⟩,fun H'' ks vs' kp hK hfr=>⟨rfl,?_⟩⟩⟩
     obtain ⟨e1,e2⟩:=p.more (by omega) hD nxk ndk nek kp hK hfr
     exact ⟨_,e1,by rw [List.length_map,p.len];omega,_,_,e2⟩
    ·rintro H4 ⟨kas,cs,p⟩
     rw [List.length_map,<-hlasl] at p
     have hs4:=p.sm _ _ hs3
     have hf5:=hf3.kept D
     have saD:sa≠D:=ne_of_none hs3 hD
     refine ⟨_,rfl,sa,CS,dx,_,rfl,hs4,TS.cl,TS.no "kept_layers" (by decide +kernel),by have:=hf3.len;omega,?_⟩
     refine ⟨by show 0<=sizeLine;exact Nat.zero_le _,fun lv' hlv'=>?_⟩
     have lvs:lv'≠sa:=fun z=>by rw [z,upd_same] at hlv';cases hlv'
     have hlv4:H4 lv'=none:=by rw [upd_ne lvs] at hlv';exact hlv'
     refine ⟨_,rfl,sa,CS,dx,_,rfl,by rw [upd_ne lvs.symm];exact upd_same,TS.cl,TS.no "levels" (by decide +kernel),by have:=hf5.len;omega,?_⟩
     have hf6:=hf5.levels lv'
     refine ⟨by show 1<=sizeLine;decide,fun D2 hD2=>?_⟩
     have b46:∀b ob,b≠sa->H4 b=some ob->(upd (upd (upd H4 sa (.ins CS dx (putF "kept_layers" (V.ref D) (putF "net" (V.ref x) fs)))) lv' (.lst [])) sa (.ins CS dx (putF "levels" (V.ref lv') (putF "kept_layers" (V.ref D) (putF "net" (V.ref x) fs))))) b=some ob:=fun b ob hb e=>by
      rw [upd_ne hb,upd_ne (ne_of_none e hlv4),upd_ne hb]
      exact e
     have hs6:(upd (upd (upd H4 sa (.ins CS dx (putF "kept_layers" (V.ref D) (putF "net" (V.ref x) fs)))) lv' (.lst [])) sa (.ins CS dx (putF "levels" (V.ref lv') (putF "kept_layers" (V.ref D) (putF "net" (V.ref x) fs))))) sa=some (.ins CS dx (putF "levels" (V.ref lv') (putF "kept_layers" (V.ref D) (putF "net" (V.ref x) fs)))):=upd_same
     have hl6:(upd (upd (upd H4 sa (.ins CS dx (putF "kept_layers" (V.ref D) (putF "net" (V.ref x) fs)))) lv' (.lst [])) sa (.ins CS dx (putF "levels" (V.ref lv') (putF "kept_layers" (V.ref D) (putF "net" (V.ref x) fs))))) lv'=some (.lst []):=by rw [upd_ne lvs,upd_same]
     generalize (upd (upd (upd H4 sa (.ins CS dx (putF "kept_layers" (V.ref D) (putF "net" (V.ref x) fs)))) lv' (.lst [])) sa (.ins CS dx (putF "levels" (V.ref lv') (putF "kept_layers" (V.ref D) (putF "net" (V.ref x) fs)))))=H6 at hD2 b46 hs6 hl6 |-
     have s67:Same H6 (upd H6 D2 (.lst [V.int 0])):=Same.new hD2
     have fr4:∀b,H4 b=none->H b=none:=fun b e=>fr3 b (p.sm.free e)
     have fr6:∀b,H6 b=none->H b=none:=fun b e=>by
      refine fr4 b ?_
      cases q:H4 b with
      | none=>rfl
      | some ob=>
       by_cases hb:b=sa
       ·rw [hb,hs6] at e;cases e
       ·rw [b46 _ _ hb q] at e;cases e
     have sak:sa∉kas:=fun z=>by have:=(p.new sa z).1;rw [hs3] at this;cases this
     have sac:sa∉allC cs:=fun z=>by have:=(p.cnew sa z).1;rw [hs3] at this;cases this
     have hK6:KeptAll CK H6 kas n.width (List.replicate n.layers.length []) cs:=KeptAll.but (b:=sa) p.kept b46 sak sac fun c _=>⟨(by rw [hs4];intro z;cases z),(by rw [hs4];intro z;cases z)⟩
     have hD4:H4 D=some (.lst (kas.map V.ref)):=p.at_
     have hD10:H1 D=none:=s13.free hD
     have tPs:tP≠sa:=fun z=>by
      obtain ⟨ps,q⟩:=htab.some
      rw [z,hs] at q;cases q
     have tPD:tP≠D:=fun z=>by
      obtain ⟨ps,q⟩:=htab.some
      have:=b23 _ _ tPs (s02 _ _ q)
      rw [z,hD] at this;cases this
     have key6:∀a∈sa :: lv' :: (kas ++ allC cs),(∃l,H6 a=some (.lst l))\/∃C dx fs,H6 a=some (.ins C dx fs):=fun a ha=>by
      rcases List.mem_cons.mp ha with rfl | ha
      ·exact .inr ⟨_,_,_,hs6⟩
      ·rcases List.mem_cons.mp ha with rfl | ha
       ·exact .inl ⟨_,hl6⟩
       ·rcases List.mem_append.mp ha with z | z
        ·obtain ⟨_,_,q⟩:=hK6.ins a z
         exact .inr ⟨_,_,_,q⟩
        ·obtain ⟨_,q⟩:=hK6.colL a z
         exact .inl ⟨_,q⟩
     refine kk D2 _ (sa :: lv' :: (kas ++ allC cs)) (upd H1 D (.lst (kas.map V.ref))) (fr6 D2 hD2) upd_same ⟨⟨dx,_,V.ref x,D,lv',s67 _ _ hs6,hf6,x,kas,cs,[],rfl,?_⟩,List.mem_cons_self,fun a ha=>?_⟩ (fun b ob hbt hb e=>?_) (fun b hb=>?_) (fun b l' hb hbd e=>?_) (tab_keep htab fun b ob e n1 n2=>?_)
     ·refine ⟨fun b ob e=>?_,fun a ha=>?_,hN.mono (Same.new hD10),nok,upd_same,?_,fun a ha=>List.mem_cons_of_mem _ (List.mem_cons_of_mem _ (List.mem_append_left _ ha)),fun a ha=>List.mem_cons_of_mem _ (List.mem_cons_of_mem _ (List.mem_append_right _ ha)),List.mem_cons_of_mem _ List.mem_cons_self,fun z=>?_,sak,p.nd,s67 _ _ hl6,rfl,fun t a ha=>by simp at ha,Nat.zero_le _,fun v hv=>by simp at hv,by rw [upd_ne tPD];exact apT⟩
      ·by_cases hb:b=D
       ·rw [hb,upd_same] at e
        cases e
        rw [hb]
        exact s67 _ _ (b46 _ _ saD.symm hD4)
       ·rw [upd_ne hb] at e
        exact s67 _ _ (b46 _ _ (fun z=>by rw [z,sa1] at e;cases e) (p.sm _ _ (s13 _ _ e)))
      ·rcases List.mem_cons.mp ha with rfl | ha
       ·rw [upd_ne saD];exact sa1
       ·rcases List.mem_cons.mp ha with rfl | ha
        ·rw [upd_ne (ne_of_none hD4 hlv4).symm]
         exact s13.free (p.sm.free hlv4)
        ·rcases List.mem_append.mp ha with z | z
         ·rw [upd_ne (p.new a z).2];exact s13.free (p.new a z).1
         ·rw [upd_ne (p.cnew a z).2];exact s13.free (p.cnew a z).1
      ·have e0:(Ql89.fed n []).kept=List.replicate n.layers.length []:=by
        rw [fed_nil]
        unfold Ql89.begun
        show n.layers.map (fun _=>([]:List Ql89.Pair))=_
        rw [List.map_const']
       show KeptAll CK _ kas n.width (Ql89.fed n []).kept cs
       rw [e0]
       exact hK6.mono s67
      ·obtain ⟨_,q⟩:=p.kept.colL lv' z
       rw [hlv4] at q;cases q
     ·rcases key6 a ha with ⟨_,q⟩ | ⟨_,_,_,q⟩
      ·exact .inl ⟨_,s67 _ _ q⟩
      ·exact .inr ⟨_,_,_,s67 _ _ q⟩
     ·have hbs:b≠sa:=fun z=>hb (by rw [z];exact S.sM)
      exact s67 _ _ (b46 _ _ hbs (p.sm _ _ (b23 _ _ hbs (s02 _ _ e))))
     ·rcases List.mem_cons.mp hb with rfl | hb
      ·exact .inl S.sM
      ·right
       rcases List.mem_cons.mp hb with rfl | hb
       ·exact fr4 _ hlv4
       ·rcases List.mem_append.mp hb with z | z
        ·exact fr3 _ (p.new b z).1
        ·exact fr3 _ (p.cnew b z).1
     ·rw [upd_ne fun z=>by rw [z,fr3 D hD] at e;cases e]
      exact apL b l' hbd e
     ·have hbs:b≠sa:=fun z=>by rw [z,hs] at e;exact n2 _ _ _ (Option.some.inj e).symm
      exact s67 _ _ (b46 _ _ hbs (p.sm _ _ (b23 _ _ hbs (s02 _ _ e))))
  ·rintro dx' H' σ' hσ ⟨he,sm⟩
   refine ⟨_,rfl,by show 1<=sizeLine;decide,fun L' hL'=>?_⟩
   exact kerr he L' _ M H0 (sm.free hL') upd_same (S.mono (sm.updN (sm.free hL'))) (Eff.of (sm.updN (sm.free hL'))) (htab.mono (sm.updN (sm.free hL')))
end
end Go
namespace Go
open PySem L2
theorem SesAt.write {CS CN CL CK tP:Addr} {H:Hp} {sa b:Addr} {st:Ql89.Abs} {M:List Addr} {H0:Hp} {is:List Int} {o:HO} (h:SesAt CS CN CL CK tP H sa st M H0) (hb:b∉M) (h0:H0 b=none) (e:H b=some (.lst (is.map V.int))):SesAt CS CN CL CK tP (upd H b o) sa st M H0:=by
 obtain ⟨⟨dx,fs,nv,kl,lv,h1,h2,h3⟩,h4,h5⟩:=h
 have nb:∀a∈M,a≠b:=fun a ha z=>hb (by rw [<-z];exact ha)
 refine ⟨⟨dx,fs,nv,kl,lv,by rw [upd_ne (nb sa h4)];exact h1,h2,?_⟩,h4,fun a ha=>?_⟩
 ·cases st with
  | none=>exact h3
  | some x=>
   obtain ⟨na,kas,cs,las,ev,L⟩:=h3
   exact ⟨na,kas,cs,las,ev,fun c u q=>by rw [upd_ne fun z=>by rw [z,h0] at q;cases q];exact L.sm _ _ q,L.own,L.net,L.ok,L.kl,
    KeptAll.but (b:=b) L.kept (fun c u hc q=>by rw [upd_ne hc];exact q) (fun z=>hb (L.kM b z)) (fun z=>hb (L.cM b z)) (fun c hc=>by rw [e];exact L.notC (b:=b) (.inl ⟨is,rfl⟩) c hc),L.kM,L.cM,L.lM,L.lc,L.sk,L.knd,by rw [upd_ne (nb lv L.lM)];exact L.lev,L.ll,L.las,L.len,L.wd,L.tp⟩
 ·rw [upd_ne (nb a ha)]
  exact h5 a ha
theorem SesAt.free {CS CN CL CK tP:Addr} {H:Hp} {sa b:Addr} {st:Ql89.Abs} {M:List Addr} {H0:Hp} (h:SesAt CS CN CL CK tP H sa st M H0) (e:H b=none):b∉M:=fun z=>by
 rcases h.ty b z with ⟨_,q⟩ | ⟨_,_,_,q⟩
 ·rw [e] at q;cases q
 ·rw [e] at q;cases q
section
variable {P:Program} {w:World} {K:PySem.W.Frag} {mg:Str->Option Value} {base:Heap} {CS CN CL CK tP:Addr}
def spGo (CS CN CL CK tP:Addr):Sp:=fun vs H Q _=>∃(sa:Addr) (most:Int) (seed:Nat) (x:Ql89.Abs_) (M:List Addr) (H0:Hp),vs=[.ref sa,.int most,.int seed]/\SesAt CS CN CL CK tP H sa (some x) M H0/\Tab H tP/\seed < 2 ^ 64/\
 (most < 1->Out CS CN CL CK tP H sa M H0 [-1] (some x) Q)/\(1<=most->x.fed=[]->Out CS CN CL CK tP H sa M H0 [-5] (some x) Q)/\(1<=most->x.fed≠[]->Out CS CN CL CK tP H sa M H0 [((Ql89.next x.net most.toNat seed x.fed:Nat):Int)] (some x) Q)
theorem scGo:FnScope ["self","most","seed"] ["self","most","seed"] (defScope sGoOn):=⟨rfl,rfl,rfl,by decide +kernel,rfl,by decide +kernel,by decide +kernel⟩
theorem ok_Go {f fS fC:Addr} {fd fdS fdC:FuncData} (F:Fun K "go_on" "Session.go_on" sGoOn f fd) (T:Attrs K CS sesA) (Sc:MFn P w K mg base CX0 3 CS "scores" fS fdS ["self"] (spSsc CS CN CL CK tP)) (Ch:GFn P w K mg base CX0 2 "choose" fC fdC ["net","scores","most","seed"] (spCh CN CL tP)):FnOk P w K mg base CX0 4 f fd ["self","most","seed"] (spGo CS CN CL CK tP):=by
 refine F.ok scGo (fun vs H Q E h=>?_) (fun cdv A outer s H vs Q E hr h=>?_)
 ·obtain ⟨sa,most,seed,x,M,H0,rfl,_⟩:=h
  rfl
 ·obtain ⟨sa,most,seed,x,M,H0,rfl,S,htab,hsd,k1,k2,k3⟩:=h
  have hr2:Room 2 _:=hr.mono (by decide)
  refine ⟨_,pss_cons (ps_if (pt_cmpR op_lt (pv 1) pe_int (nomark _)) (pss_one (ps_ret (pe_lst (pa_cons (pe_un un_neg pe_int) pa_nil)))) pss_nil)
   (pss_cons (ps_if (pt_not (pt_truth (pe_fld (pv 0) rfl) (fun _=>rfl))) (pss_one (ps_ret (pe_lst (pa_cons (pe_un un_neg pe_int) pa_nil)))) pss_nil)
   (pss_one (ps_ret (pe_lst (pa_cons (pe_call Ch.ok hr2 rfl Ch.glo Ch.kp Ch.b .nil pass0 (pa_cons (pe_fld (pv 0) rfl) (pa_cons (pe_meth0 (pv 0) T.cl Sc.m Sc.ok hr Sc.b .nil pass0) (pa_cons (pv 1) (pa_cons (pv 2) pa_nil))))) pa_nil))))),?_⟩
  refine ⟨_,rfl,_,_,rfl,rfl,_,rfl,?_⟩
  refine ite2 (fun hc=>?_) (fun hc=>?_)
  ·have hc:=of_decide_eq_true hc
   exact ⟨_,rfl,by show 1<=sizeLine;decide,fun L' hL'=>(k1 hc).one S htab L' hL'⟩
  have hc:¬most < 1:=fun z=>hc (decide_eq_true z)
  obtain ⟨dx,fs,nv,kl,lv,hs,hf,na,kas,cs,las,rfl,L⟩:=S.ob
  have hll:=L.ll
  refine ⟨_,rfl,sa,CS,dx,fs,_,rfl,hs,T.cl,T.no "levels" (by decide +kernel),hf.lev,_,.inl ⟨_,SqL.of L.lev,rfl⟩,?_⟩
  by_cases he:x.fed=[]
  ·have:las=[]:=List.eq_nil_of_length_eq_zero (by rw [hll,he];rfl)
   subst this
   refine iteT ?_
   exact ⟨_,rfl,by show 1<=sizeLine;decide,fun L' hL'=>(k2 (by omega) he).one S htab L' hL'⟩
  ·have hne:(!(las.map V.ref).isEmpty)=true:=by
    cases las with
    | nil=>exact absurd (List.eq_nil_of_length_eq_zero (by rw [<-hll];rfl)) he
    | cons a r=>rfl
   rw [hne]
   refine iteF ?_
   have kk:=k3 (by omega) he
   obtain ⟨m,rfl⟩:∃m:Nat,most=(m:Int):=⟨most.toNat,by omega⟩
   rw [Int.toNat_natCast] at kk
   refine ⟨_,rfl,sa,CS,dx,fs,_,rfl,hs,T.cl,T.no "net" (by decide +kernel),hf.net,_,rfl,sa,dx,fs,rfl,hs,hf.no "scores" (by decide +kernel),sa,x,M,H0,rfl,S,he,fun D H1 hD s1 hD1=>?_⟩
   have t1:=htab.mono s1
   refine ⟨_,rfl,_,rfl,na,D,x.net,Ql89.scores x.net x.fed,m,seed,rfl,(L.net.mono L.sm).mono s1,L.ok,hD1,scores_len _ _,by omega,hsd,t1,fun H2 b2 t2 _=>?_⟩
   refine ⟨by show 1<=sizeLine;decide,fun L' hL'=>?_⟩
   have S2:=(S.mono s1).tabs t1 b2
   have s3:Same H2 (upd H2 L' (.lst [V.int (Ql89.draw (Ql89.chances x.net.falling x.net.c m (Ql89.scores x.net x.fed)) seed:Nat)])):=Same.new hL'
   refine kk L' _ M H0 (s1.free (L2.But.free b2 t2 hL')) upd_same (S2.mono s3) ⟨fun b o hb _ e=>s3 _ _ (b2 _ _ hb (s1 _ _ e)),fun b hb=>.inl hb,fun b l _ _ e=>e⟩ (t2.mono s3)
def spWrite (CS CN CL CK tP:Addr):Sp:=fun vs H Q _=>∃(sa:Addr) (most k:Int) (seed:Nat) (x:Ql89.Abs_) (M:List Addr) (H0:Hp),vs=[.ref sa,.int most,.int seed,.int k]/\SesAt CS CN CL CK tP H sa (some x) M H0/\Tab H tP/\seed < 2 ^ 64/\
 (most < 1\/k < 0\/256 < k->Out CS CN CL CK tP H sa M H0 [-1] (some x) Q)/\(1<=most->0<=k->k<=256->x.fed=[]->Out CS CN CL CK tP H sa M H0 [-5] (some x) Q)/\
 (1<=most->0<=k->k<=256->x.fed≠[]->Out CS CN CL CK tP H sa M H0 (((Ql89.goes x.net most.toNat k.toNat seed x.fed).length:Int) :: (Ql89.goes x.net most.toNat k.toNat seed x.fed).map fun (v:Nat)=>(v:Int)) (some ⟨x.net,x.fed ++ Ql89.goes x.net most.toNat k.toNat seed x.fed⟩) Q)
theorem scWrite:FnScope ["self","most","seed","k","written","word"] ["self","most","seed","k"] (defScope sWrite):=⟨rfl,rfl,rfl,by decide +kernel,rfl,by decide +kernel,by decide +kernel⟩
def muW (wr:Addr) (k:Nat) (_:L2.St) (H:Hp):Nat:=match H wr with
 | some (.lst xs)=>k - xs.length
 | _=>0
theorem ok_Write {f fS fC fT:Addr} {fd fdS fdC fdT:FuncData} (F:Fun K "write" "Session.write" sWrite f fd) (T:Attrs K CS sesA) (TN:Attrs K CN netA) (hlen:mg "len" = none) (hmost:∃t,mg "MOST_AT_ONCE" = some (.int 256 t))
  (hfac:∃t,mg "SEED_FACTOR" = some (.int 6364136223846793005 t)) (hstep:∃t,mg "SEED_STEP" = some (.int 1442695040888963407 t)) (hcnt:∃t,mg "SEED_COUNT" = some (.int 18446744073709551616 t))
  (Sc:MFn P w K mg base CX0 3 CS "scores" fS fdS ["self"] (spSsc CS CN CL CK tP)) (Ch:GFn P w K mg base CX0 2 "choose" fC fdC ["net","scores","most","seed"] (spCh CN CL tP)) (Ta:MFn P w K mg base CX0 6 CS "take" fT fdT ["self","word"] (spTake CS CN CL CK tP)) :
  FnOk P w K mg base CX0 7 f fd ["self","most","seed","k"] (spWrite CS CN CL CK tP):=by
 refine F.ok scWrite (fun vs H Q E h=>?_) (fun cdv A outer s H vs Q E hr h=>?_)
 ·obtain ⟨sa,most,k,seed,x,M,H0,rfl,_⟩:=h
  rfl
 ·obtain ⟨sa,most,k0,seed,⟨n,l⟩,M,H0,rfl,S,htab,hsd,k1,k2,k3⟩:=h
  have hr2:Room 2 _:=hr.mono (by decide)
  have hr3:Room 3 _:=hr.mono (by decide)
  refine ⟨_,pss_cons (ps_if (PW.pt (pw_or (pt_cmpR op_lt (pv 1) pe_int (nomark _)) (pw_or (pt_cmpR op_lt (pv 3) pe_int (nomark _)) (pw_or1 (pt_cmpR op_gt (pv 3) (pe_const hmost rfl) (nomark _)))))) (pss_one (ps_ret (pe_lst (pa_cons (pe_un un_neg pe_int) pa_nil)))) pss_nil)
   (pss_cons (ps_if (pt_not (pt_truth (pe_fld (pv 0) rfl) (fun _=>rfl))) (pss_one (ps_ret (pe_lst (pa_cons (pe_un un_neg pe_int) pa_nil)))) pss_nil)
   (pss_cons (ps_set (i:=4) scWrite.nd rfl (Or.inl rfl) (pe_lst pa_nil))
   (pss_cons (ps_while PassesOwn.never (PW.pt (pw_and (pt_cmpR op_lt (pe_callB call_len_seq (by rfl) hlen PySem.boot_len (pa_cons (pv 4) pa_nil)) (pv 3) (nomark _)) (pw_and1 (pt_cmpR op_lt (pe_callB call_len_seq (by rfl) hlen PySem.boot_len (pa_cons (pe_fld (pv 0) rfl) pa_nil)) (pe_fld (pe_fld (pv 0) rfl) rfl) (nomark _)))))
    (pss_cons (ps_set (i:=5) scWrite.nd rfl (Or.inl rfl) (pe_call Ch.ok hr2 rfl Ch.glo Ch.kp Ch.b .nil pass0 (pa_cons (pe_fld (pv 0) rfl) (pa_cons (pe_meth0 (pv 0) T.cl Sc.m Sc.ok hr3 Sc.b .nil pass0) (pa_cons (pv 1) (pa_cons (pv 2) pa_nil))))))
    (pss_cons (ps_expr (pe_bm PySem.F.plainAttrs_list PySem.F.slot_list_append PySem.F.type_list_append mt_append (pv 4) (pa_cons (pv 5) pa_nil)))
    (pss_cons (ps_expr (pe_meth (pv 0) T.cl Ta.m Ta.ok hr Ta.b .nil pass0 (pa_cons (pv 5) pa_nil)))
    (pss_cons (ps_set (i:=2) scWrite.nd rfl (Or.inl rfl) (pe_op op_mod (pe_op op_add (pe_op op_mul (pe_const hfac rfl) (pv 2)) (pe_const hstep rfl)) (pe_const hcnt rfl)))
    (pss_one (ps_if (pt_cmpR op_eq (pv 5) pe_int (nomark _)) (pss_one ps_break) pss_nil)))))))
   (pss_one (ps_ret (pe_op op_cat (pe_lst (pa_cons (pe_callB call_len_seq (by rfl) hlen PySem.boot_len (pa_cons (pv 4) pa_nil)) pa_nil)) (pv 4))))))),?_⟩
  have k1:most < 1\/k0 < 0\/256 < k0->Out CS CN CL CK tP H sa M H0 [-1] (some ⟨n,l⟩) Q:=k1
  have k2:1<=most->0<=k0->k0<=256->l=[]->Out CS CN CL CK tP H sa M H0 [-5] (some ⟨n,l⟩) Q:=k2
  have k3:1<=most->0<=k0->k0<=256->l≠[]->Out CS CN CL CK tP H sa M H0 (((Ql89.goes n most.toNat k0.toNat seed l).length:Int) :: (Ql89.goes n most.toNat k0.toNat seed l).map fun (v:Nat)=>(v:Int)) (some ⟨n,l ++ Ql89.goes n most.toNat k0.toNat seed l⟩) Q:=k3
  refine ⟨_,rfl,_,_,rfl,rfl,_,rfl,?_⟩
  refine ite2 (fun hc=>?_) (fun hc=>?_)
  ·have hc:=of_decide_eq_true hc
   refine iteT ?_
   exact ⟨_,rfl,by show 1<=sizeLine;decide,fun L' hL'=>(k1 (.inl hc)).one S htab L' hL'⟩
  have hc:¬most < 1:=fun z=>hc (decide_eq_true z)
  refine ⟨_,rfl,_,_,rfl,rfl,_,rfl,?_⟩
  refine ite2 (fun hc2=>?_) (fun hc2=>?_)
  ·have hc2:=of_decide_eq_true hc2
   refine iteT ?_
   exact ⟨_,rfl,by show 1<=sizeLine;decide,fun L' hL'=>(k1 (.inr (.inl hc2))).one S htab L' hL'⟩
  have hc2:¬k0 < 0:=fun z=>hc2 (decide_eq_true z)
  refine ⟨_,rfl,_,_,rfl,rfl,_,rfl,?_⟩
  refine ite2 (fun hc3=>?_) (fun hc3=>?_)
  ·have hc3:=of_decide_eq_true hc3
   exact ⟨_,rfl,by show 1<=sizeLine;decide,fun L' hL'=>(k1 (.inr (.inr hc3))).one S htab L' hL'⟩
  have hc3:¬256 < k0:=fun z=>hc3 (decide_eq_true z)
  obtain ⟨dx,fs,nv,kl,lv,hs,hf,na,kas,cs,las,rfl,L⟩:=S.ob
  have L:LiveP CN CL CK tP H n l sa na kl lv M H0 kas cs las:=L
  have hll:las.length=l.length:=L.ll
  refine ⟨_,rfl,sa,CS,dx,fs,_,rfl,hs,T.cl,T.no "levels" (by decide +kernel),hf.lev,_,.inl ⟨_,SqL.of L.lev,rfl⟩,?_⟩
  by_cases he:l=[]
  ·have:las=[]:=List.eq_nil_of_length_eq_zero (by rw [hll,he];rfl)
   subst this
   refine iteT ?_
   exact ⟨_,rfl,by show 1<=sizeLine;decide,fun L' hL'=>(k2 (by omega) (by omega) (by omega) he).one S htab L' hL'⟩
  have hne:(!(las.map V.ref).isEmpty)=true:=by
   cases las with
   | nil=>exact absurd (List.eq_nil_of_length_eq_zero (by rw [<-hll];rfl)) he
   | cons a r=>rfl
  rw [hne]
  refine iteF ?_
  have kk:=k3 (by omega) (by omega) (by omega) he
  obtain ⟨m,rfl⟩:∃m:Nat,most=(m:Int):=⟨most.toNat,by omega⟩
  obtain ⟨kn,rfl⟩:∃kn:Nat,k0=(kn:Int):=⟨k0.toNat,by omega⟩
  rw [Int.toNat_natCast,Int.toNat_natCast] at kk
  have hsz:5000<=sizeLine:=by decide
  refine ⟨by show 0<=sizeLine;exact Nat.zero_le _,fun wr hwr=>?_⟩
  have swr:Same H (upd H wr (.lst [])):=Same.new hwr
  have wrM:wr∉M:=S.free hwr
  have wr0:H0 wr=none:=L.sm.free hwr
  have hpl:=L.ok.places
  -- what is known in the loop
  have fin:∀{H':Hp} {H0':Hp} {wl:List Nat},SesAt CS CN CL CK tP H' sa (some ⟨n,l ++ wl⟩) M H0'->(∀b o,b≠tP->b∉M->H b=some o->H' b=some o)->(∀b l',b∉M->H b=some (.lst l')->H0 b=none->H0' b=none)->Tab H' tP->H' wr=some (.lst (natI wl))->wl.length<=256->Ql89.goes n m kn seed l=wl->
    ∀L1,H' L1=none->∀D,(upd H' L1 (.lst [V.int ((natI wl).length:Nat)])) D=none->Q (.ref D) (upd (upd H' L1 (.lst [V.int ((natI wl).length:Nat)])) D (.lst ([V.int ((natI wl).length:Nat)] ++ natI wl))):=by
   intro H' H0' wl S' ek eh t' hw hwl hg L1 hL1 D hD
   have s1:Same H' (upd H' L1 (.lst [V.int ((natI wl).length:Nat)])):=Same.new hL1
   have s2:Same H' (upd (upd H' L1 (.lst [V.int ((natI wl).length:Nat)])) D (.lst ([V.int ((natI wl).length:Nat)] ++ natI wl))):=s1.updN (s1.free hD)
   rw [hg] at kk
   refine kk D _ M H0' ?_ ?_ (S'.mono s2) ⟨fun b o hb hM e=>s2 _ _ (ek b o hb hM e),fun b hb=>.inl hb,eh⟩ (t'.mono s2)
   ·have hD':=s1.free hD
    cases q:H D with
    | none=>rfl
    | some o=>
     by_cases hM:D∈M
     ·exact absurd hM (S'.free hD')
     ·by_cases hp:D=tP
      ·obtain ⟨ps,z⟩:=t'.some
       rw [hp,z] at hD';cases hD'
      ·rw [ek _ _ hp hM q] at hD';cases hD'
   ·rw [upd_same]
    unfold natI
    rw [List.length_map,List.map_cons,List.map_map]
    rfl
  dsimp only [gName,tSeq]
  refine while_by (fun σ H'=>∃(v5:Option V) (sd:Nat) (wl:List Nat) (H0':Hp),σ=[some (.ref sa),some (.int m),some (.int sd),some (.int kn),some (.ref wr),v5]/\SesAt CS CN CL CK tP H' sa (some ⟨n,l ++ wl⟩) M H0'/\(∀b o,b≠tP->b∉M->H b=some o->H' b=some o)/\(∀b l',b∉M->H b=some (.lst l')->H0 b=none->H0' b=none)/\Tab H' tP/\H' wr=some (.lst (natI wl))/\H0' wr=none/\wl.length<=kn/\sd < 2 ^ 64/\
   Ql89.goes n m kn seed l=wl ++ Ql89.goes n m (kn - wl.length) sd (l ++ wl)) (muW wr kn) ?_ ?_ ?_
  ·refine ⟨none,seed,[],H0,rfl,by rw [List.append_nil];exact S.mono swr,fun b o _ _ e=>swr _ _ e,fun b l' _ _ e=>e,htab.mono swr,upd_same,wr0,Nat.zero_le _,hsd,?_⟩
   rw [List.nil_append,List.append_nil,List.length_nil,Nat.sub_zero]
  ·rintro σ H' ⟨v5,sd,wl,H0',rfl,S',ek,eh,t',hw,hw0,hwk,hsd',hg⟩
   have hwn:(natI wl).length=wl.length:=by unfold natI;rw [List.length_map]
   obtain ⟨dx',fs',nv',kl',lv',hs',hf',na',kas',cs',las',rfl,L'⟩:=S'.ob
   have L':LiveP CN CL CK tP H' n (l ++ wl) sa na' kl' lv' M H0' kas' cs' las':=L'
   have hll':las'.length=(l ++ wl).length:=L'.ll
   obtain ⟨dn,fn,hn1,nf⟩:=L'.net.mono L'.sm
   refine ⟨_,rfl,wr,_,rfl,.inl (SqL.of hw),_,rfl,_,_,rfl,rfl,_,rfl,?_⟩
   rw [hwn]
   refine ite2 (fun c1=>?_) (fun c1=>?_)
   ·have c1:=of_decide_eq_true c1
    have c1:wl.length < kn:=by omega
    refine ⟨_,rfl,sa,CS,dx',fs',_,rfl,hs',T.cl,T.no "levels" (by decide +kernel),hf'.lev,lv',_,rfl,.inl (SqL.of L'.lev),_,rfl,sa,CS,dx',fs',_,rfl,hs',T.cl,T.no "net" (by decide +kernel),hf'.net,na',CN,dn,fn,_,rfl,hn1,TN.cl,TN.no "places" (by decide +kernel),nf.places,_,_,rfl,rfl,_,rfl,?_⟩
    rw [List.length_map,hll']
    refine ite2 (fun c2=>?_) (fun c2=>?_)
    ·have c2:=of_decide_eq_true c2
     have c2:(l ++ wl).length < n.places:=by omega
     have hne':l ++ wl≠[]:=fun z=>he (List.append_eq_nil_iff.mp z).1
     refine ⟨_,rfl,sa,CS,dx',fs',_,rfl,hs',T.cl,T.no "net" (by decide +kernel),hf'.net,_,rfl,sa,dx',fs',rfl,hs',hf'.no "scores" (by decide +kernel),sa,⟨n,l ++ wl⟩,M,H0',rfl,S',hne',fun D1 H1 hD1 s1 hD1'=>?_⟩
     have t1:=t'.mono s1
     refine ⟨_,rfl,_,rfl,na',D1,n,Ql89.scores n (l ++ wl),m,sd,rfl,(L'.net.mono L'.sm).mono s1,L'.ok,hD1',scores_len _ _,by omega,hsd',t1,fun H2 b2 t2 hvw=>?_⟩
     have S2:=(S'.mono s1).tabs t1 b2
     have hw2:H2 wr=some (.lst (natI wl)):=b2 _ _ (tab_lst t1 (s1 _ _ hw)) (s1 _ _ hw)
     have hvw:Ql89.next n m sd (l ++ wl) < n.words:=hvw
     change tSeq _ _ _ [some (V.ref sa),some (V.int m),some (V.int sd),some (V.int kn),some (V.ref wr),some (V.int ((Ql89.next n m sd (l ++ wl):Nat):Int))] H2
     have hgs:=goes_step n m (kn - wl.length - 1) sd (l ++ wl) c2
     rw [show kn - wl.length - 1 + 1=kn - wl.length by omega] at hgs
     rw [hgs] at hg
     generalize Ql89.next n m sd (l ++ wl)=v at hg hvw |-
     refine ⟨_,rfl,.inl ⟨rfl,_,SqL.of hw2⟩,_,rfl,wr,_,_,rfl,rfl,hw2,by rw [hwn];omega,?_⟩
     have ewl:natI wl ++ [V.int ((v:Nat):Int)]=natI (wl ++ [v]):=by unfold natI;rw [List.map_append];rfl
     rw [ewl]
     have S3:SesAt CS CN CL CK tP (upd H2 wr (.lst (natI (wl ++ [v])))) sa (some ⟨n,l ++ wl⟩) M H0':=S2.write (is:=wl.map fun (z:Nat)=>(z:Int)) wrM hw0 (by rw [hw2,natI_ints])
     have t3:Tab (upd H2 wr (.lst (natI (wl ++ [v])))) tP:=tab_keep t2 fun b o e n1 _=>by
      rw [upd_ne fun z=>by rw [z,hw2] at e;exact n1 _ (Option.some.inj e).symm]
      exact e
     obtain ⟨dx3,fs3,_,_,_,hs3,hf3,_⟩:=S3.ob
     refine ⟨_,rfl,sa,dx3,fs3,rfl,hs3,hf3.no "take" (by decide +kernel),_,rfl,sa,v,⟨n,l ++ wl⟩,M,H0',rfl,S3,hvw,c2,t3,fun H4 H04 S4 e4 t4=>?_⟩
     have S4:SesAt CS CN CL CK tP H4 sa (some ⟨n,l ++ (wl ++ [v])⟩) M H04:=by rw [<-List.append_assoc];exact S4
     have ek3:∀b o,b≠tP->b∉M->H b=some o->(upd H2 wr (.lst (natI (wl ++ [v])))) b=some o:=fun b o hb hM e=>by
      rw [upd_ne (ne_of_none e hwr)]
      exact b2 _ _ hb (s1 _ _ (ek b o hb hM e))
     have ek4:∀b o,b≠tP->b∉M->H b=some o->H4 b=some o:=fun b o hb hM e=>e4.k _ _ hb hM (ek3 b o hb hM e)
     have eh4:∀b l',b∉M->H b=some (.lst l')->H0 b=none->H04 b=none:=fun b l' hM e e0=>e4.h b l' hM (ek3 b _ (tab_lst htab e) hM e) (eh b l' hM e e0)
     have hw4:H4 wr=some (.lst (natI (wl ++ [v]))):=e4.k _ _ (tab_lst t3 upd_same) wrM upd_same
     have hw04:H04 wr=none:=e4.h wr _ wrM upd_same hw0
     have hl4:(wl ++ [v]).length=wl.length + 1:=by rw [List.length_append];rfl
     have hwn4:(natI (wl ++ [v])).length=wl.length + 1:=by unfold natI;rw [List.length_map,hl4]
     refine ⟨_,rfl,_,_,rfl,rfl,.inl ⟨by decide,by decide⟩,_,_,rfl,rfl,_,_,rfl,rfl,(show (0:Int) < 18446744073709551616 by decide),?_⟩
     have eon:((6364136223846793005:Int) * (sd:Int) + 1442695040888963407) % 18446744073709551616=((Ql89.onward sd:Nat):Int):=by
      unfold Ql89.onward
      rw [show (2 ^ 64:Nat)=18446744073709551616 by decide]
      omega
     have hon:Ql89.onward sd < 2 ^ 64:=by unfold Ql89.onward;exact Nat.mod_lt _ (by decide)
     refine ⟨_,rfl,rfl,_,rfl,?_⟩
     refine ite2 (fun c3=>?_) (fun c3=>?_)
     ·have c3:=of_decide_eq_true c3
      have hv0:v=0:=by injection c3 with c3;omega
      rw [if_pos hv0] at hg
      exact ⟨_,rfl,wr,_,rfl,.inl (SqL.of hw4),by show 1<=sizeLine;decide,fun L1 hL1=>⟨_,rfl,L1,wr,_,_,rfl,rfl,upd_same,(Same.new hL1) _ _ hw4,by rw [hwn4];show 1 + _<=_;omega,fun D hD=>fin S4 ek4 eh4 t4 hw4 (by omega) hg L1 hL1 D hD⟩⟩
     ·have hv0:¬v=0:=fun z=>c3 (decide_eq_true (by rw [z];rfl))
      rw [if_neg hv0] at hg
      refine ⟨⟨_,Ql89.onward sd,wl ++ [v],H04,congrArg (fun z=>([some (V.ref sa),some (V.int m),some (V.int z),some (V.int kn),some (V.ref wr),some (V.int ((v:Nat):Int))]:L2.St)) eon,S4,ek4,eh4,t4,hw4,hw04,by omega,hon,?_⟩,?_⟩
      ·rw [hg,hl4,List.append_assoc,List.append_assoc]
       show wl ++ (v :: _)=wl ++ ([v] ++ _)
       rw [show kn - (wl.length + 1)=kn - wl.length - 1 by omega]
       rfl
      ·unfold muW
       rw [hw4,hw]
       show kn - (natI (wl ++ [v])).length < kn - (natI wl).length
       omega
    ·have c2:¬(((l ++ wl).length:Nat):Int) < ((n.places:Nat):Int):=fun z=>c2 (decide_eq_true z)
     rw [goes_stop n m _ sd (l ++ wl) (by omega),List.append_nil] at hg
     exact ⟨_,rfl,wr,_,rfl,.inl (SqL.of hw),by show 1<=sizeLine;decide,fun L1 hL1=>⟨_,rfl,L1,wr,_,_,rfl,rfl,upd_same,(Same.new hL1) _ _ hw,by rw [hwn];show 1 + _<=_;omega,fun D hD=>fin S' ek eh t' hw (by omega) hg L1 hL1 D hD⟩⟩
   ·have c1:¬((wl.length:Nat):Int) < ((kn:Nat):Int):=fun z=>c1 (decide_eq_true z)
    refine iteF ?_
    have e0:kn - wl.length=0:=by omega
    rw [e0] at hg
    have hg:Ql89.goes n m kn seed l=wl:=by rw [hg];show wl ++ []=wl;rw [List.append_nil]
    exact ⟨_,rfl,wr,_,rfl,.inl (SqL.of hw),by show 1<=sizeLine;decide,fun L1 hL1=>⟨_,rfl,L1,wr,_,_,rfl,rfl,upd_same,(Same.new hL1) _ _ hw,by rw [hwn];show 1 + _<=_;omega,fun D hD=>fin S' ek eh t' hw (by omega) hg L1 hL1 D hD⟩⟩
  ·rintro σ H' Q1 Q2 h ⟨v1,e1,p,ys,e2,h2,v3,e3,i,j,a1,a2,kb,e4,q⟩
   refine ⟨v1,e1,p,ys,e2,h2,v3,e3,i,j,a1,a2,kb,e4,?_⟩
   by_cases hk:kb=true
   ·rw [if_pos hk] at q |-
    obtain ⟨u1,f1,b1,C1,dx1,fs1,w1,g1,g2,g3,g4,g5,p2,ys2,g6,g7,u2,f2,b2,C2,dx2,fs2,w2,g8,g9,g10,g11,g12,b3,C3,dx3,fs3,w3,g13,g14,g15,g16,g17,i2,j2,g18,g19,kb2,g20,q⟩:=q
    exact ⟨u1,f1,b1,C1,dx1,fs1,w1,g1,g2,g3,g4,g5,p2,ys2,g6,g7,u2,f2,b2,C2,dx2,fs2,w2,g8,g9,g10,g11,g12,b3,C3,dx3,fs3,w3,g13,g14,g15,g16,g17,i2,j2,g18,g19,kb2,g20,h _ _ q⟩
   ·rw [if_neg hk] at q |-
    exact h _ _ q
end
end Go
namespace Go
open PySem L2
theorem iteD1 {c A B:Prop} [Decidable c] (hc:c) (h:A):if decide c=true then A else B:=by rw [if_pos (decide_eq_true hc)];exact h
theorem iteD0 {c A B:Prop} [Decidable c] (hc:¬c) (h:B):if decide c=true then A else B:=by rw [if_neg fun z=>hc (of_decide_eq_true z)];exact h
theorem iteB1 {b:Bool} {A B:Prop} (hc:b=true) (h:A):if b=true then A else B:=by rw [if_pos hc];exact h
theorem iteB0 {b:Bool} {A B:Prop} (hc:b=false) (h:B):if b=true then A else B:=by rw [if_neg (by rw [hc];decide)];exact h
theorem step_begin (st:Ql89.Abs) (s:List Int) (h:s.length<=16777216):Ql89Neutral.step st [[11,(s.length:Int)],s]=match readNt s with
  | .error _=>(st,[-2])
  | .ok n=>(some ⟨n,[]⟩,[0]):=by
 have hb:Ql89.between (s.length:Int) 0 Ql89.NET=true:=by
  unfold Ql89.between Ql89.NET
  rw [Bool.and_eq_true]
  exact ⟨decide_eq_true (by omega),decide_eq_true (by omega)⟩
 have e:Ql89Neutral.step st [[11,(s.length:Int)],s]=((if Ql89.between (s.length:Int) 0 Ql89.NET=false then (Ql89.only (-1),st) else (match readNt s with
  | .error _=>(Ql89.only (-2),st)
  | .ok x=>(Ql89.only 0,some ⟨x,[]⟩))).2,(if Ql89.between (s.length:Int) 0 Ql89.NET=false then (Ql89.only (-1),st) else (match readNt s with
  | .error _=>(Ql89.only (-2),st)
  | .ok x=>(Ql89.only 0,some ⟨x,[]⟩))).1.v :: (if Ql89.between (s.length:Int) 0 Ql89.NET=false then (Ql89.only (-1),st) else (match readNt s with
  | .error _=>(Ql89.only (-2),st)
  | .ok x=>(Ql89.only 0,some ⟨x,[]⟩))).1.out):=rfl
 rw [e,hb,if_neg (by decide)]
 cases readNt s <;> rfl
theorem step_obj {x:Ql89.Abs_} {c:List (List Int)} {q:Ql89.Call} (hc:Ql89Neutral.callOf c=some q) (ho:Ql89.ofObject q=true) (hb:∀n l,q≠.begin_ n l):Ql89Neutral.step (some x) c=(some (Ql89.actOn x q).2,(Ql89.actOn x q).1.v :: (Ql89.actOn x q).1.out):=by
 have ha:Ql89.act (some x) q=some ((Ql89.actOn x q).1,some (Ql89.actOn x q).2):=by
  cases q with
  | begin_ n l=>exact absurd rfl (hb n l)
  | feed k l=>rfl
  | forget k=>rfl
  | tell=>rfl
  | next m s=>rfl
  | goes m s k=>rfl
  | _=>cases ho
 unfold Ql89Neutral.step
 rw [hc]
 show (match Ql89.act (some x) q with | some r=>(r.2,r.1.v :: r.1.out) | none=>_)=_
 rw [ha]
theorem act_none {q:Ql89.Call} (ho:Ql89.ofObject q=true):Ql89.act none q=none:=by
 cases q with
 | feed k l=>rfl
 | forget k=>rfl
 | tell=>rfl
 | next m s=>rfl
 | goes m s k=>rfl
 | _=>cases ho
theorem act_feed (x:Ql89.Abs_) (k:Nat) (l:List Nat) (hk:k=l.length):((256 < l.length->Ql89.actOn x (.feed k l)=(Ql89.only (-1),x))/\(l.length<=256->(∃v∈l,x.net.words<=v)->Ql89.actOn x (.feed k l)=(Ql89.only (-3),x))/\
  (l.length<=256->(∀v∈l,v < x.net.words)->x.net.places < x.fed.length + l.length->Ql89.actOn x (.feed k l)=(Ql89.only (-4),x))/\
  (l.length<=256->(∀v∈l,v < x.net.words)->x.fed.length + l.length<=x.net.places->Ql89.actOn x (.feed k l)=(⟨((x.fed.length + l.length:Nat):Int),[Ql89.cost x.net x.fed l]⟩,⟨x.net,x.fed ++ l⟩))):=by
 subst hk
 have hb:Ql89.between ((l.length:Nat):Int) 0 Ql89.COUNT=decide (l.length<=256):=by
  unfold Ql89.between Ql89.COUNT
  have e1:decide (((0:Nat):Int)<=((l.length:Nat):Int))=true:=decide_eq_true (by omega)
  rw [e1,Bool.true_and]
  by_cases h:l.length<=256
  ·rw [decide_eq_true h,decide_eq_true (by omega)]
  ·rw [decide_eq_false h,decide_eq_false (by omega)]
 have ef:Ql89.actOn x (.feed ((l.length:Nat):Int) l)=(if Ql89.between ((l.length:Nat):Int) 0 Ql89.COUNT=false then (Ql89.only (-1),x) else if (l.all fun (v:Nat)=>decide (v < x.net.words))=false then (Ql89.only (-3),x)
  else if x.net.places < x.fed.length + l.length then (Ql89.only (-4),x) else (⟨((x.fed.length + l.length:Nat):Int),[Ql89.cost x.net x.fed l]⟩,⟨x.net,x.fed ++ l⟩)):=rfl
 have hall:(∀v∈l,v < x.net.words)->¬((l.all fun (v:Nat)=>decide (v < x.net.words))=false):=fun h z=>by
  have:(l.all fun (v:Nat)=>decide (v < x.net.words))=true:=List.all_eq_true.mpr fun v hv=>decide_eq_true (h v hv)
  rw [this] at z;cases z
 refine ⟨fun h=>?_,fun h hv=>?_,fun h hv hp=>?_,fun h hv hp=>?_⟩
 ·rw [ef,if_pos (by rw [hb];exact decide_eq_false (by omega))]
 ·obtain ⟨v,hm,hv⟩:=hv
  rw [ef,if_neg (by rw [hb,decide_eq_true h];decide),if_pos]
  cases e:(l.all fun (v:Nat)=>decide (v < x.net.words)) with
  | false=>rfl
  | true=>have:=of_decide_eq_true (List.all_eq_true.mp e v hm);omega
 ·rw [ef,if_neg (by rw [hb,decide_eq_true h];decide),if_neg (hall hv),if_pos hp]
 ·rw [ef,if_neg (by rw [hb,decide_eq_true h];decide),if_neg (hall hv),if_neg (by omega)]
theorem act_forget (x:Ql89.Abs_) (k:Int):(¬(0<=k/\k<=x.fed.length)->Ql89.actOn x (.forget k)=(Ql89.only (-1),x))/\∀j:Nat,k=(j:Int)->j<=x.fed.length->Ql89.actOn x (.forget k)=(Ql89.only k,⟨x.net,x.fed.take j⟩):=by
 have ef:Ql89.actOn x (.forget k)=(if Ql89.between k 0 x.fed.length=false then (Ql89.only (-1),x) else (Ql89.only k,⟨x.net,x.fed.take k.toNat⟩)):=rfl
 refine ⟨fun h=>?_,fun j hj hl=>?_⟩
 ·rw [ef,if_pos]
  unfold Ql89.between
  cases e:(decide (((0:Nat):Int)<=k) && decide (k<=((x.fed.length:Nat):Int))) with
  | false=>rfl
  | true=>
   rw [Bool.and_eq_true] at e
   have:=of_decide_eq_true e.1
   have:=of_decide_eq_true e.2
   omega
 ·have hb:Ql89.between k 0 x.fed.length=true:=by
   unfold Ql89.between
   rw [Bool.and_eq_true]
   exact ⟨decide_eq_true (by omega),decide_eq_true (by omega)⟩
  rw [ef,hb,if_neg (by decide),hj,Int.toNat_natCast]
theorem act_goes (x:Ql89.Abs_) (most:Int) (seed:Nat) (k:Int):(most < 1\/k < 0\/256 < k->Ql89.actOn x (.goes most seed k)=(Ql89.only (-1),x))/\(1<=most->0<=k->k<=256->x.fed=[]->Ql89.actOn x (.goes most seed k)=(Ql89.only (-5),x))/\
  (1<=most->0<=k->k<=256->x.fed≠[]->Ql89.actOn x (.goes most seed k)=(Ql89.numbers ((Ql89.goes x.net most.toNat k.toNat seed x.fed).map fun (v:Nat)=>(v:Int)),⟨x.net,x.fed ++ Ql89.goes x.net most.toNat k.toNat seed x.fed⟩)):=by
 have ef:Ql89.actOn x (.goes most seed k)=(if most < 1\/Ql89.between k 0 Ql89.COUNT=false then (Ql89.only (-1),x) else if x.fed=[] then (Ql89.only (-5),x) else
  (Ql89.numbers ((Ql89.goes x.net most.toNat k.toNat seed x.fed).map fun (v:Nat)=>(v:Int)),⟨x.net,x.fed ++ Ql89.goes x.net most.toNat k.toNat seed x.fed⟩)):=rfl
 have hb:0<=k->k<=256->Ql89.between k 0 Ql89.COUNT=true:=fun h1 h2=>by
  unfold Ql89.between Ql89.COUNT
  rw [Bool.and_eq_true]
  exact ⟨decide_eq_true (by omega),decide_eq_true (by omega)⟩
 refine ⟨fun h=>?_,fun h1 h2 h3 h4=>?_,fun h1 h2 h3 h4=>?_⟩
 ·rw [ef,if_pos]
  rcases h with h | h
  ·exact .inl h
  ·right
   unfold Ql89.between Ql89.COUNT
   cases e:(decide (((0:Nat):Int)<=k) && decide (k<=((256:Nat):Int))) with
   | false=>rfl
   | true=>
    rw [Bool.and_eq_true] at e
    have:=of_decide_eq_true e.1
    have:=of_decide_eq_true e.2
    omega
 ·rw [ef,if_neg,if_pos h4]
  rintro (z | z)
  ·omega
  ·rw [hb h2 h3] at z;cases z
 ·rw [ef,if_neg,if_neg h4]
  rintro (z | z)
  ·omega
  ·rw [hb h2 h3] at z;cases z
theorem goes_len (n:Ql89.Net) (most:Nat):∀(k seed:Nat) (l:List Nat),(Ql89.goes n most k seed l).length<=k
 | 0,_,_=>by simp [Ql89.goes]
 | k + 1,seed,l=>by
  unfold Ql89.goes
  by_cases hp:n.places<=l.length
  ·rw [if_pos hp];simp
  ·rw [if_neg hp,List.length_cons]
   by_cases hz:Ql89.next n most seed l=0
   ·rw [if_pos hz];simp
   ·rw [if_neg hz]
    have:=goes_len n most k (Ql89.onward seed) (l ++ [Ql89.next n most seed l])
    omega
section
variable {P:Program} {w:World} {K:PySem.W.Frag} {mg:Str->Option Value} {base:Heap} {CS CN CL CK tP:Addr}
structure TxtC (K:PySem.W.Frag) (mg:Str->Option Value) (m:Addr):Prop where
 beg:∃t,mg "BEGIN" = some (.int 11 t)
 feed:∃t,mg "FEED" = some (.int 12 t)
 forg:∃t,mg "FORGET" = some (.int 13 t)
 tell:∃t,mg "TELL" = some (.int 14 t)
 go:∃t,mg "GO_ON" = some (.int 15 t)
 plain:mg "PLAIN_NUMBERS" = some (.ref m)
 tup:∀H:Hp,SqT K H m [.int 1,.int 0,.int 2,.int 3]
def spCE (K:PySem.W.Frag):Sp:=fun vs H Q _=>∃(a:Addr) (i:Nat) (l pre t:List Int) (c:List (List Int)),vs=[.ref a,.int i]/\SqL K H a (l.map V.int)/\l.drop i=pre ++ t/\Form pre c/\∀H',Same H H'->Q (.int ((i + pre.length:Nat):Int)) H'
theorem scCE:FnScope ["calls","at"] ["calls","at"] (defScope sCallEnd):=⟨rfl,rfl,rfl,by decide +kernel,rfl,by decide +kernel,by decide +kernel⟩
theorem drop_get {l pre t:List Int} {i j:Nat} {z:Int} (h:l.drop i=pre ++ t) (hz:pre[j]? = some z):(l.map V.int)[i + j]? = some (V.int z):=by
 have hj:j < pre.length:=(List.getElem?_eq_some_iff.mp hz).1
 have e:l[i + j]? = some z:=by
  rw [<-List.getElem?_drop,h,List.getElem?_append_left hj]
  exact hz
 rw [List.getElem?_map,e]
 rfl
theorem ok_CE {f m:Addr} {fd:FuncData} (F:Fun K "call_end" "call_end" sCallEnd f fd) (T:TxtC K mg m):FnOk P w K mg base CX0 1 f fd ["calls","at"] (spCE K):=by
 refine F.ok scCE (fun vs H Q E h=>?_) (fun cdv A outer s H vs Q E hr h=>?_)
 ·obtain ⟨a,i,l,pre,t,c,rfl,_⟩:=h
  rfl
 ·obtain ⟨a,i,l,pre,t,c,rfl,hl,hd,hform,k⟩:=h
  refine ⟨_,pss_cons (ps_if (pt_cmpR op_in_seq (pe_ix ix_list (pv 0) (pv 1) (fun _ _=>rfl)) (pe_tup (pa_cons (pe_const T.beg rfl) (pa_cons (pe_const T.feed rfl) pa_nil))) rfl) (pss_one (ps_ret (pe_op op_add (pe_op op_add (pv 1) pe_int) (pe_ix ix_list (pv 0) (pe_op op_add (pv 1) pe_int) (fun _ _=>rfl))))) pss_nil)
   (pss_one (ps_ret (pe_op op_add (pe_op op_add (pv 1) pe_int) (pe_ix ix_tup (pe_glob rfl T.plain (v:=.ref m) rfl) (pe_op op_sub (pe_ix ix_list (pv 0) (pv 1) (fun _ _=>rfl)) (pe_const T.forg rfl)) (fun _ _=>rfl))))),?_⟩
  obtain ⟨p,pr,rfl⟩:∃p pr,pre=p :: pr:=by
   have:=form_len hform
   cases pre with
   | nil=>simp at this
   | cons p pr=>exact ⟨p,pr,rfl⟩
  have g0:(l.map V.int)[i]? = some (V.int p):=drop_get (j:=0) hd rfl
  refine ⟨_,rfl,_,rfl,a,_,_,_,rfl,rfl,hl,at_of (j:=i) rfl g0,by show 2<=sizeLine;decide,fun T1 hT1=>?_⟩
  have s1:Same H (upd H T1 (.tup [V.int 11,V.int 12])):=Same.new hT1
  refine ⟨T1,_,rfl,.inr (SqT.of upd_same),rfl,rfl,_,rfl,?_⟩
  have hl1:=s1.seq hl
  have fin:∀z:Int,z=((i + (p :: pr).length:Nat):Int)->Q (.int z) (upd H T1 (.tup [V.int 11,V.int 12])):=fun z hz=>by rw [hz];exact k _ s1
  cases hform with
  | begin_ s=>
   refine iteB1 (by decide) ?_
   have g1:(l.map V.int)[i + 1]? = some (V.int ((s.length:Nat):Int)):=drop_get (j:=1) hd rfl
   exact ⟨_,rfl,_,_,rfl,rfl,_,rfl,_,rfl,_,_,rfl,rfl,a,_,_,_,rfl,rfl,hl1,at_of (j:=i + 1) (by show (i:Int) + 1=_;omega) g1,_,_,rfl,rfl,fin _ (by show (i:Int) + 2 + _=_;rw [List.length_cons,List.length_cons];omega)⟩
  | feed s=>
   refine iteB1 (by decide) ?_
   have g1:(l.map V.int)[i + 1]? = some (V.int ((s.length:Nat):Int)):=drop_get (j:=1) hd rfl
   exact ⟨_,rfl,_,_,rfl,rfl,_,rfl,_,rfl,_,_,rfl,rfl,a,_,_,_,rfl,rfl,hl1,at_of (j:=i + 1) (by show (i:Int) + 1=_;omega) g1,_,_,rfl,rfl,fin _ (by show (i:Int) + 2 + _=_;rw [List.length_cons,List.length_cons];omega)⟩
  | forget k0=>
   refine iteB0 (by decide) ?_
   exact ⟨_,rfl,_,_,rfl,rfl,_,rfl,_,rfl,a,_,_,_,rfl,rfl,hl1,at_of (j:=i) rfl g0,_,_,rfl,rfl,m,_,_,_,rfl,rfl,T.tup _,at_of (j:=0) (by decide) rfl,_,_,rfl,rfl,fin _ (by show (i:Int) + 1 + 1=((i + 2:Nat):Int);omega)⟩
  | tell=>
   refine iteB0 (by decide) ?_
   exact ⟨_,rfl,_,_,rfl,rfl,_,rfl,_,rfl,a,_,_,_,rfl,rfl,hl1,at_of (j:=i) rfl g0,_,_,rfl,rfl,m,_,_,_,rfl,rfl,T.tup _,at_of (j:=1) (by decide) rfl,_,_,rfl,rfl,fin _ (by show (i:Int) + 1 + 0=((i + 1:Nat):Int);omega)⟩
  | next m1 s1'=>
   refine iteB0 (by decide) ?_
   exact ⟨_,rfl,_,_,rfl,rfl,_,rfl,_,rfl,a,_,_,_,rfl,rfl,hl1,at_of (j:=i) rfl g0,_,_,rfl,rfl,m,_,_,_,rfl,rfl,T.tup _,at_of (j:=2) (by decide) rfl,_,_,rfl,rfl,fin _ (by show (i:Int) + 1 + 2=((i + 3:Nat):Int);omega)⟩
  | goes m1 s1' k1=>
   refine iteB0 (by decide) ?_
   exact ⟨_,rfl,_,_,rfl,rfl,_,rfl,_,rfl,a,_,_,_,rfl,rfl,hl1,at_of (j:=i) rfl g0,_,_,rfl,rfl,m,_,_,_,rfl,rfl,T.tup _,at_of (j:=3) (by decide) rfl,_,_,rfl,rfl,fin _ (by show (i:Int) + 1 + 3=((i + 4:Nat):Int);omega)⟩
end
end Go
namespace Go
open PySem L2
section
variable {P:Program} {w:World} {K:PySem.W.Frag} {mg:Str->Option Value} {base:Heap} {CS CN CL CK tP:Addr}
theorem Out.mono {H H1:Hp} {sa:Addr} {M:List Addr} {H0:Hp} {ans:List Int} {st:Ql89.Abs} {Q:VK} (k:Out CS CN CL CK tP H sa M H0 ans st Q) (s1:Same H H1) (htab:Tab H tP):Out CS CN CL CK tP H1 sa M H0 ans st Q:=
 fun D' H' M' H0' a b c e f=>k D' H' M' H0' (s1.free a) b c ((Eff.of (H0:=H0) s1).trans e htab (htab.mono s1)) f
def spOne (CS CN CL CK tP:Addr):Sp:=fun vs H Q _=>∃(sa cl:Addr) (pre:List Int) (c:List (List Int)) (st:Ql89.Abs) (M:List Addr) (H0:Hp),vs=[.ref sa,.ref cl]/\SesAt CS CN CL CK tP H sa st M H0/\Tab H tP/\H cl=some (.lst (pre.map V.int))/\Form pre c/\Ql89Neutral.asked1 c=true/\(∃r,(Ql89Neutral.callOf c).bind (Ql89.act st)=some r)/\pre.length<=100000/\
 Out CS CN CL CK tP H sa M H0 (Ql89Neutral.step st c).2 (Ql89Neutral.step st c).1 Q
theorem scOne:FnScope ["session","call"] ["session","call"] (defScope sOne):=⟨rfl,rfl,rfl,by decide +kernel,rfl,by decide +kernel,by decide +kernel⟩
theorem nats_natI {s:List Int} (h:∀z∈s,0<=z):natI (Ql89Neutral.nats s)=s.map V.int:=by
 unfold natI Ql89Neutral.nats
 rw [List.map_map]
 refine List.map_congr_left fun z hz=>?_
 show V.int ((z.toNat:Nat):Int)=V.int z
 rw [Int.toNat_of_nonneg (h z hz)]
theorem nat_of {z:Int} {b:Nat} (h:Ql89Neutral.natural z b=true):0<=z/\z < 2 ^ b:=by
 unfold Ql89Neutral.natural at h
 rw [Bool.and_eq_true] at h
 exact ⟨of_decide_eq_true h.1,of_decide_eq_true h.2⟩
theorem st_some {c:List (List Int)} {q:Ql89.Call} {st:Ql89.Abs} (hc:Ql89Neutral.callOf c=some q) (ho:Ql89.ofObject q=true) (h:∃r,(Ql89Neutral.callOf c).bind (Ql89.act st)=some r):∃x,st=some x:=by
 cases st with
 | some x=>exact ⟨x,rfl⟩
 | none=>
  obtain ⟨r,h⟩:=h
  rw [hc] at h
  have h:Ql89.act none q=some r:=h
  rw [act_none ho] at h
  cases h
theorem ok_One {f m fB fF fFo fT fG fW:Addr} {fd fdB fdF fdFo fdT fdG fdW:FuncData} (F:Fun K "answer_one" "answer_one" sOne f fd) (T:TxtC K mg m) (TS:Attrs K CS sesA)
  (Be:MFn P w K mg base CX0 15 CS "begin" fB fdB ["self","data"] (spBegin CS CN CL CK tP)) (Fe:MFn P w K mg base CX0 7 CS "feed" fF fdF ["self","words"] (spFeed CS CN CL CK tP)) (Fo:MFn P w K mg base CX0 2 CS "forget" fFo fdFo ["self","k"] (spForget CS CN CL CK tP))
  (Te:MFn P w K mg base CX0 4 CS "tell" fT fdT ["self"] (spTell CS CN CL CK tP)) (Go:MFn P w K mg base CX0 4 CS "go_on" fG fdG ["self","most","seed"] (spGo CS CN CL CK tP)) (Wr:MFn P w K mg base CX0 7 CS "write" fW fdW ["self","most","seed","k"] (spWrite CS CN CL CK tP)) :
  FnOk P w K mg base CX0 16 f fd ["session","call"] (spOne CS CN CL CK tP):=by
 refine F.ok scOne (fun vs H Q E h=>?_) (fun cdv A outer s H vs Q E hr h=>?_)
 ·obtain ⟨sa,cl,pre,c,st,M,H0,rfl,_⟩:=h
  rfl
 ·obtain ⟨sa,cl,pre,c,st,M,H0,rfl,S,htab,hcl,hform,hask,hr0,hpl,k⟩:=h
  have hr7:Room 7 _:=hr.mono (by decide)
  have hr2:Room 2 _:=hr.mono (by decide)
  have hr4:Room 4 _:=hr.mono (by decide)
  refine ⟨_,pss_cons (ps_if (pt_cmpR op_eq (pe_ix ix_list (pv 1) pe_int (fun _ _=>rfl)) (pe_const T.beg rfl) (nomark _)) (pss_one (ps_ret (pe_meth (pv 0) TS.cl Be.m Be.ok hr Be.b .nil pass0 (pa_cons (pe_slice sl_list (pv 1) (po_some pe_int) po_none) pa_nil)))) pss_nil)
   (pss_cons (ps_if (pt_cmpR op_eq (pe_ix ix_list (pv 1) pe_int (fun _ _=>rfl)) (pe_const T.feed rfl) (nomark _)) (pss_one (ps_ret (pe_meth (pv 0) TS.cl Fe.m Fe.ok hr7 Fe.b .nil pass0 (pa_cons (pe_slice sl_list (pv 1) (po_some pe_int) po_none) pa_nil)))) pss_nil)
   (pss_cons (ps_if (pt_cmpR op_eq (pe_ix ix_list (pv 1) pe_int (fun _ _=>rfl)) (pe_const T.forg rfl) (nomark _)) (pss_one (ps_ret (pe_meth (pv 0) TS.cl Fo.m Fo.ok hr2 Fo.b .nil pass0 (pa_cons (pe_ix ix_list (pv 1) pe_int (fun _ _=>rfl)) pa_nil)))) pss_nil)
   (pss_cons (ps_if (pt_cmpR op_eq (pe_ix ix_list (pv 1) pe_int (fun _ _=>rfl)) (pe_const T.tell rfl) (nomark _)) (pss_one (ps_ret (pe_meth0 (pv 0) TS.cl Te.m Te.ok hr4 Te.b .nil pass0))) pss_nil)
   (pss_cons (ps_if (pt_cmpR op_eq (pe_ix ix_list (pv 1) pe_int (fun _ _=>rfl)) (pe_const T.go rfl) (nomark _)) (pss_one (ps_ret (pe_meth (pv 0) TS.cl Go.m Go.ok hr4 Go.b .nil pass0 (pa_cons (pe_ix ix_list (pv 1) pe_int (fun _ _=>rfl)) (pa_cons (pe_ix ix_list (pv 1) pe_int (fun _ _=>rfl)) pa_nil))))) pss_nil)
   (pss_one (ps_ret (pe_meth (pv 0) TS.cl Wr.m Wr.ok hr7 Wr.b .nil pass0 (pa_cons (pe_ix ix_list (pv 1) pe_int (fun _ _=>rfl)) (pa_cons (pe_ix ix_list (pv 1) pe_int (fun _ _=>rfl)) (pa_cons (pe_ix ix_list (pv 1) pe_int (fun _ _=>rfl)) pa_nil)))))))))),?_⟩
  obtain ⟨dx,fs,nv,kl,lv,hs,hf,_⟩:=S.ob
  have hcM:cl≠sa:=ne_of hcl hs fun z=>by cases z
  have dn:∀{a b:Int},a≠b->¬(V.int a=V.int b):=fun h z=>h (by injection z)
  cases hform with
  | begin_ s=>
   rw [step_begin st s (by simp at hpl;omega)] at k
   have hb:∀z∈s,GM.isByte z:=fun z hz=>by
    have hask:(Ql89Neutral.whole32 (s.length:Int) && (s.all (fun (z:Int)=>Ql89Neutral.natural z 8) && Ql89Neutral.long s (s.length:Int) 0 16777216))=true:=hask
    rw [Bool.and_eq_true,Bool.and_eq_true] at hask
    have:=nat_of (List.all_eq_true.mp hask.2.1 z hz)
    unfold GM.isByte
    omega
   refine ⟨_,rfl,cl,_,_,V.int 11,rfl,rfl,SqL.of hcl,at_of (j:=0) rfl rfl,rfl,_,rfl,iteD1 rfl ?_⟩
   refine ⟨_,rfl,sa,dx,fs,rfl,hs,hf.no "begin" (by decide +kernel),_,rfl,_,rfl,cl,_,rfl,SqL.of hcl,fun d hd=>?_⟩
   rw [show (2:Int)=((2:Nat):Int) from rfl,cut_drop]
   have sd:Same H (upd H d (.lst (((11 :: (s.length:Int) :: s).map V.int).drop 2))):=Same.new hd
   have ed:((11 :: (s.length:Int) :: s).map V.int).drop 2=s.map V.int:=rfl
   refine ⟨sa,d,s,st,M,H0,rfl,S.mono sd,htab.mono sd,by rw [upd_same,ed],hb,by simp at hpl;omega,fun ⟨fl,he⟩=>?_,fun n hn D H' M' H0' hD hD' S' ek em eh t'=>?_⟩
   ·rw [he] at k
    exact k.mono sd htab
   ·rw [hn] at k
    refine k D H' M' H0' (sd.free hD) hD' S' ⟨fun b o hb hM e=>ek b o hb hM (sd _ _ e),fun b hb=>?_,fun b l hb e _=>eh b l hb (ne_of_none e hd) (sd _ _ e)⟩ t'
    rcases em b hb with q | q
    ·exact .inl q
    ·exact .inr (sd.free q)
  | feed s=>
   obtain ⟨x,rfl⟩:=st_some (q:=.feed (s.length:Int) (Ql89Neutral.nats s)) rfl rfl hr0
   rw [step_obj (x:=x) (q:=.feed (s.length:Int) (Ql89Neutral.nats s)) rfl rfl (fun _ _ z=>by cases z)] at k
   have hb:∀z∈s,0<=z:=fun z hz=>by
    have hask:(Ql89Neutral.whole32 (s.length:Int) && (s.all (fun (z:Int)=>Ql89Neutral.natural z 16) && Ql89Neutral.long s (s.length:Int) 0 256))=true:=hask
    rw [Bool.and_eq_true,Bool.and_eq_true] at hask
    exact (nat_of (List.all_eq_true.mp hask.2.1 z hz)).1
   have hnl:(Ql89Neutral.nats s).length=s.length:=by unfold Ql89Neutral.nats;rw [List.length_map]
   obtain ⟨a1,a2,a3,a4⟩:=act_feed x s.length (Ql89Neutral.nats s) hnl.symm
   refine ⟨_,rfl,cl,_,_,V.int 12,rfl,rfl,SqL.of hcl,at_of (j:=0) rfl rfl,rfl,_,rfl,iteD0 (dn (by decide)) ?_⟩
   refine ⟨_,rfl,cl,_,_,V.int 12,rfl,rfl,SqL.of hcl,at_of (j:=0) rfl rfl,rfl,_,rfl,iteD1 rfl ?_⟩
   refine ⟨_,rfl,sa,dx,fs,rfl,hs,hf.no "feed" (by decide +kernel),_,rfl,_,rfl,cl,_,rfl,SqL.of hcl,fun d hd=>?_⟩
   rw [show (2:Int)=((2:Nat):Int) from rfl,cut_drop]
   have sd:Same H (upd H d (.lst (((12 :: (s.length:Int) :: s).map V.int).drop 2))):=Same.new hd
   have ed:((12 :: (s.length:Int) :: s).map V.int).drop 2=s.map V.int:=rfl
   refine ⟨sa,d,Ql89Neutral.nats s,x,M,H0,rfl,S.mono sd,htab.mono sd,by rw [upd_same,ed,nats_natI hb],S.free hd,by simp at hpl;omega,fun h=>?_,fun h hv=>?_,fun h hv hp=>?_,fun h hv hp=>?_⟩
   ·rw [a1 h] at k;exact k.mono sd htab
   ·rw [a2 h hv] at k;exact k.mono sd htab
   ·rw [a3 h hv hp] at k;exact k.mono sd htab
   ·rw [a4 h hv hp] at k;exact k.mono sd htab
  | forget k0=>
   obtain ⟨x,rfl⟩:=st_some (q:=.forget k0) rfl rfl hr0
   rw [step_obj (x:=x) (q:=.forget k0) rfl rfl (fun _ _ z=>by cases z)] at k
   obtain ⟨a1,a2⟩:=act_forget x k0
   refine ⟨_,rfl,cl,_,_,V.int 13,rfl,rfl,SqL.of hcl,at_of (j:=0) rfl rfl,rfl,_,rfl,iteD0 (dn (by decide)) ?_⟩
   refine ⟨_,rfl,cl,_,_,V.int 13,rfl,rfl,SqL.of hcl,at_of (j:=0) rfl rfl,rfl,_,rfl,iteD0 (dn (by decide)) ?_⟩
   refine ⟨_,rfl,cl,_,_,V.int 13,rfl,rfl,SqL.of hcl,at_of (j:=0) rfl rfl,rfl,_,rfl,iteD1 rfl ?_⟩
   refine ⟨_,rfl,sa,dx,fs,rfl,hs,hf.no "forget" (by decide +kernel),_,rfl,cl,_,_,V.int k0,rfl,rfl,SqL.of hcl,at_of (j:=1) rfl rfl,sa,k0,x,M,H0,rfl,S,htab,fun h=>?_,fun j hj hl=>?_⟩
   ·rw [a1 h] at k;exact k
   ·rw [a2 j hj hl] at k
    have k:Out CS CN CL CK tP H sa M H0 [k0] (some ⟨x.net,x.fed.take j⟩) Q:=k
    rw [hj] at k
    exact k
  | tell=>
   obtain ⟨x,rfl⟩:=st_some (q:=.tell) rfl rfl hr0
   rw [step_obj (x:=x) (q:=.tell) rfl rfl (fun _ _ z=>by cases z)] at k
   refine ⟨_,rfl,cl,_,_,V.int 14,rfl,rfl,SqL.of hcl,at_of (j:=0) rfl rfl,rfl,_,rfl,iteD0 (dn (by decide)) ?_⟩
   refine ⟨_,rfl,cl,_,_,V.int 14,rfl,rfl,SqL.of hcl,at_of (j:=0) rfl rfl,rfl,_,rfl,iteD0 (dn (by decide)) ?_⟩
   refine ⟨_,rfl,cl,_,_,V.int 14,rfl,rfl,SqL.of hcl,at_of (j:=0) rfl rfl,rfl,_,rfl,iteD0 (dn (by decide)) ?_⟩
   refine ⟨_,rfl,cl,_,_,V.int 14,rfl,rfl,SqL.of hcl,at_of (j:=0) rfl rfl,rfl,_,rfl,iteD1 rfl ?_⟩
   refine ⟨_,rfl,sa,dx,fs,rfl,hs,hf.no "tell" (by decide +kernel),sa,x,M,H0,rfl,S,htab,?_⟩
   have e:Ql89.actOn x .tell=(if x.fed=[] then Ql89.only (-5) else Ql89.numbers (Ql89.scores x.net x.fed),x):=rfl
   rw [e] at k
   by_cases he:x.fed=[]
   ·rw [if_pos he] at k |-
    exact k
   ·rw [if_neg he] at k |-
    have k:Out CS CN CL CK tP H sa M H0 (((Ql89.scores x.net x.fed).length:Int) :: Ql89.scores x.net x.fed) (some x) Q:=k
    rw [scores_len] at k
    exact k
  | next m1 s1=>
   obtain ⟨x,rfl⟩:=st_some (q:=.next m1 s1.toNat) rfl rfl hr0
   rw [step_obj (x:=x) (q:=.next m1 s1.toNat) rfl rfl (fun _ _ z=>by cases z)] at k
   have hsd:0<=s1/\s1 < 2 ^ 64:=by
    have hask:(Ql89Neutral.whole32 m1 && Ql89Neutral.natural s1 64)=true:=hask
    rw [Bool.and_eq_true] at hask
    exact nat_of hask.2
   have e:Ql89.actOn x (.next m1 s1.toNat)=(if m1 < 1 then Ql89.only (-1) else if x.fed=[] then Ql89.only (-5) else Ql89.only ((Ql89.next x.net m1.toNat s1.toNat x.fed:Nat):Int),x):=rfl
   rw [e] at k
   refine ⟨_,rfl,cl,_,_,V.int 15,rfl,rfl,SqL.of hcl,at_of (j:=0) rfl rfl,rfl,_,rfl,iteD0 (dn (by decide)) ?_⟩
   refine ⟨_,rfl,cl,_,_,V.int 15,rfl,rfl,SqL.of hcl,at_of (j:=0) rfl rfl,rfl,_,rfl,iteD0 (dn (by decide)) ?_⟩
   refine ⟨_,rfl,cl,_,_,V.int 15,rfl,rfl,SqL.of hcl,at_of (j:=0) rfl rfl,rfl,_,rfl,iteD0 (dn (by decide)) ?_⟩
   refine ⟨_,rfl,cl,_,_,V.int 15,rfl,rfl,SqL.of hcl,at_of (j:=0) rfl rfl,rfl,_,rfl,iteD0 (dn (by decide)) ?_⟩
   refine ⟨_,rfl,cl,_,_,V.int 15,rfl,rfl,SqL.of hcl,at_of (j:=0) rfl rfl,rfl,_,rfl,iteD1 rfl ?_⟩
   refine ⟨_,rfl,sa,dx,fs,rfl,hs,hf.no "go_on" (by decide +kernel),_,rfl,cl,_,_,V.int m1,rfl,rfl,SqL.of hcl,at_of (j:=1) rfl rfl,_,rfl,cl,_,_,V.int s1,rfl,rfl,SqL.of hcl,at_of (j:=2) rfl rfl,sa,m1,s1.toNat,x,M,H0,by rw [Int.toNat_of_nonneg hsd.1];rfl,S,htab,by omega,fun h=>?_,fun h he=>?_,fun h he=>?_⟩
   ·rw [if_pos h] at k;exact k
   ·rw [if_neg (by omega),if_pos he] at k;exact k
   ·rw [if_neg (by omega),if_neg he] at k;exact k
  | goes m1 s1 k1=>
   obtain ⟨x,rfl⟩:=st_some (q:=.goes m1 s1.toNat k1) rfl rfl hr0
   rw [step_obj (x:=x) (q:=.goes m1 s1.toNat k1) rfl rfl (fun _ _ z=>by cases z)] at k
   have hsd:0<=s1/\s1 < 2 ^ 64:=by
    have hask:(Ql89Neutral.whole32 m1 && (Ql89Neutral.natural s1 64 && Ql89Neutral.whole32 k1))=true:=hask
    rw [Bool.and_eq_true,Bool.and_eq_true] at hask
    exact nat_of hask.2.1
   obtain ⟨a1,a2,a3⟩:=act_goes x m1 s1.toNat k1
   refine ⟨_,rfl,cl,_,_,V.int 16,rfl,rfl,SqL.of hcl,at_of (j:=0) rfl rfl,rfl,_,rfl,iteD0 (dn (by decide)) ?_⟩
   refine ⟨_,rfl,cl,_,_,V.int 16,rfl,rfl,SqL.of hcl,at_of (j:=0) rfl rfl,rfl,_,rfl,iteD0 (dn (by decide)) ?_⟩
   refine ⟨_,rfl,cl,_,_,V.int 16,rfl,rfl,SqL.of hcl,at_of (j:=0) rfl rfl,rfl,_,rfl,iteD0 (dn (by decide)) ?_⟩
   refine ⟨_,rfl,cl,_,_,V.int 16,rfl,rfl,SqL.of hcl,at_of (j:=0) rfl rfl,rfl,_,rfl,iteD0 (dn (by decide)) ?_⟩
   refine ⟨_,rfl,cl,_,_,V.int 16,rfl,rfl,SqL.of hcl,at_of (j:=0) rfl rfl,rfl,_,rfl,iteD0 (dn (by decide)) ?_⟩
   refine ⟨_,rfl,sa,dx,fs,rfl,hs,hf.no "write" (by decide +kernel),_,rfl,cl,_,_,V.int m1,rfl,rfl,SqL.of hcl,at_of (j:=1) rfl rfl,_,rfl,cl,_,_,V.int s1,rfl,rfl,SqL.of hcl,at_of (j:=2) rfl rfl,_,rfl,cl,_,_,V.int k1,rfl,rfl,SqL.of hcl,at_of (j:=3) rfl rfl,sa,m1,k1,s1.toNat,x,M,H0,by rw [Int.toNat_of_nonneg hsd.1];rfl,S,htab,by omega,fun h=>?_,fun h1 h2 h3 he=>?_,fun h1 h2 h3 he=>?_⟩
   ·rw [a1 h] at k;exact k
   ·rw [a2 h1 h2 h3 he] at k;exact k
   ·rw [a3 h1 h2 h3 he] at k
    have k:Out CS CN CL CK tP H sa M H0 ((((Ql89.goes x.net m1.toNat k1.toNat s1.toNat x.fed).map fun (v:Nat)=>(v:Int)).length:Int) :: (Ql89.goes x.net m1.toNat k1.toNat s1.toNat x.fed).map fun (v:Nat)=>(v:Int)) (some ⟨x.net,x.fed ++ Ql89.goes x.net m1.toNat k1.toNat s1.toNat x.fed⟩) Q:=k
    rw [List.length_map] at k
    exact k
end
end Go
namespace Go
open PySem L2
theorem ans_len {pre:List Int} {c:List (List Int)} {st:Ql89.Abs} (hform:Form pre c) (hr0:∃r,(Ql89Neutral.callOf c).bind (Ql89.act st)=some r) (hw:∀x,st=some x->x.net.words<=4096) (hpl:pre.length<=100000):(Ql89Neutral.step st c).2.length<=5000:=by
 cases hform with
 | begin_ s=>
  rw [step_begin st s (by simp at hpl;omega)]
  cases readNt s with
  | error f=>show 1<=5000;decide
  | ok n=>show 1<=5000;decide
 | feed s=>
  obtain ⟨x,rfl⟩:=st_some (q:=.feed (s.length:Int) (Ql89Neutral.nats s)) rfl rfl hr0
  rw [step_obj (x:=x) (q:=.feed (s.length:Int) (Ql89Neutral.nats s)) rfl rfl (fun _ _ z=>by cases z)]
  have hnl:(Ql89Neutral.nats s).length=s.length:=by unfold Ql89Neutral.nats;rw [List.length_map]
  obtain ⟨a1,a2,a3,a4⟩:=act_feed x s.length (Ql89Neutral.nats s) hnl.symm
  by_cases h:256 < (Ql89Neutral.nats s).length
  ·rw [a1 h];show 1<=5000;decide
  ·by_cases hv:∀v∈Ql89Neutral.nats s,v < x.net.words
   ·by_cases hp:x.net.places < x.fed.length + (Ql89Neutral.nats s).length
    ·rw [a3 (by omega) hv hp];show 1<=5000;decide
    ·rw [a4 (by omega) hv (by omega)];show 2<=5000;decide
   ·have:∃v∈Ql89Neutral.nats s,x.net.words<=v:=Classical.byContradiction fun z=>hv fun v hv=>Nat.lt_of_not_le fun q=>z ⟨v,hv,q⟩
    rw [a2 (by omega) this];show 1<=5000;decide
 | forget k0=>
  obtain ⟨x,rfl⟩:=st_some (q:=.forget k0) rfl rfl hr0
  rw [step_obj (x:=x) (q:=.forget k0) rfl rfl (fun _ _ z=>by cases z)]
  obtain ⟨a1,a2⟩:=act_forget x k0
  by_cases h:0<=k0/\k0<=x.fed.length
  ·rw [a2 k0.toNat (by omega) (by omega)];show 1<=5000;decide
  ·rw [a1 h];show 1<=5000;decide
 | tell=>
  obtain ⟨x,rfl⟩:=st_some (q:=.tell) rfl rfl hr0
  rw [step_obj (x:=x) (q:=.tell) rfl rfl (fun _ _ z=>by cases z)]
  have e:Ql89.actOn x .tell=(if x.fed=[] then Ql89.only (-5) else Ql89.numbers (Ql89.scores x.net x.fed),x):=rfl
  rw [e]
  by_cases he:x.fed=[]
  ·rw [if_pos he];show 1<=5000;decide
  ·rw [if_neg he]
   show (((Ql89.scores x.net x.fed).length:Int) :: Ql89.scores x.net x.fed).length<=5000
   rw [List.length_cons,scores_len]
   have:=hw x rfl
   omega
 | next m1 s1=>
  obtain ⟨x,rfl⟩:=st_some (q:=.next m1 s1.toNat) rfl rfl hr0
  rw [step_obj (x:=x) (q:=.next m1 s1.toNat) rfl rfl (fun _ _ z=>by cases z)]
  have e:Ql89.actOn x (.next m1 s1.toNat)=(if m1 < 1 then Ql89.only (-1) else if x.fed=[] then Ql89.only (-5) else Ql89.only ((Ql89.next x.net m1.toNat s1.toNat x.fed:Nat):Int),x):=rfl
  rw [e]
  by_cases h:m1 < 1
  ·rw [if_pos h];show 1<=5000;decide
  ·by_cases he:x.fed=[]
   ·rw [if_neg h,if_pos he];show 1<=5000;decide
   ·rw [if_neg h,if_neg he];show 1<=5000;decide
 | goes m1 s1 k1=>
  obtain ⟨x,rfl⟩:=st_some (q:=.goes m1 s1.toNat k1) rfl rfl hr0
  rw [step_obj (x:=x) (q:=.goes m1 s1.toNat k1) rfl rfl (fun _ _ z=>by cases z)]
  obtain ⟨a1,a2,a3⟩:=act_goes x m1 s1.toNat k1
  by_cases h:m1 < 1\/k1 < 0\/256 < k1
  ·rw [a1 h];show 1<=5000;decide
  ·by_cases he:x.fed=[]
   ·rw [a2 (by omega) (by omega) (by omega) he];show 1<=5000;decide
   ·rw [a3 (by omega) (by omega) (by omega) he]
    show ((((Ql89.goes x.net m1.toNat k1.toNat s1.toNat x.fed).map fun (v:Nat)=>(v:Int)).length:Int) :: (Ql89.goes x.net m1.toNat k1.toNat s1.toNat x.fed).map fun (v:Nat)=>(v:Int)).length<=5000
    rw [List.length_cons,List.length_map]
    have:=goes_len x.net m1.toNat k1.toNat s1.toNat x.fed
    omega
def isL:HO->Bool
 | .lst _=>true
 | .frz _ (.lst _)=>true
 | _=>false
theorem SqL.keep {K:PySem.W.Frag} {H H':Hp} {a:Addr} {xs:List V} (h:SqL K H a xs) (s:∀o,isL o=true->H a=some o->H' a=some o):SqL K H' a xs:=by
 rcases h with (h | ⟨o,h⟩) | h
 ·exact .inl (.inl (s _ rfl h))
 ·exact .inl (.inr ⟨o,s _ rfl h⟩)
 ·exact .inr h
section
variable {P:Program} {w:World} {K:PySem.W.Frag} {mg:Str->Option Value} {base:Heap} {CS CN CL CK tP:Addr}
def spAnswers (CS CN CL CK tP:Addr) (K:PySem.W.Frag):Sp:=fun vs H Q _=>∃(a:Addr) (l:List Int),vs=[.ref a]/\SqL K H a (l.map V.int)/\PyQl89.answers_asked l=true/\l.length<=100000/\Tab H tP/\∀L H',H' L=some (.lst ((PyQl89.answers l).map V.int))->Q (.ref L) H'
theorem scAnswers:FnScope ["calls","session","answered","at","end","answer"] ["calls"] (defScope sAnswers):=⟨rfl,rfl,rfl,by decide +kernel,rfl,by decide +kernel,by decide +kernel⟩
def muA (n:Nat) (σ:L2.St) (_:Hp):Nat:=match (σ[3]?:Option (Option V)) with
 | some (some (.int z))=>n - z.toNat
 | _=>0
theorem ok_Answers {f fS fC fO:Addr} {fd fdS fdC fdO:FuncData} (F:Fun K "answers" "answers" sAnswers f fd) (TS:Attrs K CS sesA) (hlen:mg "len" = none) (mgS:mg "Session" = some (.ref CS)) (MS:Mk K CS fS) (SI:FnOk P w K mg base CX0 1 fS fdS ["self"] (spSI CS CN CL CK tP)) (bS:Binds K fdS ["self"] [])
  (CE':GFn P w K mg base CX0 1 "call_end" fC fdC ["calls","at"] (spCE K)) (On:GFn P w K mg base CX0 16 "answer_one" fO fdO ["session","call"] (spOne CS CN CL CK tP)):FnOk P w K mg base CX0 17 f fd ["calls"] (spAnswers CS CN CL CK tP K):=by
 refine F.ok scAnswers (fun vs H Q E h=>?_) (fun cdv A outer s H vs Q E hr h=>?_)
 ·obtain ⟨a,l,rfl,_⟩:=h
  rfl
 ·obtain ⟨a,l,rfl,hl,hask,hll,htab,k⟩:=h
  have hr1:Room 1 _:=hr.mono (by decide)
  have hr2:Room 2 _:=hr.mono (by decide)
  refine ⟨_,pss_cons (ps_set (i:=1) scAnswers.nd rfl (Or.inl rfl) (pe_make0 MS SI hr2 rfl mgS bS .nil pass0))
   (pss_cons (ps_set (i:=2) scAnswers.nd rfl (Or.inl rfl) (pe_lst pa_nil))
   (pss_cons (ps_set (i:=3) scAnswers.nd rfl (Or.inl rfl) pe_int)
   (pss_cons (ps_while PassesOwn.never (pt_cmpR op_lt (pv 3) (pe_callB call_len_seq (by rfl) hlen PySem.boot_len (pa_cons (pv 0) pa_nil)) (nomark _))
    (pss_cons (ps_set (i:=4) scAnswers.nd rfl (Or.inl rfl) (pe_call CE'.ok hr1 rfl CE'.glo CE'.kp CE'.b .nil pass0 (pa_cons (pv 0) (pa_cons (pv 3) pa_nil))))
    (pss_cons (ps_set (i:=5) scAnswers.nd rfl (Or.inl rfl) (pe_call On.ok hr rfl On.glo On.kp On.b .nil pass0 (pa_cons (pv 1) (pa_cons (pe_slice sl_list (pv 0) (po_some (pv 3)) (po_some (pv 4))) pa_nil))))
    (pss_cons (ps_expr (pe_bm PySem.F.plainAttrs_list PySem.F.slot_list_append PySem.F.type_list_append mt_append (pv 2) (pa_cons (pe_callB call_len_seq (by rfl) hlen PySem.boot_len (pa_cons (pv 5) pa_nil)) pa_nil)))
    (pss_cons (ps_expr (pe_bm PySem.F.plainAttrs_list PySem.F.slot_list_extend PySem.F.type_list_extend mt_extend (pv 2) (pa_cons (pv 5) pa_nil)))
    (pss_one (ps_set (i:=3) scAnswers.nd rfl (Or.inl rfl) (pv 4))))))))
   (pss_one (ps_ret (pv 2)))))),?_⟩
  refine fun sa dx nsa ndx ne=>⟨sa,dx,rfl,upd_same,fun H1 b1 S1=>⟨rfl,?_⟩⟩
  have s01:Same H H1:=fun b o e=>b1 b o (ne_of_none e nsa) (by rw [upd_ne (ne_of_none e nsa),upd_ne (ne_of_none e ndx)];exact e)
  refine ⟨by show 0<=sizeLine;exact Nat.zero_le _,fun an han=>?_⟩
  have s12:Same H1 (upd H1 an (.lst [])):=Same.new han
  have ansa:an≠sa:=fun z=>by
   obtain ⟨_,_,_,_,_,q,_⟩:=S1.ob
   rw [z,q] at han;cases han
  have ana:∀o,H a=some o->a≠an:=fun o e=>ne_of_none (s01 _ _ e) han
  have hsl:2000000<=sizeLine:=by decide
  obtain ⟨cs0,R0⟩:=rest_start hask
  dsimp only [gName,tSeq]
  refine while_by (fun σ H'=>∃(i:Nat) (st:Ql89.Abs) (done:List Int) (j:Nat) (cs:List (List (List Int))) (M:List Addr) (H0:Hp) (v4 v5:Option V),σ=[some (.ref a),some (.ref sa),some (.ref an),some (.int i),v4,v5]/\SesAt CS CN CL CK tP H' sa st M H0/\Tab H' tP/\H' an=some (.lst (done.map V.int))/\an∉M/\H0 an=none/\(∀o,isL o=true->H a=some o->H' a=some o/\a∉M)/\Rest l i st done j cs/\done.length<=j * 5001) (muA l.length) ?_ ?_ ?_
  ·refine ⟨0,none,[],0,cs0,[sa],fun _=>none,none,none,rfl,S1.mono s12,(htab.mono s01).mono s12,upd_same,by simpa using ansa,rfl,fun o _ e=>⟨s12 _ _ (s01 _ _ e),by simpa using (ne_of_none e nsa)⟩,R0,Nat.zero_le _⟩
  ·rintro σ H' ⟨i,st,done,j,cs,M,H0,v4,v5,rfl,S,t,hD,anM,an0,ka,R,hdl⟩
   have hl':SqL K H' a (l.map V.int):=SqL.keep hl fun o ho e=>(ka o ho e).1
   refine ⟨_,rfl,_,rfl,a,_,rfl,.inl hl',_,_,rfl,rfl,_,rfl,?_⟩
   rw [List.length_map]
   refine ite2 (fun hc=>?_) (fun hc=>?_)
   ·have hc:=of_decide_eq_true hc
    have hi:i < l.length:=by omega
    obtain ⟨pre,c,cs',tl,hdr,hform,hask1,hr0,hj,R'⟩:=rest_step R hi
    have hple:i + pre.length<=l.length:=R'.le
    have hp0:=form_len hform
    refine ⟨_,rfl,_,rfl,a,i,l,pre,tl,c,rfl,hl',hdr,hform,fun H1' s1=>?_⟩
    have hl1:=s1.seq hl'
    refine ⟨_,rfl,_,rfl,_,rfl,_,rfl,_,rfl,_,rfl,a,_,rfl,hl1,fun cl hcl=>?_⟩
    have ecut:cutV (l.map V.int) (some ((i:Nat):Int)) (some (((i + pre.length:Nat)):Int))=pre.map V.int:=by
     have:=cutV_nat (l.map V.int) i pre.length (by rw [List.length_map];exact hple)
     rw [show (((i + pre.length:Nat)):Int)=(i:Int) + (pre.length:Int) by omega,this,<-List.map_drop,hdr,List.map_append,List.take_left' (by rw [List.length_map])]
    rw [ecut]
    have s2:Same H1' (upd H1' cl (.lst (pre.map V.int))):=Same.new hcl
    have s12':Same H' (upd H1' cl (.lst (pre.map V.int))):=s1.trans s2
    have hwb:∀x,st=some x->x.net.words<=4096:=fun x hx=>by
     subst hx
     obtain ⟨_,_,_,_,_,_,_,_,_,_,_,_,L⟩:=S.ob
     exact L.ok.words.2
    have hal:=ans_len hform hr0 hwb (by omega)
    refine ⟨sa,cl,pre,c,st,M,H0,rfl,S.mono s12',t.mono s12',upd_same,hform,hask1,hr0,by omega,fun D H3 M' H0' hD0 hD3 S3 e3 t3=>?_⟩
    have t2:=t.mono s12'
    have han2:=s12' _ _ hD
    have han3:H3 an=some (.lst (done.map V.int)):=e3.k _ _ (tab_lst t2 han2) anM han2
    have anM':an∉M':=fun z=>by
     rcases e3.m an z with q | q
     ·exact anM q
     ·rw [han2] at q;cases q
    have an0':H0' an=none:=e3.h an _ anM han2 an0
    have hDan:D≠an:=fun z=>by rw [z,han2] at hD0;cases hD0
    generalize hans:(Ql89Neutral.step st c).2=ans at R' hD3 S3 hal
    generalize (Ql89Neutral.step st c).1=st' at R' S3
    have hdn:(done.map V.int).length=done.length:=List.length_map _
    have han':(ans.map V.int).length=ans.length:=List.length_map _
    have hjb:done.length<=199 * 5001:=Nat.le_trans hdl (Nat.mul_le_mul_right _ (by omega))
    refine ⟨_,rfl,.inl ⟨rfl,_,SqL.of han3⟩,_,rfl,D,_,rfl,.inl (SqL.of hD3),an,_,_,rfl,rfl,han3,by rw [hdn];omega,?_⟩
    have S4:=S3.write (o:=.lst (done.map V.int ++ [V.int ((ans.map V.int).length:Nat)])) anM' an0' han3
    have hD4:(upd H3 an (.lst (done.map V.int ++ [V.int ((ans.map V.int).length:Nat)]))) D=some (.lst (ans.map V.int)):=by rw [upd_ne hDan];exact hD3
    refine ⟨_,rfl,.inl ⟨rfl,_,SqL.of upd_same⟩,_,rfl,an,D,_,_,rfl,rfl,upd_same,hD4,by rw [List.length_append,hdn,han'];show done.length + 1 + _<=_;omega,?_⟩
    have e4:done.map V.int ++ [V.int ((ans.map V.int).length:Nat)]=(done ++ [((ans.length:Nat):Int)]).map V.int:=by rw [List.map_append,han'];rfl
    have S5:=S4.write (is:=done ++ [((ans.length:Nat):Int)]) (o:=.lst (done.map V.int ++ [V.int ((ans.map V.int).length:Nat)] ++ ans.map V.int)) anM' an0' (by rw [upd_same,e4])
    refine ⟨_,rfl,⟨i + pre.length,st',_,j + 1,cs',M',H0',_,_,rfl,S5,tab_keep t3 fun b o e n1 _=>?_,?_,anM',an0',fun o ho e=>?_,R',?_⟩,?_⟩
    ·have hb:b≠an:=fun z=>by rw [z,han3] at e;exact n1 _ (Option.some.inj e).symm
     rw [upd_ne hb,upd_ne hb]
     exact e
    ·rw [upd_same,e4,<-List.map_append,List.append_assoc]
     rfl
    ·obtain ⟨q1,q2⟩:=ka o ho e
     have q3:=s12' _ _ q1
     have hatp:a≠tP:=fun zz=>by
      obtain ⟨ps,q⟩:=t.some
      rw [<-zz,q1] at q
      rw [Option.some.inj q] at ho
      cases ho
     refine ⟨by rw [upd_ne (ana o e),upd_ne (ana o e)];exact e3.k _ _ hatp q2 q3,fun z=>?_⟩
     rcases e3.m a z with q | q
     ·exact q2 q
     ·rw [q3] at q;cases q
    ·rw [List.length_append,List.length_cons]
     have:(j + 1) * 5001=j * 5001 + 5001:=by rw [Nat.add_mul]
     omega
    ·show l.length - (((i + pre.length:Nat)):Int).toNat < l.length - ((i:Nat):Int).toNat
     omega
   ·have hc:¬((i:Nat):Int) < ((l.length:Nat):Int):=fun z=>hc (decide_eq_true z)
    refine ⟨_,rfl,k an H' ?_⟩
    rw [rest_end R (by omega)]
    exact hD
  ·rintro σ H' Q1 Q2 h ⟨v1,e1,v2,e2,p,ys,e3,h3,i,j,a1,a2,kk,e4,q⟩
   exact ⟨v1,e1,v2,e2,p,ys,e3,h3,i,j,a1,a2,kk,e4,h _ _ q⟩
end
end Go
namespace L2
open PySem PySem.Spec PyProof.Rows
abbrev Lists:=List (Addr×List Value×List Int)
def given (K:PySem.W.Frag) (ls:Lists):Hp:=fun b=>if (K.lookup b).isSome=true then none else (ls.find? fun p=>p.1 == b).map fun p=>.frz {cls:=.type "list",data:=.seq p.2.1.toArray} (.lst (p.2.2.map V.int))
theorem given_some {K:PySem.W.Frag} {ls:Lists} {b:Addr} {u:HO} (h:given K ls b=some u):K.lookup b=none/\∃p∈ls,p.1=b/\u=.frz {cls:=.type "list",data:=.seq p.2.1.toArray} (.lst (p.2.2.map V.int)):=by
 unfold given at h
 split at h
 ·cases h
 ·rename_i hk
  obtain ⟨p,hp,e⟩:=Option.map_eq_some_iff.mp h
  refine ⟨by cases q:K.lookup b with | none=>rfl | some o=>rw [q] at hk;exact absurd rfl hk,p,List.mem_of_find?_eq_some hp,?_,e.symm⟩
  have z:=List.find?_some hp
  exact beq_iff_eq.mp z
theorem ints_inj:∀{vs:List Value} {ns ms:List Int},IntsAre vs ns->IntsAre vs ms->ns=ms
 | _,_,_,.nil,h=>by cases h;rfl
 | _,_,_,.cons n t h,h'=>by
  cases h' with
  | cons m u h2=>rw [ints_inj h h2]
structure LiesAll (h:Heap) (ls:Lists):Prop where
 at_:∀p∈ls,h.get? p.1=some {cls:=.type "list",data:=.seq p.2.1.toArray}
 isI:∀p∈ls,IntsAre p.2.1 p.2.2
 len:∀p∈ls,p.2.2.length<=sizeLine
theorem given_list {K:PySem.W.Frag} {ls:Lists} {h:Heap} (KX:K.In h) (L:LiesAll h ls) {p:Addr×List Value×List Int} (hp:p∈ls):SqL K (given K ls) p.1 (p.2.2.map V.int):=by
 have lenV:=(L.isI p hp).length
 cases hk:K.lookup p.1 with
 | some o=>
  have e:=KX _ o hk
  rw [L.at_ p hp] at e
  cases e
  exact .inr ⟨_,p.2.1.toArray,_,hk,rfl,rfl,rfl,by rw [List.size_toArray,lenV];exact L.len p hp,by simpa using vals_ints (L.isI p hp)⟩
 | none=>
  obtain ⟨q,hq⟩:∃q,ls.find? (fun (r:Addr×List Value×List Int)=>r.1 == p.1)=some q:=by
   cases e:ls.find? (fun (r:Addr×List Value×List Int)=>r.1 == p.1) with
   | some q=>exact ⟨q,rfl⟩
   | none=>exact absurd (List.find?_eq_none.mp e p hp) (by simp)
  have q1:q.1=p.1:=beq_iff_eq.mp (List.find?_some (p:=fun (r:Addr×List Value×List Int)=>r.1 == p.1) hq)
  have qm:=List.mem_of_find?_eq_some hq
  have e1:=L.at_ q qm
  rw [q1,L.at_ p hp] at e1
  have e2:p.2.1=q.2.1:=by
   have z:=Option.some.inj e1
   injection z with _ _ z _
   injection z with z _
   exact congrArg Array.toList z
  have e3:p.2.2=q.2.2:=ints_inj (L.isI p hp) (by rw [e2];exact L.isI q qm)
  refine .inl (.inr ⟨{cls:=.type "list",data:=.seq q.2.1.toArray},?_⟩)
  show (if (K.lookup p.1).isSome=true then none else (ls.find? fun r=>r.1 == p.1).map fun r=>HO.frz {cls:=.type "list",data:=.seq r.2.1.toArray} (.lst (r.2.2.map V.int)))=_
  rw [hk,if_neg (by simp),hq,e3]
  rfl
theorem reads_ints {R:PySem.W.WRecords} {cl:Str->Option Addr} {h:Heap}:∀{ns:List Int} {vs:List Value},Vals (ns.map V.int) vs->PySem.W.ReadsAllW R cl h vs (ns.map .int) []
 | [],_,r=>by cases r;exact .nil
 | n :: ns,_,r=>by
  cases r with
  | cons r1 r2=>
   obtain ⟨t,rfl⟩:=(show ∃t,_=Value.int n t from r1)
   exact .cons (as:=[]) (bs:=[]) (.int n t) (reads_ints r2)
end L2
namespace L2
open PySem PySem.Spec PyProof.Rows
def given2 (K:PySem.W.Frag) (ls:Lists) (tP:Addr):Hp:=fun b=>if b=tP then some (.tbl #[]) else given K ls b
theorem tab_mk {K:PySem.W.Frag} {x:Str} {f c P:Addr} {oc:Value} {od:Option Addr} {sl:Array (Option Value)} {fd:FuncData} {oc':Value} {od':Option Addr} {sl':Array (Option Value)} {vs:Array Value} (h1:PySem.W.nsIn K mainGlobals x=some (some (.ref f))) (h2:K.lookup f=some ⟨oc,od,.func fd,sl⟩) (h3:fd.code=.ref c) (h4:K.lookup c=some ⟨oc',od',.fields vs,sl'⟩)
  (h5:(vs[11]?:Option Value)=some (.ref P)):PySem.W.tabIn K x=some (c,P):=by
 unfold PySem.W.tabIn
 rw [h1]
 simp only
 rw [h2]
 simp only
 rw [h3]
 simp only
 rw [h4]
 simp only
 rw [h5]
theorem codeHd_of {K:PySem.W.Frag} {h h':Heap} {c P:Addr} {o:Obj} (C:PySem.W.CodeHd h c P) (X:K.In h) (lk:K.lookup c=some o) (X':K.In h'):PySem.W.CodeHd h' c P:=by
 obtain ⟨o',vs,file,tf,flags,tg,inF,text,tt,e,r⟩:=C
 have e2:=X c o lk
 rw [e] at e2
 cases e2
 exact ⟨_,vs,file,tf,flags,tg,inF,text,tt,X' c _ lk,r⟩
theorem spec_call2 {P:Program} {w:World} {K:PySem.W.Frag} {mg mb:Str->Option Value} {CX:CXT} {k:Nat} {fa tP:Addr} {fd:FuncData} {ps:List Str} {sp:Sp} {s₁:Shared} {vals:List Value} {xs:List V} {ls:Lists} {ans:List Int} {cl:Str->Option Addr}
  (KX:K.In s₁.heap) (hns:s₁.heap.Ns mainGlobals mg) (hb:s₁.heap.Ns builtinsNs mb) (hbb:∀x:Str,x≠"__name__"->mb x=bootBuiltins x) (hlim:s₁.heap.NoLimit) (hbm:BMod mg s₁.heap) (hg:s₁.gens=#[]) (hT:s₁.heap.get? tP=some (PySem.W.tabObj #[])) (hTc:isCodeTable s₁.heap tP) (hTK:K.lookup tP=none)
  (rv:Vals xs vals) (L:LiesAll s₁.heap ls) (hr:Room k callerA)
  (F:∀base:Heap,K.In base->base.Ns mainGlobals mg->BMod mg base->FnOk P w K mg base CX k fa fd ps sp) (hbind:Binds K fd ps []) (hlen:vals.length=ps.length)
  (hsp:∀H:Hp,(∀p∈ls,SqL K H p.1 (p.2.2.map V.int))->H tP=some (.tbl #[])->sp xs H (fun v H'=>∃l,v=.ref l/\H' l=some (.lst (ans.map V.int))) fun _ _ _=>False)
  (hCX:∀H e s',CX [] H s₁ (fun _ _ _=>False) e s'->False) :
  codeAny (model P w) callerA (.call (.ref fa) ⟨vals,[]⟩) (fun r s'=>∃u as,r=.ok (.ret u)/\PySem.W.ReadsW [] cl s'.heap u (.list (ans.map .int)) as/\PySem.OldK s₁.heap s'.heap/\s'.os=s₁.os/\AllBare s'.gens) s₁:=by
 have hlt:∀p∈ls,p.1≠tP:=fun p hp z=>by
  have:=L.at_ p hp
  rw [z,hT] at this
  cases this
 have g2:given2 K ls tP tP=some (.tbl #[]):=by unfold given2;rw [if_pos rfl]
 have gne:∀{b},b≠tP->given2 K ls tP b=given K ls b:=fun {b} h=>by unfold given2;rw [if_neg h]
 have hok:HOk P w (given2 K ls tP) s₁.heap:=fun b u e=>by
  by_cases hb:b=tP
  ·subst hb
   rw [g2] at e
   cases e
   exact hT
  ·rw [gne hb] at e
   obtain ⟨_,p,hp,rfl,rfl⟩:=given_some e
   exact ⟨L.at_ p hp,by rw [List.length_map];exact L.len p hp,p.2.1,_,vals_ints (L.isI p hp),L.at_ p hp⟩
 have noT:∀{b:Addr} {o:Obj},s₁.heap.get? b=some o->(∀ps n,o.data≠.seq ps n)->(∀ps,o.data≠.fields ps)->given2 K ls tP b=none:=fun {b o} e d1 d2=>by
  have hb:b≠tP:=fun z=>by rw [z,hT] at e;cases e;exact d2 _ rfl
  rw [gne hb]
  cases q:given K ls b with
  | none=>rfl
  | some u=>
   obtain ⟨_,p,hp,rfl,_⟩:=given_some q
   rw [L.at_ p hp] at e
   cases e
   exact absurd rfl (d1 _ _)
 have nsK:∀{b:Addr} {m:Str->Option Value},s₁.heap.Ns b m->(hidT s₁.heap (given2 K ls tP)).Ns b m:=fun {b m} ⟨o,es,ep,e,d,r⟩=>⟨o,es,ep,hidT_get e (noT e (fun _ _ z=>by rw [d] at z;cases z) fun _ z=>by rw [d] at z;cases z),d,r⟩
 have hKb:K.In (hidT s₁.heap (given2 K ls tP)):=fun b o e=>hidT_get (KX b o e) (by
  have hb:b≠tP:=fun z=>by rw [z,hTK] at e;cases e
  rw [gne hb]
  cases q:given K ls b with
  | none=>rfl
  | some u=>rw [(given_some q).1] at e;cases e)
 have hBb:BMod mg (hidT s₁.heap (given2 K ls tP)):=let ⟨bm,ob,b1,b2,b3,b4,b5,b6⟩:=hbm
  ⟨bm,ob,b1,b2,hidT_get b3 (noT b3 (fun _ _ z=>by rw [b6] at z;cases z) fun _ z=>by rw [b6] at z;cases z),b4,b5,b6⟩
 have hM:Mod K mg (hidT s₁.heap (given2 K ls tP)):=⟨hKb,nsK hns,⟨mb,nsK hb,hbb⟩,let ⟨mc,h1,h2⟩:=hlim;⟨mc,nsK h1,h2⟩⟩
 have e0:Env0 P w K mg (hidT s₁.heap (given2 K ls tP)) callerA [] s₁ (given2 K ls tP):=⟨rfl,hM,fun b o e=>of_hidT e,Nat.le_of_eq (hidT_size _ _),trivial,fun b hb=>absurd (show b∈([]:List Addr) from hb) (by simp),hok,.of_eq hg⟩
 have hb':=hbind s₁ vals KX (by rw [List.append_nil];exact hlen)
 rw [List.append_nil] at hb'
 have hls:∀p∈ls,SqL K (given2 K ls tP) p.1 (p.2.2.map V.int):=fun p hp=>by
  rcases given_list (K:=K) KX L hp with (z | ⟨o,z⟩) | z
  ·exact .inl (.inl (by rw [gne (hlt p hp)];exact z))
  ·exact .inl (.inr ⟨o,by rw [gne (hlt p hp)];exact z⟩)
  ·exact .inr z
 refine codeAny_mono ((F _ hKb (nsK hns) hBb).run callerA [] s₁ (given2 K ls tP) ⟨vals,[]⟩ vals xs _ _ hr e0 hb' rv (hsp _ hls g2)) fun r s' h=>?_
 cases r with
 | error e=>exact (hCX _ e s' h).elim
 | ok fl=>
  cases fl with
  | next=>exact False.elim h
  | brk=>exact False.elim h
  | cont=>exact False.elim h
  | ret u=>
   obtain ⟨v,H',os,bare,un,hok',r',l,rfl,hl⟩:=h
   obtain rfl:u=Value.ref l:=r'
   obtain ⟨z,its,n,ri,eo⟩:=(show ObjOk P w H' s'.heap l (.lst (ans.map V.int)) from hok' l _ hl)
   obtain ⟨more,hm⟩:=un.tbls tP #[] g2
   have hT':s'.heap.get? tP=some (PySem.W.tabObj (#[] ++ more)):=hok' tP _ hm
   have kp:∀b o,b≠tP->s₁.heap.get? b=some o->s'.heap.get? b=some o:=fun b o hb e=>by
    cases q:given K ls b with
    | none=>exact un.keep b o e (by rw [gne hb];exact q) (by intro z;exact absurd (show b∈([]:List Addr) from z) (by simp)) (by simp)
    | some u=>
     obtain ⟨_,p,hp,rfl,rfl⟩:=given_some q
     obtain ⟨e2,_⟩:=(show ObjOk P w H' s'.heap _ (.frz {cls:=.type "list",data:=.seq p.2.1.toArray} (.lst (p.2.2.map V.int))) from hok' _ _ (un.frzs _ _ _ (by rw [gne hb];exact q)))
     rw [L.at_ p hp] at e
     cases e
     exact e2
   refine ⟨_,_,rfl,.list eo rfl rfl (reads_ints (by simpa using ri)),⟨fun b o e=>?_,fun b o e=>?_⟩,os,bare⟩
   ·by_cases hb:b=tP
    ·subst hb
     rw [hT] at e
     cases e
     exact .inr (.inl ⟨hTc,rfl,#[],more,rfl,hT'⟩)
    ·exact .inl (kp b o hb e)
   ·by_cases hb:b=tP
    ·subst hb
     exact ⟨_,hT'⟩
    ·exact ⟨o,kp b o hb e⟩
theorem spec_walk2 {r:PySem.W.OpenSpec} {k:Nat} {q:Program} {loose:List Str} {XP:(Str->Option Value)->Heap->Prop} {YP:World->Heap->Prop} {d dx:DefRec} {x:Str} {K:Params->PySem.W.Frag} {CX:World->PySem.W.Frag->CXT} {sp:Addr->Addr->Addr->Addr->Addr->PySem.W.Frag->Sp} {ps:List Str}
  (hr:Room k callerA) (hY:∀(w:World) (h:Heap),YP w h->(K w.params).In h) (hx:(recsOf q).find? (fun e=>e.name == x)=some dx)
  (F:∀(w:World) (mg:Str->Option Value) (fa:Addr) (h:Heap),(K w.params).In h->h.Ns mainGlobals mg->mg d.name=some (.ref fa)->(∀c P,PySem.W.tabIn (K w.params) x=some (c,P)->PySem.W.CodeHd h c P)->
   ∃(c tP a1 a2 a3 a4:Addr) (fd:FuncData),PySem.W.tabIn (K w.params) x=some (c,tP)/\(K w.params).lookup tP=none/\Binds (K w.params) fd ps []/\∀base:Heap,(K w.params).In base->base.Ns mainGlobals mg->BMod mg base->FnOk r.prog w (K w.params) mg base (CX w (K w.params)) k fa fd ps (sp a1 a2 a3 a4 tP (K w.params)))
  (hargs:∀(a1 a2 a3 a4 tP:Addr) (K:PySem.W.Frag) (w:World) (h:Heap) (args:List PySem.W.WData) (vals:List Value),r.pre args=true->PySem.W.WellAll w.params h vals args->
   ∃(xs:List V) (ls:Lists) (ans:List Int),Vals xs vals/\LiesAll h ls/\vals.length=ps.length/\r.post args (.list (ans.map .int))=true/\
    ∀H:Hp,(∀p∈ls,SqL K H p.1 (p.2.2.map V.int))->H tP=some (.tbl #[])->sp a1 a2 a3 a4 tP K xs H (fun v H'=>∃l,v=.ref l/\H' l=some (.lst (ans.map V.int))) fun _ _ _=>False)
  (hCX:∀(w:World) (K:PySem.W.Frag) (H:Hp) (s:Shared) (e:Value) (s':Shared),CX w K [] H s (fun _ _ _=>False) e s'->False) :
  PySem.W.WalkOS q loose XP YP r d [] (fun f vs=>PySem.call f vs):=by
 intro w s₀ s₁ mg mb G Y fa o pm cd doc dV kV ho hd hcd hD hmg hg args vals as hpre hlay hrd hwl hlo
 have KX:=hY w _ Y
 obtain ⟨c,tP,a1,a2,a3,a4,fd,ht,hTK,hb,hF⟩:=F w mg fa _ KX G.T.g hmg fun c P ht=>(PySem.W.tab_of G.T KX hx ht).1
 obtain ⟨hC,hT⟩:=PySem.W.tab_of G.T KX hx ht
 obtain ⟨xs,ls,ans,rv,L,hl,hpost,hsp⟩:=hargs a1 a2 a3 a4 tP (K w.params) w s₁.heap args vals hpre hwl
 refine PySem.W.enter_call (codeAny_mono (spec_call2 (cl:=PySem.classAt s₀.heap) KX G.T.g G.T.b G.T.builtins G.T.nolimit G.T.bmain hg hT (hC.tab hT).isCodeTable hTK rv L hr hF hb hl hsp fun H e s'=>hCX w _ H s₁ e s') fun res s' hq=>?_)
 obtain ⟨u,as',rfl,h1,h2,h3,h4⟩:=hq
 exact ⟨.inl ⟨u,_,as',rfl,fun _=>rfl,h1,hpost,fun z=>absurd z Bool.false_ne_true⟩,h2,h3,h4⟩
end L2
namespace Go
open PySem PySem.Spec PyProof.Rows L2
theorem well_ints {P:Params} {h:Heap}:∀{ns:List Int} {vs:List Value},PySem.W.WellAll P h vs (ns.map .int)->IntsAre vs ns
 | [],_,x=>by cases x;exact .nil
 | n :: ns,_,x=>by
  cases x with
  | cons x1 x2=>
   cases x1 with
   | int i t=>exact .cons n t (well_ints x2)
theorem well_list {P:Params} {h:Heap} {ns:List Int} {v:Value} (x:PySem.W.Well P h v (.list (ns.map .int))):∃a vs,v=.ref a/\h.get? a=some {cls:=.type "list",data:=.seq vs.toArray}/\IntsAre vs ns:=by
 generalize e:PySem.W.WData.list (ns.map .int)=d at x
 cases x with
 | list h1 h2=>
  injection e with e
  subst e
  exact ⟨_,_,rfl,h1,well_ints h2⟩
 | _=>cases e
theorem in_ints {least most:Nat} {lo hi:Int} {ns:List Int} (h:(PySem.W.Codec.list least most (.int lo hi)).within ns=true):ns.length<=most/\∀z∈ns,lo<=z/\z<=hi:=by
 obtain ⟨h1,h2⟩:=PySem.W.Codec.and_of h
 refine ⟨(PySem.W.Codec.inNat_iff.mp h1).2,fun z hz=>?_⟩
 exact PySem.W.Codec.inInt_iff.mp (List.all_eq_true.mp h2 z hz)
end Go
namespace GM
open Ql89
end GM
namespace GM
open Ql89
end GM
namespace GM
open Ql89
end GM
namespace GM
open Ql89
end GM
namespace GM
open Ql89
end GM
namespace GM
open Ql89
end GM
namespace GM
open Ql89
end GM
namespace GM
open Ql89
end GM
namespace GM
open Ql89
end GM
-- names taken so that the head lays no twins of them: the olean would pass 64 MB
inductive PySem.W.Fast|tw10540512093145049203|tw8526948400682075833|tw16962734848913905833|tw8428223904131737366|tw18140059449269978878|tw2869045236220285479|tw1658476430239529086|tw13488374752853519286|tw16709572497288469201|tw4304691842490519640|tw11156134163992934910|tw1897475716727893679|tw17819847082089296971|tw15772507822621817293|tw4931540128059364949|tw14801553964956328036|tw14312333033246356039|tw9805826596704524682|tw7837271594536807512|tw9994838542500982483|tw12279314478591107386|tw13627620299438629765|tw4392568608887873756|tw1969280824989494185|tw5466017080638839599|tw2159445078628975175|tw543782623545466162|tw12449194836877009740|tw1247803988212537839|tw18355016830279863746|tw7070782313101844088|tw13583606970810810169|tw1833690491046679858|tw13115714578527437588|tw16177218261321514294|tw7389496245267823509|tw1617158967363328630|tw4533677575925873525|tw741526031605016843|tw9617408252093924639|tw15375084297852168070|tw6174996481256688564|tw15603856597714073054|tw2524161864723854936|tw11482365628004280236|tw10474297252483904289|tw13356669370586029993|tw575639326635582585|tw4514492008505090751|tw13281370627251582557|tw4837196137727159771|tw17054615918135833692|tw15806776810441432553|tw11414904705874381527|tw11442821256720354001|tw7868941481678797185|tw286884900697242976|tw16570293267912396169|tw3211256794415877964|tw16740516410975806135|tw13565908752970823267|tw14674743294930474666|tw2776796120000437273|tw13909878044281011720|tw3615191863645925564|tw7838623440286264988|tw2077460479778219877|tw13326886460183398859|tw6068397270227364|tw13131359926093397524|tw4863768619710495265|tw11054046537525759540|tw17470518802009674313|tw14333749795965732783|tw9760734253122448409|tw9320537107491910472|tw9952399016962731229|tw11157015747048513525|tw6066266691641279572|tw5967654280090483672|tw1188631075851115749|tw12725380011247071008|tw3104294143071805136|tw7143639310784827903|tw8566183384278766907|tw12117613867862236028|tw17822217150402891944|tw17106095995622565218|tw14141427520892336730|tw12794937964380237850|tw10291943212690743885|tw13806334697703633660|tw14667813722922385659|tw6954072946575828620|tw2940501132261107279|tw16746758820078195930|tw12948081919773213908|tw1695486271563073201|tw6247790198017558916|tw8965006485329823052|tw3414482063386658794|tw2786139886307909084|tw14734825694931489929|tw15264335691172687865|tw14002054547282932555|tw259635512397268512|tw13670142849449363914|tw12707134975759542382|tw6784616706921631849|tw7684902105398113076|tw17905762684932159451|tw11059053489535445110|tw4784791733533967625|tw4598135355285251689|tw4589168387264014916|tw8234801488319097393|tw8217090113018193373|tw16154341551490918592|tw3250270014642496261|tw10190221365950437823|tw6245231806289896647|tw13323647366434547141|tw5382751982508308885|tw9962916711779231045|tw6305157913670258239|tw8959144446300800138|tw15491220858682247245|tw10996612193891955870|tw7286825593608320601|tw3979947701592721430|tw17375894008955879546|tw10542454463550268384|tw9407583410559409056|tw14473003701954188320|tw10351984493669603189|tw10584765319799922698|tw11616660424365026882|tw5768321779865702224|tw1899311769475044521|tw18348316567186114507|tw7417606289586515783|tw725059225843426385|tw14410901284151066857|tw15294887797410921744|tw9750082958424764117|tw1307700984052187033|tw11362234755124067508|tw10306421081616839218|tw822529130142068893|tw12779945065189261960|tw15692854523063249972|tw15315973880061436887|tw7768156895085991976|tw1243858640738146372|tw9393295141067326569|tw4789990331822773639|tw3294901261652640772|tw2586329680291609667|tw16727400805168940965|tw7699825946023873499|tw7976326206853209118|tw5499847563148590172|tw17050684591830468671|tw7625590726373174487|tw8791400539559736870|tw3497523516379533107|tw4545115120100885260|tw10980689814320372942|tw2763500100032516290|tw9022893412058501108|tw17038048947486666644|tw663696183591624525|tw13826039785413893637|tw13448475012381829054|tw3199812038212770491|tw16789619551683763911|tw4614299034049327830|tw14246648436761224958|tw66456355631444369|tw2559526241382480042|tw11927159907086613326|tw6007688353538436074|tw10529732346981021932
namespace Go
open PySem L2
theorem all_mk {P:Program} {w:World} {K:W.Frag} {h:Heap} {mg:Str->Option Value} {fa C CR CM CN CL CK CS fF fRI fU fS fUW fNF fO fW fMI fSh fM fL fB fE fSW fNI fLI fTLn fMK fHD fFAl fGA fSC fSL fNe fHe fRo fLS fWe fFA fWS fMx fJo fLv fTh fPd fLB fEn fPH fPI fPW fWC fCh fCE fON fKI fKP fKO fSI fBE fFE fFO fTE fGN fWR fSC2 fCO fTK fQ:Addr} (X:K.In h) (G:h.Ns mainGlobals mg)
  {xnm xq:Str} {xN:Addr} {xbs:List Value} {xsn:List Str} {xsub:List Value} {xab:Bool} {xcol:Option Bool} {xdd:Option Addr} {xk0 xk1 xk2 xk3 xk5:Option Value}
  {odF anF odRI anRI odU anU odS anS odUW anUW odNF anNF odO anO odW anW odMI anMI odSh anSh odM anM odL anL odB anB odE anE odSW anSW odNI anNI odLI anLI odTLn anTLn odMK anMK odHD anHD odFAl anFAl odGA anGA odSC anSC odSL anSL odNe anNe odHe anHe odRo anRo odLS anLS odWe anWe odFA anFA odWS anWS odMx anMx odJo anJo odLv anLv odTh anTh odPd anPd odLB anLB odEn anEn odPH anPH odPI anPI odPW anPW odWC anWC odCh anCh odCE anCE odON anON odKI anKI odKP anKP odKO anKO odSI anSI odBE anBE odFE anFE odFO anFO odTE anTE odGN anGN odWR anWR odSC2 anSC2 odCO anCO odTK anTK odQ anQ:Option Addr} {slF slRI slU slS slUW slNF slO slW slMI slSh slM slL slB slE slSW slNI slLI slTLn slMK slHD slFAl slGA slSC slSL slNe slHe slRo slLS slWe slFA slWS slMx slJo slLv slTh slPd slLB slEn slPH slPI slPW slWC slCh slCE slON slKI slKP slKO slSI slBE slFE slFO slTE slGN slWR slSC2 slCO slTK slQ:Array (Option Value)} {ocF kVF dcF pmF cdF ctF ocRI kVRI dcRI pmRI cdRI ctRI ocU kVU dcU pmU cdU ctU ocS kVS dcS pmS cdS ctS ocUW kVUW dcUW pmUW cdUW ctUW ocNF kVNF dcNF pmNF cdNF ctNF ocO kVO dcO pmO cdO ctO ocW kVW dcW pmW cdW ctW ocMI kVMI dcMI pmMI cdMI ctMI ocSh kVSh dcSh pmSh cdSh ctSh ocM kVM dcM pmM cdM ctM ocL kVL dcL pmL cdL ctL ocB kVB dcB pmB cdB ctB ocE kVE dcE pmE cdE ctE ocSW kVSW dcSW pmSW cdSW ctSW ocNI kVNI dcNI pmNI cdNI ctNI ocLI kVLI dcLI pmLI cdLI ctLI ocTLn kVTLn dcTLn pmTLn cdTLn ctTLn ocMK kVMK dcMK pmMK cdMK ctMK ocHD kVHD dcHD pmHD cdHD ctHD ocFAl kVFAl dcFAl pmFAl cdFAl ctFAl ocGA kVGA dcGA pmGA cdGA ctGA ocSC kVSC dcSC pmSC cdSC ctSC ocSL kVSL dcSL pmSL cdSL ctSL ocNe kVNe dcNe pmNe cdNe ctNe ocHe kVHe dcHe pmHe cdHe ctHe ocRo kVRo dcRo pmRo cdRo ctRo ocLS kVLS dcLS pmLS cdLS ctLS ocWe kVWe dcWe pmWe cdWe ctWe ocFA kVFA dcFA pmFA cdFA ctFA ocWS kVWS dcWS pmWS cdWS ctWS ocMx kVMx dcMx pmMx cdMx ctMx ocJo kVJo dcJo pmJo cdJo ctJo ocLv kVLv dcLv pmLv cdLv ctLv ocTh kVTh dcTh pmTh cdTh ctTh ocPd kVPd dcPd pmPd cdPd ctPd ocLB kVLB dcLB pmLB cdLB ctLB ocEn kVEn dcEn pmEn cdEn ctEn ocPH kVPH dcPH pmPH cdPH ctPH ocPI kVPI dcPI pmPI cdPI ctPI ocPW kVPW dcPW pmPW cdPW ctPW ocWC kVWC dcWC pmWC cdWC ctWC ocCh kVCh dcCh pmCh ctCh ocCE kVCE dcCE pmCE cdCE ctCE ocON kVON dcON pmON cdON ctON ocKI kVKI dcKI pmKI cdKI ctKI ocKP kVKP dcKP pmKP cdKP ctKP ocKO kVKO dcKO pmKO cdKO ctKO ocSI kVSI dcSI pmSI cdSI ctSI ocBE kVBE dcBE pmBE cdBE ctBE ocFE kVFE dcFE pmFE cdFE ctFE ocFO kVFO dcFO pmFO cdFO ctFO ocTE kVTE dcTE pmTE cdTE ctTE ocGN kVGN dcGN pmGN cdGN ctGN ocWR kVWR dcWR pmWR cdWR ctWR ocSC2 kVSC2 dcSC2 pmSC2 cdSC2 ctSC2 ocCO kVCO dcCO pmCO cdCO ctCO ocTK kVTK dcTK pmTK cdTK ctTK ocQ kVQ dcQ pmQ cdQ ctQ:Value}
  {t_MOST_ROWS t_MOST_COLUMNS t_MOST_PLACES t_BLOCK t_MOST_NET_BYTES t_TABLE_SIZE t_MOST_ADDED t_MOST_MULTIPLIED t_MOST_LEANING t_MOST_SHIFT t_MOST_FALL_SHIFT t_BYTE_TOP t_WORD_TOP t_MOST_AT_ONCE t_SEED_FACTOR t_SEED_STEP t_SEED_COUNT t_BEGIN t_FEED t_FORGET t_TELL t_GO_ON:Tok}
  {mMark:Addr} {odMark:Option Addr} {nMark:Nat} {slMark:Array (Option Value)} {tM1 tM2 tM3 tM4:Tok} {mPl:Addr} {odPl:Option Addr} {nPl:Nat} {slPl:Array (Option Value)} {tq1 tq2 tq3 tq4:Tok} {tC tP:Addr} {ocT:Value} {odT:Option Addr} {vsT:Array Value} {slT:Array (Option Value)}
  (gC:W.nsIn K mainGlobals "Fault" = some (some (.ref C)))
  (xo:K.lookup C=some (excClassObj xnm xq C xN xbs bmE true xsn xsub xab xcol xdd xk0 xk1 xk2 xk3 xk5 "Exception.__new__"))
  (xn:W.nsOkIn K xN=true)
  (xi:W.nsIn K xN "__init__" = some (some (.ref fF)))
  (xa0:W.nsIn K xN "__setattr__" = some none)
  (xa1:W.nsIn K xN "__getattribute__" = some none)
  (xa2:W.nsIn K xN "__getattr__" = some none)
  (xa3:W.nsIn K xN "place" = some none)
  (xa4:W.nsIn K xN "kind" = some none)
  (iF:W.isFn K (.ref fF)=true)
  (lF:K.lookup fF=some ⟨ocF,odF,.func (W.fnOf "__init__" "Fault.__init__" (defArgs sFI) (defBody sFI) (defScope sFI) .none kVF dcF pmF anF cdF ctF),slF⟩)
  (cF:W.codeIn K cdF "Fault.__init__" = true)
  (kF:W.keepIn K (.ref fF)=true)
  (kcC:W.keepIn K (.ref C)=true)
  (xe:W.exmOne K (.ref C) (.ref C)=some true)
  (gCR:W.nsIn K mainGlobals "Reader" = some (some (.ref CR)))
  (pgCR:W.plainGet K CR Str.empty=true)
  (hdCR:W.hasDictIn K CR=true)
  (poCR:W.plainOver K CR=true)
  (saCR:W.findIn K (.ref CR) "__setattr__" = some (some (.builtin "object.__setattr__")))
  (mkCR:W.makesIn K CR=true)
  (kcCR:W.keepIn K (.ref CR)=true)
  (nCR0:W.findIn K (.ref CR) "data" = some none)
  (nCR1:W.findIn K (.ref CR) "at" = some none)
  (aRI:W.findIn K (.ref CR) "__init__" = some (some (.ref fRI)))
  (iRI:W.isFn K (.ref fRI)=true)
  (lRI:K.lookup fRI=some ⟨ocRI,odRI,.func (W.fnOf "__init__" "Reader.__init__" (defArgs sRI) (defBody sRI) (defScope sRI) .none kVRI dcRI pmRI anRI cdRI ctRI),slRI⟩)
  (cRI:W.codeIn K cdRI "Reader.__init__" = true)
  (kRI:W.keepIn K (.ref fRI)=true)
  (aU:W.findIn K (.ref CR) "unsigned" = some (some (.ref fU)))
  (iU:W.isFn K (.ref fU)=true)
  (lU:K.lookup fU=some ⟨ocU,odU,.func (W.fnOf "unsigned" "Reader.unsigned" (defArgs sU) (defBody sU) (defScope sU) .none kVU dcU pmU anU cdU ctU),slU⟩)
  (cU:W.codeIn K cdU "Reader.unsigned" = true)
  (kU:W.keepIn K (.ref fU)=true)
  (aS:W.findIn K (.ref CR) "signed" = some (some (.ref fS)))
  (iS:W.isFn K (.ref fS)=true)
  (lS:K.lookup fS=some ⟨ocS,odS,.func (W.fnOf "signed" "Reader.signed" (defArgs sS) (defBody sS) (defScope sS) .none kVS dcS pmS anS cdS ctS),slS⟩)
  (cS:W.codeIn K cdS "Reader.signed" = true)
  (kS:W.keepIn K (.ref fS)=true)
  (aUW:W.findIn K (.ref CR) "unsigned_within" = some (some (.ref fUW)))
  (iUW:W.isFn K (.ref fUW)=true)
  (lUW:K.lookup fUW=some ⟨ocUW,odUW,.func (W.fnOf "unsigned_within" "Reader.unsigned_within" (defArgs sUW) (defBody sUW) (defScope sUW) .none kVUW dcUW pmUW anUW cdUW ctUW),slUW⟩)
  (cUW:W.codeIn K cdUW "Reader.unsigned_within" = true)
  (kUW:W.keepIn K (.ref fUW)=true)
  (aNF:W.findIn K (.ref CR) "nothing_follows" = some (some (.ref fNF)))
  (iNF:W.isFn K (.ref fNF)=true)
  (lNF:K.lookup fNF=some ⟨ocNF,odNF,.func (W.fnOf "nothing_follows" "Reader.nothing_follows" (defArgs sNF) (defBody sNF) (defScope sNF) .none kVNF dcNF pmNF anNF cdNF ctNF),slNF⟩)
  (cNF:W.codeIn K cdNF "Reader.nothing_follows" = true)
  (kNF:W.keepIn K (.ref fNF)=true)
  (aO:W.nsIn K mainGlobals "outside" = some (some (.ref fO)))
  (lO:K.lookup fO=some ⟨ocO,odO,.func (W.fnOf "outside" "outside" (defArgs sOut) (defBody sOut) (defScope sOut) .none kVO dcO pmO anO cdO ctO),slO⟩)
  (cO:W.codeIn K cdO "outside" = true)
  (kO:W.keepIn K (.ref fO)=true)
  (aW:W.nsIn K mainGlobals "within" = some (some (.ref fW)))
  (lW:K.lookup fW=some ⟨ocW,odW,.func (W.fnOf "within" "within" (defArgs sW) (defBody sW) (defScope sW) .none kVW dcW pmW anW cdW ctW),slW⟩)
  (cW:W.codeIn K cdW "within" = true)
  (kW:W.keepIn K (.ref fW)=true)
  (gCM:W.nsIn K mainGlobals "Matrix" = some (some (.ref CM)))
  (pgCM:W.plainGet K CM Str.empty=true)
  (hdCM:W.hasDictIn K CM=true)
  (poCM:W.plainOver K CM=true)
  (saCM:W.findIn K (.ref CM) "__setattr__" = some (some (.builtin "object.__setattr__")))
  (mkCM:W.makesIn K CM=true)
  (kcCM:W.keepIn K (.ref CM)=true)
  (nCM0:W.findIn K (.ref CM) "rows" = some none)
  (nCM1:W.findIn K (.ref CM) "columns" = some none)
  (nCM2:W.findIn K (.ref CM) "lines" = some none)
  (aMI:W.findIn K (.ref CM) "__init__" = some (some (.ref fMI)))
  (iMI:W.isFn K (.ref fMI)=true)
  (lMI:K.lookup fMI=some ⟨ocMI,odMI,.func (W.fnOf "__init__" "Matrix.__init__" (defArgs sMI) (defBody sMI) (defScope sMI) .none kVMI dcMI pmMI anMI cdMI ctMI),slMI⟩)
  (cMI:W.codeIn K cdMI "Matrix.__init__" = true)
  (kMI:W.keepIn K (.ref fMI)=true)
  (aSh:W.nsIn K mainGlobals "shape_fits" = some (some (.ref fSh)))
  (lSh:K.lookup fSh=some ⟨ocSh,odSh,.func (W.fnOf "shape_fits" "shape_fits" (defArgs sShape) (defBody sShape) (defScope sShape) .none kVSh dcSh pmSh anSh cdSh ctSh),slSh⟩)
  (cSh:W.codeIn K cdSh "shape_fits" = true)
  (kSh:W.keepIn K (.ref fSh)=true)
  (aM:W.nsIn K mainGlobals "read_matrix" = some (some (.ref fM)))
  (lM:K.lookup fM=some ⟨ocM,odM,.func (W.fnOf "read_matrix" "read_matrix" (defArgs sRM) (defBody sRM) (defScope sRM) .none kVM dcM pmM anM cdM ctM),slM⟩)
  (cM:W.codeIn K cdM "read_matrix" = true)
  (kM:W.keepIn K (.ref fM)=true)
  (aL:W.nsIn K mainGlobals "read_line" = some (some (.ref fL)))
  (lL:K.lookup fL=some ⟨ocL,odL,.func (W.fnOf "read_line" "read_line" (defArgs sRL) (defBody sRL) (defScope sRL) .none kVL dcL pmL anL cdL ctL),slL⟩)
  (cL:W.codeIn K cdL "read_line" = true)
  (kL:W.keepIn K (.ref fL)=true)
  (aB:W.nsIn K mainGlobals "read_block" = some (some (.ref fB)))
  (lB:K.lookup fB=some ⟨ocB,odB,.func (W.fnOf "read_block" "read_block" (defArgs sRB) (defBody sRB) (defScope sRB) .none kVB dcB pmB anB cdB ctB),slB⟩)
  (cB:W.codeIn K cdB "read_block" = true)
  (kB:W.keepIn K (.ref fB)=true)
  (aE:W.nsIn K mainGlobals "read_entry" = some (some (.ref fE)))
  (lE:K.lookup fE=some ⟨ocE,odE,.func (W.fnOf "read_entry" "read_entry" (defArgs sRE) (defBody sRE) (defScope sRE) .none kVE dcE pmE anE cdE ctE),slE⟩)
  (cE:W.codeIn K cdE "read_entry" = true)
  (kE:W.keepIn K (.ref fE)=true)
  (aSW:W.findIn K (.ref CR) "signed_within" = some (some (.ref fSW)))
  (iSW:W.isFn K (.ref fSW)=true)
  (lSW:K.lookup fSW=some ⟨ocSW,odSW,.func (W.fnOf "signed_within" "Reader.signed_within" (defArgs sSW) (defBody sSW) (defScope sSW) .none kVSW dcSW pmSW anSW cdSW ctSW),slSW⟩)
  (cSW:W.codeIn K cdSW "Reader.signed_within" = true)
  (kSW:W.keepIn K (.ref fSW)=true)
  (gCN:W.nsIn K mainGlobals "Net" = some (some (.ref CN)))
  (pgCN:W.plainGet K CN Str.empty=true)
  (hdCN:W.hasDictIn K CN=true)
  (poCN:W.plainOver K CN=true)
  (saCN:W.findIn K (.ref CN) "__setattr__" = some (some (.builtin "object.__setattr__")))
  (mkCN:W.makesIn K CN=true)
  (kcCN:W.keepIn K (.ref CN)=true)
  (nCN0:W.findIn K (.ref CN) "words" = some none)
  (nCN1:W.findIn K (.ref CN) "width" = some none)
  (nCN2:W.findIn K (.ref CN) "heads" = some none)
  (nCN3:W.findIn K (.ref CN) "inner" = some none)
  (nCN4:W.findIn K (.ref CN) "places" = some none)
  (nCN5:W.findIn K (.ref CN) "word_power" = some none)
  (nCN6:W.findIn K (.ref CN) "place_power" = some none)
  (nCN7:W.findIn K (.ref CN) "falling" = some none)
  (nCN8:W.findIn K (.ref CN) "bend" = some none)
  (nCN9:W.findIn K (.ref CN) "word_lines" = some none)
  (nCN10:W.findIn K (.ref CN) "place_lines" = some none)
  (nCN11:W.findIn K (.ref CN) "layers" = some none)
  (nCN12:W.findIn K (.ref CN) "last_gains" = some none)
  (nCN13:W.findIn K (.ref CN) "leanings" = some none)
  (nCN14:W.findIn K (.ref CN) "fall_shift" = some none)
  (gCL:W.nsIn K mainGlobals "Layer" = some (some (.ref CL)))
  (pgCL:W.plainGet K CL Str.empty=true)
  (hdCL:W.hasDictIn K CL=true)
  (poCL:W.plainOver K CL=true)
  (saCL:W.findIn K (.ref CL) "__setattr__" = some (some (.builtin "object.__setattr__")))
  (mkCL:W.makesIn K CL=true)
  (kcCL:W.keepIn K (.ref CL)=true)
  (nCL0:W.findIn K (.ref CL) "first_gains" = some none)
  (nCL1:W.findIn K (.ref CL) "query" = some none)
  (nCL2:W.findIn K (.ref CL) "key" = some none)
  (nCL3:W.findIn K (.ref CL) "value" = some none)
  (nCL4:W.findIn K (.ref CL) "fall_shift" = some none)
  (nCL5:W.findIn K (.ref CL) "out" = some none)
  (nCL6:W.findIn K (.ref CL) "second_gains" = some none)
  (nCL7:W.findIn K (.ref CL) "up" = some none)
  (nCL8:W.findIn K (.ref CL) "down" = some none)
  (aNI:W.findIn K (.ref CN) "__init__" = some (some (.ref fNI)))
  (iNI:W.isFn K (.ref fNI)=true)
  (lNI:K.lookup fNI=some ⟨ocNI,odNI,.func (W.fnOf "__init__" "Net.__init__" (defArgs sNI) (defBody sNI) (defScope sNI) .none kVNI dcNI pmNI anNI cdNI ctNI),slNI⟩)
  (cNI:W.codeIn K cdNI "Net.__init__" = true)
  (kNI:W.keepIn K (.ref fNI)=true)
  (aLI:W.findIn K (.ref CL) "__init__" = some (some (.ref fLI)))
  (iLI:W.isFn K (.ref fLI)=true)
  (lLI:K.lookup fLI=some ⟨ocLI,odLI,.func (W.fnOf "__init__" "Layer.__init__" (defArgs sLI) (defBody sLI) (defScope sLI) .none kVLI dcLI pmLI anLI cdLI ctLI),slLI⟩)
  (cLI:W.codeIn K cdLI "Layer.__init__" = true)
  (kLI:W.keepIn K (.ref fLI)=true)
  (aTLn:W.nsIn K mainGlobals "read_told_lines" = some (some (.ref fTLn)))
  (lTLn:K.lookup fTLn=some ⟨ocTLn,odTLn,.func (W.fnOf "read_told_lines" "read_told_lines" (defArgs sTL) (defBody sTL) (defScope sTL) .none kVTLn dcTLn pmTLn anTLn cdTLn ctTLn),slTLn⟩)
  (cTLn:W.codeIn K cdTLn "read_told_lines" = true)
  (kTLn:W.keepIn K (.ref fTLn)=true)
  (aMK:W.nsIn K mainGlobals "read_mark" = some (some (.ref fMK)))
  (lMK:K.lookup fMK=some ⟨ocMK,odMK,.func (W.fnOf "read_mark" "read_mark" (defArgs sMark) (defBody sMark) (defScope sMark) .none kVMK dcMK pmMK anMK cdMK ctMK),slMK⟩)
  (cMK:W.codeIn K cdMK "read_mark" = true)
  (kMK:W.keepIn K (.ref fMK)=true)
  (aHD:W.nsIn K mainGlobals "read_heads" = some (some (.ref fHD)))
  (lHD:K.lookup fHD=some ⟨ocHD,odHD,.func (W.fnOf "read_heads" "read_heads" (defArgs sHeads) (defBody sHeads) (defScope sHeads) .none kVHD dcHD pmHD anHD cdHD ctHD),slHD⟩)
  (cHD:W.codeIn K cdHD "read_heads" = true)
  (kHD:W.keepIn K (.ref fHD)=true)
  (aFAl:W.nsIn K mainGlobals "read_falling" = some (some (.ref fFAl)))
  (lFAl:K.lookup fFAl=some ⟨ocFAl,odFAl,.func (W.fnOf "read_falling" "read_falling" (defArgs sFal) (defBody sFal) (defScope sFal) .none kVFAl dcFAl pmFAl anFAl cdFAl ctFAl),slFAl⟩)
  (cFAl:W.codeIn K cdFAl "read_falling" = true)
  (kFAl:W.keepIn K (.ref fFAl)=true)
  (aGA:W.nsIn K mainGlobals "read_gains" = some (some (.ref fGA)))
  (lGA:K.lookup fGA=some ⟨ocGA,odGA,.func (W.fnOf "read_gains" "read_gains" (defArgs sGains) (defBody sGains) (defScope sGains) .none kVGA dcGA pmGA anGA cdGA ctGA),slGA⟩)
  (cGA:W.codeIn K cdGA "read_gains" = true)
  (kGA:W.keepIn K (.ref fGA)=true)
  (aSC:W.nsIn K mainGlobals "read_scaled" = some (some (.ref fSC)))
  (lSC:K.lookup fSC=some ⟨ocSC,odSC,.func (W.fnOf "read_scaled" "read_scaled" (defArgs sScaled) (defBody sScaled) (defScope sScaled) .none kVSC dcSC pmSC anSC cdSC ctSC),slSC⟩)
  (cSC:W.codeIn K cdSC "read_scaled" = true)
  (kSC:W.keepIn K (.ref fSC)=true)
  (aSL:W.nsIn K mainGlobals "read_scale" = some (some (.ref fSL)))
  (lSL:K.lookup fSL=some ⟨ocSL,odSL,.func (W.fnOf "read_scale" "read_scale" (defArgs sScale) (defBody sScale) (defScope sScale) .none kVSL dcSL pmSL anSL cdSL ctSL),slSL⟩)
  (cSL:W.codeIn K cdSL "read_scale" = true)
  (kSL:W.keepIn K (.ref fSL)=true)
  (aMM:W.nsIn K mainGlobals "MARK" = some (some (.ref mMark)))
  (lMM:K.lookup mMark=some ⟨.type "tuple",odMark,.seq #[.int 71 tM1,.int 79 tM2,.int 78 tM3,.int 49 tM4] nMark,slMark⟩)
  (gCK:W.nsIn K mainGlobals "Kept" = some (some (.ref CK)))
  (pgCK:W.plainGet K CK Str.empty=true)
  (hdCK:W.hasDictIn K CK=true)
  (poCK:W.plainOver K CK=true)
  (saCK:W.findIn K (.ref CK) "__setattr__" = some (some (.builtin "object.__setattr__")))
  (mkCK:W.makesIn K CK=true)
  (kcCK:W.keepIn K (.ref CK)=true)
  (nCK0:W.findIn K (.ref CK) "key_columns" = some none)
  (nCK1:W.findIn K (.ref CK) "value_columns" = some none)
  (gCS:W.nsIn K mainGlobals "Session" = some (some (.ref CS)))
  (pgCS:W.plainGet K CS Str.empty=true)
  (hdCS:W.hasDictIn K CS=true)
  (poCS:W.plainOver K CS=true)
  (saCS:W.findIn K (.ref CS) "__setattr__" = some (some (.builtin "object.__setattr__")))
  (mkCS:W.makesIn K CS=true)
  (kcCS:W.keepIn K (.ref CS)=true)
  (nCS0:W.findIn K (.ref CS) "net" = some none)
  (nCS1:W.findIn K (.ref CS) "kept_layers" = some none)
  (nCS2:W.findIn K (.ref CS) "levels" = some none)
  (aPN:W.nsIn K mainGlobals "PLAIN_NUMBERS" = some (some (.ref mPl)))
  (lPN:K.lookup mPl=some ⟨.type "tuple",odPl,.seq #[.int 1 tq1,.int 0 tq2,.int 2 tq3,.int 3 tq4] nPl,slPl⟩)
  (aNe:W.nsIn K mainGlobals "near" = some (some (.ref fNe)))
  (lNe:K.lookup fNe=some ⟨ocNe,odNe,.func (W.fnOf "near" "near" (defArgs sNear) (defBody sNear) (defScope sNear) .none kVNe dcNe pmNe anNe cdNe ctNe),slNe⟩)
  (cNe:W.codeIn K cdNe "near" = true)
  (kNe:W.keepIn K (.ref fNe)=true)
  (aHe:W.nsIn K mainGlobals "held" = some (some (.ref fHe)))
  (lHe:K.lookup fHe=some ⟨ocHe,odHe,.func (W.fnOf "held" "held" (defArgs sHeld) (defBody sHeld) (defScope sHeld) .none kVHe dcHe pmHe anHe cdHe ctHe),slHe⟩)
  (cHe:W.codeIn K cdHe "held" = true)
  (kHe:W.keepIn K (.ref fHe)=true)
  (aRo:W.nsIn K mainGlobals "root" = some (some (.ref fRo)))
  (lRo:K.lookup fRo=some ⟨ocRo,odRo,.func (W.fnOf "root" "root" (defArgs sRoot) (defBody sRoot) (defScope sRoot) .none kVRo dcRo pmRo anRo cdRo ctRo),slRo⟩)
  (cRo:W.codeIn K cdRo "root" = true)
  (kRo:W.keepIn K (.ref fRo)=true)
  (aLS:W.nsIn K mainGlobals "line_sum" = some (some (.ref fLS)))
  (lLS:K.lookup fLS=some ⟨ocLS,odLS,.func (W.fnOf "line_sum" "line_sum" (defArgs sLSum) (defBody sLSum) (defScope sLSum) .none kVLS dcLS pmLS anLS cdLS ctLS),slLS⟩)
  (cLS:W.codeIn K cdLS "line_sum" = true)
  (kLS:W.keepIn K (.ref fLS)=true)
  (aWe:W.nsIn K mainGlobals "weigh" = some (some (.ref fWe)))
  (lWe:K.lookup fWe=some ⟨ocWe,odWe,.func (W.fnOf "weigh" "weigh" (defArgs sWeigh) (defBody sWeigh) (defScope sWeigh) .none kVWe dcWe pmWe anWe cdWe ctWe),slWe⟩)
  (cWe:W.codeIn K cdWe "weigh" = true)
  (kWe:W.keepIn K (.ref fWe)=true)
  (aFA:W.nsIn K mainGlobals "first_above" = some (some (.ref fFA)))
  (lFA:K.lookup fFA=some ⟨ocFA,odFA,.func (W.fnOf "first_above" "first_above" (defArgs sFirst) (defBody sFirst) (defScope sFirst) .none kVFA dcFA pmFA anFA cdFA ctFA),slFA⟩)
  (cFA:W.codeIn K cdFA "first_above" = true)
  (kFA:W.keepIn K (.ref fFA)=true)
  (aWS:W.nsIn K mainGlobals "weighted_sum" = some (some (.ref fWS)))
  (lWS:K.lookup fWS=some ⟨ocWS,odWS,.func (W.fnOf "weighted_sum" "weighted_sum" (defArgs sWSum) (defBody sWSum) (defScope sWSum) .none kVWS dcWS pmWS anWS cdWS ctWS),slWS⟩)
  (cWS:W.codeIn K cdWS "weighted_sum" = true)
  (kWS:W.keepIn K (.ref fWS)=true)
  (aMx:W.nsIn K mainGlobals "mixed" = some (some (.ref fMx)))
  (lMx:K.lookup fMx=some ⟨ocMx,odMx,.func (W.fnOf "mixed" "mixed" (defArgs sMixed) (defBody sMixed) (defScope sMixed) .none kVMx dcMx pmMx anMx cdMx ctMx),slMx⟩)
  (cMx:W.codeIn K cdMx "mixed" = true)
  (kMx:W.keepIn K (.ref fMx)=true)
  (aJo:W.nsIn K mainGlobals "joined" = some (some (.ref fJo)))
  (lJo:K.lookup fJo=some ⟨ocJo,odJo,.func (W.fnOf "joined" "joined" (defArgs sJoined) (defBody sJoined) (defScope sJoined) .none kVJo dcJo pmJo anJo cdJo ctJo),slJo⟩)
  (cJo:W.codeIn K cdJo "joined" = true)
  (kJo:W.keepIn K (.ref fJo)=true)
  (aLv:W.nsIn K mainGlobals "levelled" = some (some (.ref fLv)))
  (lLv:K.lookup fLv=some ⟨ocLv,odLv,.func (W.fnOf "levelled" "levelled" (defArgs sLevelled) (defBody sLevelled) (defScope sLevelled) .none kVLv dcLv pmLv anLv cdLv ctLv),slLv⟩)
  (cLv:W.codeIn K cdLv "levelled" = true)
  (kLv:W.keepIn K (.ref fLv)=true)
  (aTh:W.nsIn K mainGlobals "through" = some (some (.ref fTh)))
  (lTh:K.lookup fTh=some ⟨ocTh,odTh,.func (W.fnOf "through" "through" (defArgs sThrough) (defBody sThrough) (defScope sThrough) .none kVTh dcTh pmTh anTh cdTh ctTh),slTh⟩)
  (cTh:W.codeIn K cdTh "through" = true)
  (kTh:W.keepIn K (.ref fTh)=true)
  (aPd:W.nsIn K mainGlobals "products" = some (some (.ref fPd)))
  (lPd:K.lookup fPd=some ⟨ocPd,odPd,.func (W.fnOf "products" "products" (defArgs sProducts) (defBody sProducts) (defScope sProducts) .none kVPd dcPd pmPd anPd cdPd ctPd),slPd⟩)
  (cPd:W.codeIn K cdPd "products" = true)
  (kPd:W.keepIn K (.ref fPd)=true)
  (aLB:W.nsIn K mainGlobals "look_back" = some (some (.ref fLB)))
  (lLB:K.lookup fLB=some ⟨ocLB,odLB,.func (W.fnOf "look_back" "look_back" (defArgs sLook) (defBody sLook) (defScope sLook) .none kVLB dcLB pmLB anLB cdLB ctLB),slLB⟩)
  (cLB:W.codeIn K cdLB "look_back" = true)
  (kLB:W.keepIn K (.ref fLB)=true)
  (aEn:W.nsIn K mainGlobals "enter" = some (some (.ref fEn)))
  (lEn:K.lookup fEn=some ⟨ocEn,odEn,.func (W.fnOf "enter" "enter" (defArgs sEnter) (defBody sEnter) (defScope sEnter) .none kVEn dcEn pmEn anEn cdEn ctEn),slEn⟩)
  (cEn:W.codeIn K cdEn "enter" = true)
  (kEn:W.keepIn K (.ref fEn)=true)
  (aPH:W.nsIn K mainGlobals "pass_heads" = some (some (.ref fPH)))
  (lPH:K.lookup fPH=some ⟨ocPH,odPH,.func (W.fnOf "pass_heads" "pass_heads" (defArgs sPHeads) (defBody sPHeads) (defScope sPHeads) .none kVPH dcPH pmPH anPH cdPH ctPH),slPH⟩)
  (cPH:W.codeIn K cdPH "pass_heads" = true)
  (kPH:W.keepIn K (.ref fPH)=true)
  (aPI:W.nsIn K mainGlobals "pass_inner" = some (some (.ref fPI)))
  (lPI:K.lookup fPI=some ⟨ocPI,odPI,.func (W.fnOf "pass_inner" "pass_inner" (defArgs sPInner) (defBody sPInner) (defScope sPInner) .none kVPI dcPI pmPI anPI cdPI ctPI),slPI⟩)
  (cPI:W.codeIn K cdPI "pass_inner" = true)
  (kPI:W.keepIn K (.ref fPI)=true)
  (aPW:W.nsIn K mainGlobals "pass_word" = some (some (.ref fPW)))
  (lPW:K.lookup fPW=some ⟨ocPW,odPW,.func (W.fnOf "pass_word" "pass_word" (defArgs sPWord) (defBody sPWord) (defScope sPWord) .none kVPW dcPW pmPW anPW cdPW ctPW),slPW⟩)
  (cPW:W.codeIn K cdPW "pass_word" = true)
  (kPW:W.keepIn K (.ref fPW)=true)
  (aWC:W.nsIn K mainGlobals "word_scores" = some (some (.ref fWC)))
  (lWC:K.lookup fWC=some ⟨ocWC,odWC,.func (W.fnOf "word_scores" "word_scores" (defArgs sWScores) (defBody sWScores) (defScope sWScores) .none kVWC dcWC pmWC anWC cdWC ctWC),slWC⟩)
  (cWC:W.codeIn K cdWC "word_scores" = true)
  (kWC:W.keepIn K (.ref fWC)=true)
  (aCh:W.nsIn K mainGlobals "choose" = some (some (.ref fCh)))
  (lCh:K.lookup fCh=some ⟨ocCh,odCh,.func (W.fnOf "choose" "choose" (defArgs sChoose) (defBody sChoose) (defScope sChoose) .none kVCh dcCh pmCh anCh (.ref tC) ctCh),slCh⟩)
  (cCh:W.codeIn K (.ref tC) "choose" = true)
  (kCh:W.keepIn K (.ref fCh)=true)
  (aCE:W.nsIn K mainGlobals "call_end" = some (some (.ref fCE)))
  (lCE:K.lookup fCE=some ⟨ocCE,odCE,.func (W.fnOf "call_end" "call_end" (defArgs sCallEnd) (defBody sCallEnd) (defScope sCallEnd) .none kVCE dcCE pmCE anCE cdCE ctCE),slCE⟩)
  (cCE:W.codeIn K cdCE "call_end" = true)
  (kCE:W.keepIn K (.ref fCE)=true)
  (aON:W.nsIn K mainGlobals "answer_one" = some (some (.ref fON)))
  (lON:K.lookup fON=some ⟨ocON,odON,.func (W.fnOf "answer_one" "answer_one" (defArgs sOne) (defBody sOne) (defScope sOne) .none kVON dcON pmON anON cdON ctON),slON⟩)
  (cON:W.codeIn K cdON "answer_one" = true)
  (kON:W.keepIn K (.ref fON)=true)
  (aKI:W.findIn K (.ref CK) "__init__" = some (some (.ref fKI)))
  (iKI:W.isFn K (.ref fKI)=true)
  (lKI:K.lookup fKI=some ⟨ocKI,odKI,.func (W.fnOf "__init__" "Kept.__init__" (defArgs sKI) (defBody sKI) (defScope sKI) .none kVKI dcKI pmKI anKI cdKI ctKI),slKI⟩)
  (cKI:W.codeIn K cdKI "Kept.__init__" = true)
  (kKI:W.keepIn K (.ref fKI)=true)
  (aKP:W.findIn K (.ref CK) "keep" = some (some (.ref fKP)))
  (iKP:W.isFn K (.ref fKP)=true)
  (lKP:K.lookup fKP=some ⟨ocKP,odKP,.func (W.fnOf "keep" "Kept.keep" (defArgs sKeep) (defBody sKeep) (defScope sKeep) .none kVKP dcKP pmKP anKP cdKP ctKP),slKP⟩)
  (cKP:W.codeIn K cdKP "Kept.keep" = true)
  (kKP:W.keepIn K (.ref fKP)=true)
  (aKO:W.findIn K (.ref CK) "keep_only" = some (some (.ref fKO)))
  (iKO:W.isFn K (.ref fKO)=true)
  (lKO:K.lookup fKO=some ⟨ocKO,odKO,.func (W.fnOf "keep_only" "Kept.keep_only" (defArgs sKeepOnly) (defBody sKeepOnly) (defScope sKeepOnly) .none kVKO dcKO pmKO anKO cdKO ctKO),slKO⟩)
  (cKO:W.codeIn K cdKO "Kept.keep_only" = true)
  (kKO:W.keepIn K (.ref fKO)=true)
  (aSI:W.findIn K (.ref CS) "__init__" = some (some (.ref fSI)))
  (iSI:W.isFn K (.ref fSI)=true)
  (lSI:K.lookup fSI=some ⟨ocSI,odSI,.func (W.fnOf "__init__" "Session.__init__" (defArgs sSI) (defBody sSI) (defScope sSI) .none kVSI dcSI pmSI anSI cdSI ctSI),slSI⟩)
  (cSI:W.codeIn K cdSI "Session.__init__" = true)
  (kSI:W.keepIn K (.ref fSI)=true)
  (aBE:W.findIn K (.ref CS) "begin" = some (some (.ref fBE)))
  (iBE:W.isFn K (.ref fBE)=true)
  (lBE:K.lookup fBE=some ⟨ocBE,odBE,.func (W.fnOf "begin" "Session.begin" (defArgs sBegin) (defBody sBegin) (defScope sBegin) .none kVBE dcBE pmBE anBE cdBE ctBE),slBE⟩)
  (cBE:W.codeIn K cdBE "Session.begin" = true)
  (kBE:W.keepIn K (.ref fBE)=true)
  (aFE:W.findIn K (.ref CS) "feed" = some (some (.ref fFE)))
  (iFE:W.isFn K (.ref fFE)=true)
  (lFE:K.lookup fFE=some ⟨ocFE,odFE,.func (W.fnOf "feed" "Session.feed" (defArgs sFeed) (defBody sFeed) (defScope sFeed) .none kVFE dcFE pmFE anFE cdFE ctFE),slFE⟩)
  (cFE:W.codeIn K cdFE "Session.feed" = true)
  (kFE:W.keepIn K (.ref fFE)=true)
  (aFO:W.findIn K (.ref CS) "forget" = some (some (.ref fFO)))
  (iFO:W.isFn K (.ref fFO)=true)
  (lFO:K.lookup fFO=some ⟨ocFO,odFO,.func (W.fnOf "forget" "Session.forget" (defArgs sForget) (defBody sForget) (defScope sForget) .none kVFO dcFO pmFO anFO cdFO ctFO),slFO⟩)
  (cFO:W.codeIn K cdFO "Session.forget" = true)
  (kFO:W.keepIn K (.ref fFO)=true)
  (aTE:W.findIn K (.ref CS) "tell" = some (some (.ref fTE)))
  (iTE:W.isFn K (.ref fTE)=true)
  (lTE:K.lookup fTE=some ⟨ocTE,odTE,.func (W.fnOf "tell" "Session.tell" (defArgs sTell) (defBody sTell) (defScope sTell) .none kVTE dcTE pmTE anTE cdTE ctTE),slTE⟩)
  (cTE:W.codeIn K cdTE "Session.tell" = true)
  (kTE:W.keepIn K (.ref fTE)=true)
  (aGN:W.findIn K (.ref CS) "go_on" = some (some (.ref fGN)))
  (iGN:W.isFn K (.ref fGN)=true)
  (lGN:K.lookup fGN=some ⟨ocGN,odGN,.func (W.fnOf "go_on" "Session.go_on" (defArgs sGoOn) (defBody sGoOn) (defScope sGoOn) .none kVGN dcGN pmGN anGN cdGN ctGN),slGN⟩)
  (cGN:W.codeIn K cdGN "Session.go_on" = true)
  (kGN:W.keepIn K (.ref fGN)=true)
  (aWR:W.findIn K (.ref CS) "write" = some (some (.ref fWR)))
  (iWR:W.isFn K (.ref fWR)=true)
  (lWR:K.lookup fWR=some ⟨ocWR,odWR,.func (W.fnOf "write" "Session.write" (defArgs sWrite) (defBody sWrite) (defScope sWrite) .none kVWR dcWR pmWR anWR cdWR ctWR),slWR⟩)
  (cWR:W.codeIn K cdWR "Session.write" = true)
  (kWR:W.keepIn K (.ref fWR)=true)
  (aSC2:W.findIn K (.ref CS) "scores" = some (some (.ref fSC2)))
  (iSC2:W.isFn K (.ref fSC2)=true)
  (lSC2:K.lookup fSC2=some ⟨ocSC2,odSC2,.func (W.fnOf "scores" "Session.scores" (defArgs sScores) (defBody sScores) (defScope sScores) .none kVSC2 dcSC2 pmSC2 anSC2 cdSC2 ctSC2),slSC2⟩)
  (cSC2:W.codeIn K cdSC2 "Session.scores" = true)
  (kSC2:W.keepIn K (.ref fSC2)=true)
  (aCO:W.findIn K (.ref CS) "cost" = some (some (.ref fCO)))
  (iCO:W.isFn K (.ref fCO)=true)
  (lCO:K.lookup fCO=some ⟨ocCO,odCO,.func (W.fnOf "cost" "Session.cost" (defArgs sCost) (defBody sCost) (defScope sCost) .none kVCO dcCO pmCO anCO cdCO ctCO),slCO⟩)
  (cCO:W.codeIn K cdCO "Session.cost" = true)
  (kCO:W.keepIn K (.ref fCO)=true)
  (aTK:W.findIn K (.ref CS) "take" = some (some (.ref fTK)))
  (iTK:W.isFn K (.ref fTK)=true)
  (lTK:K.lookup fTK=some ⟨ocTK,odTK,.func (W.fnOf "take" "Session.take" (defArgs sTake) (defBody sTake) (defScope sTake) .none kVTK dcTK pmTK anTK cdTK ctTK),slTK⟩)
  (cTK:W.codeIn K cdTK "Session.take" = true)
  (kTK:W.keepIn K (.ref fTK)=true)
  (lTC:K.lookup tC=some ⟨ocT,odT,.fields vsT,slT⟩)
  (h11:(vsT[11]?:Option Value)=some (.ref tP))
  (tPn:K.lookup tP=none)
  (z_len:W.nsIn K mainGlobals "len" = some none)
  (z_min:W.nsIn K mainGlobals "min" = some none)
  (z_range:W.nsIn K mainGlobals "range" = some none)
  (z_reversed:W.nsIn K mainGlobals "reversed" = some none)
  (z_Exception:W.nsIn K mainGlobals "Exception" = some none)
  (z_zip:W.nsIn K mainGlobals "zip" = some none)
  (z_list:W.nsIn K mainGlobals "list" = some none)
  (z_max:W.nsIn K mainGlobals "max" = some none)
  (z_sum:W.nsIn K mainGlobals "sum" = some none)
  (z_sorted:W.nsIn K mainGlobals "sorted" = some none)
  (z_any:W.nsIn K mainGlobals "any" = some none)
  (v_MOST_ROWS:W.nsIn K mainGlobals "MOST_ROWS" = some (some (.int 4096 t_MOST_ROWS)))
  (v_MOST_COLUMNS:W.nsIn K mainGlobals "MOST_COLUMNS" = some (some (.int 4096 t_MOST_COLUMNS)))
  (v_MOST_PLACES:W.nsIn K mainGlobals "MOST_PLACES" = some (some (.int 1048576 t_MOST_PLACES)))
  (v_BLOCK:W.nsIn K mainGlobals "BLOCK" = some (some (.int 64 t_BLOCK)))
  (v_MOST_NET_BYTES:W.nsIn K mainGlobals "MOST_NET_BYTES" = some (some (.int 16777216 t_MOST_NET_BYTES)))
  (v_TABLE_SIZE:W.nsIn K mainGlobals "TABLE_SIZE" = some (some (.int 256 t_TABLE_SIZE)))
  (v_MOST_ADDED:W.nsIn K mainGlobals "MOST_ADDED" = some (some (.int 1073741824 t_MOST_ADDED)))
  (v_MOST_MULTIPLIED:W.nsIn K mainGlobals "MOST_MULTIPLIED" = some (some (.int 2147483647 t_MOST_MULTIPLIED)))
  (v_MOST_LEANING:W.nsIn K mainGlobals "MOST_LEANING" = some (some (.int 16777216 t_MOST_LEANING)))
  (v_MOST_SHIFT:W.nsIn K mainGlobals "MOST_SHIFT" = some (some (.int 62 t_MOST_SHIFT)))
  (v_MOST_FALL_SHIFT:W.nsIn K mainGlobals "MOST_FALL_SHIFT" = some (some (.int 24 t_MOST_FALL_SHIFT)))
  (v_BYTE_TOP:W.nsIn K mainGlobals "BYTE_TOP" = some (some (.int 127 t_BYTE_TOP)))
  (v_WORD_TOP:W.nsIn K mainGlobals "WORD_TOP" = some (some (.int 32767 t_WORD_TOP)))
  (v_MOST_AT_ONCE:W.nsIn K mainGlobals "MOST_AT_ONCE" = some (some (.int 256 t_MOST_AT_ONCE)))
  (v_SEED_FACTOR:W.nsIn K mainGlobals "SEED_FACTOR" = some (some (.int 6364136223846793005 t_SEED_FACTOR)))
  (v_SEED_STEP:W.nsIn K mainGlobals "SEED_STEP" = some (some (.int 1442695040888963407 t_SEED_STEP)))
  (v_SEED_COUNT:W.nsIn K mainGlobals "SEED_COUNT" = some (some (.int 18446744073709551616 t_SEED_COUNT)))
  (v_BEGIN:W.nsIn K mainGlobals "BEGIN" = some (some (.int 11 t_BEGIN)))
  (v_FEED:W.nsIn K mainGlobals "FEED" = some (some (.int 12 t_FEED)))
  (v_FORGET:W.nsIn K mainGlobals "FORGET" = some (some (.int 13 t_FORGET)))
  (v_TELL:W.nsIn K mainGlobals "TELL" = some (some (.int 14 t_TELL)))
  (v_GO_ON:W.nsIn K mainGlobals "GO_ON" = some (some (.int 15 t_GO_ON)))
  (aQ:W.nsIn K mainGlobals "answers" = some (some (.ref fQ)))
  (lQ:K.lookup fQ=some ⟨ocQ,odQ,.func (W.fnOf "answers" "answers" (defArgs sAnswers) (defBody sAnswers) (defScope sAnswers) .none kVQ dcQ pmQ anQ cdQ ctQ),slQ⟩)
  (cQ:W.codeIn K cdQ "answers" = true)
  (kQ:W.keepIn K (.ref fQ)=true)
  (hfa:mg "answers" = some (.ref fa)) (hTab:∀c P,W.tabIn K "choose" = some (c,P)->W.CodeHd h c P):∃(c tP a1 a2 a3 a4:Addr) (fd:FuncData),W.tabIn K "choose" = some (c,tP)/\K.lookup tP=none/\Binds K fd ["calls"] []/\∀base:Heap,K.In base->base.Ns mainGlobals mg->BMod mg base->FnOk P w K mg base CX0 17 fa fd ["calls"] (spAnswers a1 a2 a3 a4 tP K):=by
 have FF:=fun_mk (st:=sFI) lF cF kF
 have bF:=FF.binds (ps:=["self","place","kind"]) fun _ _ _ _ _ _ us hl=>match us,hl with | [_,_,_],_=>rfl
 have FRI:=fun_mk (st:=sRI) lRI cRI kRI
 have bRI:=FRI.binds (ps:=["self","data"]) fun _ _ _ _ _ _ us hl=>match us,hl with | [_,_],_=>rfl
 have FU:=fun_mk (st:=sU) lU cU kU
 have bU:=FU.binds (ps:=["self","size"]) fun _ _ _ _ _ _ us hl=>match us,hl with | [_,_],_=>rfl
 have FS:=fun_mk (st:=sS) lS cS kS
 have bS:=FS.binds (ps:=["self","size"]) fun _ _ _ _ _ _ us hl=>match us,hl with | [_,_],_=>rfl
 have FUW:=fun_mk (st:=sUW) lUW cUW kUW
 have bUW:=FUW.binds (ps:=["self","size","low","high"]) fun _ _ _ _ _ _ us hl=>match us,hl with | [_,_,_,_],_=>rfl
 have FNF:=fun_mk (st:=sNF) lNF cNF kNF
 have bNF:=FNF.binds (ps:=["self"]) fun _ _ _ _ _ _ us hl=>match us,hl with | [_],_=>rfl
 have FO:=fun_mk (st:=sOut) lO cO kO
 have bO:=FO.binds (ps:=["number","low","high"]) fun _ _ _ _ _ _ us hl=>match us,hl with | [_,_,_],_=>rfl
 have FW:=fun_mk (st:=sW) lW cW kW
 have bW:=FW.binds (ps:=["number","low","high","start"]) fun _ _ _ _ _ _ us hl=>match us,hl with | [_,_,_,_],_=>rfl
 have FMI:=fun_mk (st:=sMI) lMI cMI kMI
 have bMI:=FMI.binds (ps:=["self","rows","columns","lines"]) fun _ _ _ _ _ _ us hl=>match us,hl with | [_,_,_,_],_=>rfl
 have FSh:=fun_mk (st:=sShape) lSh cSh kSh
 have bSh:=FSh.binds (ps:=["rows","columns"]) fun _ _ _ _ _ _ us hl=>match us,hl with | [_,_],_=>rfl
 have FM:=fun_mk (st:=sRM) lM cM kM
 have bM:=FM.binds (ps:=["reader"]) fun _ _ _ _ _ _ us hl=>match us,hl with | [_],_=>rfl
 have FL:=fun_mk (st:=sRL) lL cL kL
 have bL:=FL.binds (ps:=["reader","columns"]) fun _ _ _ _ _ _ us hl=>match us,hl with | [_,_],_=>rfl
 have FB:=fun_mk (st:=sRB) lB cB kB
 have bB:=FB.binds (ps:=["reader","first","wide"]) fun _ _ _ _ _ _ us hl=>match us,hl with | [_,_,_],_=>rfl
 have FE:=fun_mk (st:=sRE) lE cE kE
 have bE:=FE.binds (ps:=["reader"]) fun _ _ _ _ _ _ us hl=>match us,hl with | [_],_=>rfl
 have FSW:=fun_mk (st:=sSW) lSW cSW kSW
 have bSW:=FSW.binds (ps:=["self","size","low","high"]) fun _ _ _ _ _ _ us hl=>match us,hl with | [_,_,_,_],_=>rfl
 have FNI:=fun_mk (st:=sNI) lNI cNI kNI
 have bNI:=FNI.binds (ps:=["self","data"]) fun _ _ _ _ _ _ us hl=>match us,hl with | [_,_],_=>rfl
 have FLI:=fun_mk (st:=sLI) lLI cLI kLI
 have bLI:=FLI.binds (ps:=["self","reader","width","inner"]) fun _ _ _ _ _ _ us hl=>match us,hl with | [_,_,_,_],_=>rfl
 have FTLn:=fun_mk (st:=sTL) lTLn cTLn kTLn
 have bTLn:=FTLn.binds (ps:=["reader","rows","columns"]) fun _ _ _ _ _ _ us hl=>match us,hl with | [_,_,_],_=>rfl
 have FMK:=fun_mk (st:=sMark) lMK cMK kMK
 have bMK:=FMK.binds (ps:=["reader"]) fun _ _ _ _ _ _ us hl=>match us,hl with | [_],_=>rfl
 have FHD:=fun_mk (st:=sHeads) lHD cHD kHD
 have bHD:=FHD.binds (ps:=["reader","width"]) fun _ _ _ _ _ _ us hl=>match us,hl with | [_,_],_=>rfl
 have FFAl:=fun_mk (st:=sFal) lFAl cFAl kFAl
 have bFAl:=FFAl.binds (ps:=["reader"]) fun _ _ _ _ _ _ us hl=>match us,hl with | [_],_=>rfl
 have FGA:=fun_mk (st:=sGains) lGA cGA kGA
 have bGA:=FGA.binds (ps:=["reader","width"]) fun _ _ _ _ _ _ us hl=>match us,hl with | [_,_],_=>rfl
 have FSC:=fun_mk (st:=sScaled) lSC cSC kSC
 have bSC:=FSC.binds (ps:=["reader","rows","columns"]) fun _ _ _ _ _ _ us hl=>match us,hl with | [_,_,_],_=>rfl
 have FSL:=fun_mk (st:=sScale) lSL cSL kSL
 have bSL:=FSL.binds (ps:=["reader"]) fun _ _ _ _ _ _ us hl=>match us,hl with | [_],_=>rfl
 have FNe:=fun_mk (st:=sNear) lNe cNe kNe
 have bNe:=FNe.binds (ps:=["a","b"]) fun _ _ _ _ _ _ us hl=>match us,hl with | [_,_],_=>rfl
 have FHe:=fun_mk (st:=sHeld) lHe cHe kHe
 have bHe:=FHe.binds (ps:=["number","top"]) fun _ _ _ _ _ _ us hl=>match us,hl with | [_,_],_=>rfl
 have FRo:=fun_mk (st:=sRoot) lRo cRo kRo
 have bRo:=FRo.binds (ps:=["square"]) fun _ _ _ _ _ _ us hl=>match us,hl with | [_],_=>rfl
 have FLS:=fun_mk (st:=sLSum) lLS cLS kLS
 have bLS:=FLS.binds (ps:=["line","given"]) fun _ _ _ _ _ _ us hl=>match us,hl with | [_,_],_=>rfl
 have FWe:=fun_mk (st:=sWeigh) lWe cWe kWe
 have bWe:=FWe.binds (ps:=["falling","shift","numbers"]) fun _ _ _ _ _ _ us hl=>match us,hl with | [_,_,_],_=>rfl
 have FFA:=fun_mk (st:=sFirst) lFA cFA kFA
 have bFA:=FFA.binds (ps:=["weights","bound"]) fun _ _ _ _ _ _ us hl=>match us,hl with | [_,_],_=>rfl
 have FWS:=fun_mk (st:=sWSum) lWS cWS kWS
 have bWS:=FWS.binds (ps:=["weights","column"]) fun _ _ _ _ _ _ us hl=>match us,hl with | [_,_],_=>rfl
 have FMx:=fun_mk (st:=sMixed) lMx cMx kMx
 have bMx:=FMx.binds (ps:=["weights","value_columns"]) fun _ _ _ _ _ _ us hl=>match us,hl with | [_,_],_=>rfl
 have FJo:=fun_mk (st:=sJoined) lJo cJo kJo
 have bJo:=FJo.binds (ps:=["r","more"]) fun _ _ _ _ _ _ us hl=>match us,hl with | [_,_],_=>rfl
 have FLv:=fun_mk (st:=sLevelled) lLv cLv kLv
 have bLv:=FLv.binds (ps:=["r","gains"]) fun _ _ _ _ _ _ us hl=>match us,hl with | [_,_],_=>rfl
 have FTh:=fun_mk (st:=sThrough) lTh cTh kTh
 have bTh:=FTh.binds (ps:=["scaled","given","top"]) fun _ _ _ _ _ _ us hl=>match us,hl with | [_,_,_],_=>rfl
 have FPd:=fun_mk (st:=sProducts) lPd cPd kPd
 have bPd:=FPd.binds (ps:=["query","key_columns"]) fun _ _ _ _ _ _ us hl=>match us,hl with | [_,_],_=>rfl
 have FLB:=fun_mk (st:=sLook) lLB cLB kLB
 have bLB:=FLB.binds (ps:=["net","layer","kept","query"]) fun _ _ _ _ _ _ us hl=>match us,hl with | [_,_,_,_],_=>rfl
 have FEn:=fun_mk (st:=sEnter) lEn cEn kEn
 have bEn:=FEn.binds (ps:=["net","word","place"]) fun _ _ _ _ _ _ us hl=>match us,hl with | [_,_,_],_=>rfl
 have FPH:=fun_mk (st:=sPHeads) lPH cPH kPH
 have bPH:=FPH.binds (ps:=["net","layer","kept","r"]) fun _ _ _ _ _ _ us hl=>match us,hl with | [_,_,_,_],_=>rfl
 have FPI:=fun_mk (st:=sPInner) lPI cPI kPI
 have bPI:=FPI.binds (ps:=["net","layer","r"]) fun _ _ _ _ _ _ us hl=>match us,hl with | [_,_,_],_=>rfl
 have FPW:=fun_mk (st:=sPWord) lPW cPW kPW
 have bPW:=FPW.binds (ps:=["net","kept_layers","word","place"]) fun _ _ _ _ _ _ us hl=>match us,hl with | [_,_,_,_],_=>rfl
 have FWC:=fun_mk (st:=sWScores) lWC cWC kWC
 have bWC:=FWC.binds (ps:=["net","level"]) fun _ _ _ _ _ _ us hl=>match us,hl with | [_,_],_=>rfl
 have FCh:=fun_mk (st:=sChoose) lCh cCh kCh
 have bCh:=FCh.binds (ps:=["net","scores","most","seed"]) fun _ _ _ _ _ _ us hl=>match us,hl with | [_,_,_,_],_=>rfl
 have FCE:=fun_mk (st:=sCallEnd) lCE cCE kCE
 have bCE:=FCE.binds (ps:=["calls","at"]) fun _ _ _ _ _ _ us hl=>match us,hl with | [_,_],_=>rfl
 have FON:=fun_mk (st:=sOne) lON cON kON
 have bON:=FON.binds (ps:=["session","call"]) fun _ _ _ _ _ _ us hl=>match us,hl with | [_,_],_=>rfl
 have FKI:=fun_mk (st:=sKI) lKI cKI kKI
 have bKI:=FKI.binds (ps:=["self","width"]) fun _ _ _ _ _ _ us hl=>match us,hl with | [_,_],_=>rfl
 have FKP:=fun_mk (st:=sKeep) lKP cKP kKP
 have bKP:=FKP.binds (ps:=["self","key","value"]) fun _ _ _ _ _ _ us hl=>match us,hl with | [_,_,_],_=>rfl
 have FKO:=fun_mk (st:=sKeepOnly) lKO cKO kKO
 have bKO:=FKO.binds (ps:=["self","words"]) fun _ _ _ _ _ _ us hl=>match us,hl with | [_,_],_=>rfl
 have FSI:=fun_mk (st:=sSI) lSI cSI kSI
 have bSI:=FSI.binds (ps:=["self"]) fun _ _ _ _ _ _ us hl=>match us,hl with | [_],_=>rfl
 have FBE:=fun_mk (st:=sBegin) lBE cBE kBE
 have bBE:=FBE.binds (ps:=["self","data"]) fun _ _ _ _ _ _ us hl=>match us,hl with | [_,_],_=>rfl
 have FFE:=fun_mk (st:=sFeed) lFE cFE kFE
 have bFE:=FFE.binds (ps:=["self","words"]) fun _ _ _ _ _ _ us hl=>match us,hl with | [_,_],_=>rfl
 have FFO:=fun_mk (st:=sForget) lFO cFO kFO
 have bFO:=FFO.binds (ps:=["self","k"]) fun _ _ _ _ _ _ us hl=>match us,hl with | [_,_],_=>rfl
 have FTE:=fun_mk (st:=sTell) lTE cTE kTE
 have bTE:=FTE.binds (ps:=["self"]) fun _ _ _ _ _ _ us hl=>match us,hl with | [_],_=>rfl
 have FGN:=fun_mk (st:=sGoOn) lGN cGN kGN
 have bGN:=FGN.binds (ps:=["self","most","seed"]) fun _ _ _ _ _ _ us hl=>match us,hl with | [_,_,_],_=>rfl
 have FWR:=fun_mk (st:=sWrite) lWR cWR kWR
 have bWR:=FWR.binds (ps:=["self","most","seed","k"]) fun _ _ _ _ _ _ us hl=>match us,hl with | [_,_,_,_],_=>rfl
 have FSC2:=fun_mk (st:=sScores) lSC2 cSC2 kSC2
 have bSC2:=FSC2.binds (ps:=["self"]) fun _ _ _ _ _ _ us hl=>match us,hl with | [_],_=>rfl
 have FCO:=fun_mk (st:=sCost) lCO cCO kCO
 have bCO:=FCO.binds (ps:=["self","word"]) fun _ _ _ _ _ _ us hl=>match us,hl with | [_,_],_=>rfl
 have FTK:=fun_mk (st:=sTake) lTK cTK kTK
 have bTK:=FTK.binds (ps:=["self","word"]) fun _ _ _ _ _ _ us hl=>match us,hl with | [_,_],_=>rfl
 have FQ:=fun_mk (st:=sAnswers) lQ cQ kQ
 have bQ:=FQ.binds (ps:=["calls"]) fun _ _ _ _ _ _ us hl=>match us,hl with | [_],_=>rfl
 have e:=hfa.symm.trans (W.mg_of X G aQ)
 cases e
 have T:Txt K mg C CR fF:=⟨⟨⟨xnm,xq,xN,xbs,xsn,xsub,xab,xcol,xdd,xk0,xk1,xk2,xk3,xk5,xo,xn,xi,xa0,xa1,xa2,xa3,xa4⟩,iF,kcC,xe⟩,⟨pgCR,hdCR,poCR,saCR⟩,nCR0,nCR1,W.mg_of X G gC,W.mg_none_of X G z_len,W.mg_none_of X G z_reversed,W.mg_none_of X G z_Exception⟩
 have T2:Txt2 K mg CM:=⟨⟨pgCM,hdCM,poCM,saCM⟩,nCM0,nCM1,nCM2,W.mg_of X G gCM,⟨_,W.mg_of X G v_MOST_ROWS⟩,⟨_,W.mg_of X G v_MOST_COLUMNS⟩,⟨_,W.mg_of X G v_MOST_PLACES⟩,⟨_,W.mg_of X G v_BLOCK⟩,W.mg_none_of X G z_min,W.mg_none_of X G z_range⟩
 have tabE:W.tabIn K "choose" = some (tC,tP):=tab_mk aCh lCh rfl lTC h11
 have hCd:∀h':Heap,K.In h'->W.CodeHd h' tC tP:=fun h' X'=>codeHd_of (hTab tC tP tabE) X lTC X'
 refine ⟨tC,tP,CS,CN,CL,CK,_,tabE,tPn,bQ,fun base _ _ hBm=>?_⟩
 have GF:FnOk P w K mg base CX0 1 fF _ ["self","place","kind"] (spInit C):=ok_FI FF T
 have GU:=ok_U (P:=P) (w:=w) (base:=base) FU T GF bF
 have MU:MFn P w K mg base (CXF P w C) 3 CR "unsigned" fU _ ["self","size"] (spU K C CR):=⟨⟨aU,iU,kU⟩,bU,GU⟩
 have GO:GFn P w K mg base CX0 1 "outside" fO _ ["number","low","high"] spOut:=⟨W.mg_of X G aO,kO,bO,ok_out FO⟩
 have WW:GFn P w K mg base (CXF P w C) 3 "within" fW _ ["number","low","high","start"] (spW C):=⟨W.mg_of X G aW,kW,bW,ok_W FW T GF bF GO⟩
 have MS:MFn P w K mg base (CXF P w C) 4 CR "signed" fS _ ["self","size"] (spS K C CR):=⟨⟨aS,iS,kS⟩,bS,ok_S FS T MU⟩
 have MUW:MFn P w K mg base (CXF P w C) 4 CR "unsigned_within" fUW _ ["self","size","low","high"] (spUW K C CR):=⟨⟨aUW,iUW,kUW⟩,bUW,ok_UW FUW T MU WW⟩
 have MNF:MFn P w K mg base (CXF P w C) 3 CR "nothing_follows" fNF _ ["self"] (spNF K C CR):=⟨⟨aNF,iNF,kNF⟩,bNF,ok_NF FNF T GF bF⟩
 have GE:GFn P w K mg base (CXF P w C) 5 "read_entry" fE _ ["reader"] (spE K C CR):=⟨W.mg_of X G aE,kE,bE,ok_E FE T GF bF MS⟩
 have GB:GFn P w K mg base (CXF P w C) 6 "read_block" fB _ ["reader","first","wide"] (spB K C CR):=⟨W.mg_of X G aB,kB,bB,ok_B FB T GF bF MU GE⟩
 have GL:GFn P w K mg base (CXF P w C) 7 "read_line" fL _ ["reader","columns"] (spL K C CR):=⟨W.mg_of X G aL,kL,bL,ok_L FL T T2 GB⟩
 have GSh:GFn P w K mg base CX0 2 "shape_fits" fSh _ ["rows","columns"] spShape:=⟨W.mg_of X G aSh,kSh,bSh,ok_shape FSh T2 GO⟩
 have GM':GFn P w K mg base (CXF P w C) 8 "read_matrix" fM _ ["reader"] (spM K C CR CM):=⟨W.mg_of X G aM,kM,bM,ok_M FM T T2 GF bF MUW GL ⟨mkCM,aMI,iMI,kcCM⟩ (ok_MI FMI T2) bMI GSh⟩
 have T3:Txt3 mg:=⟨⟨_,W.mg_of X G v_MOST_ADDED⟩,⟨_,W.mg_of X G v_MOST_MULTIPLIED⟩,⟨_,W.mg_of X G v_MOST_LEANING⟩,⟨_,W.mg_of X G v_MOST_SHIFT⟩,⟨_,W.mg_of X G v_MOST_FALL_SHIFT⟩,⟨_,W.mg_of X G v_TABLE_SIZE⟩,W.mg_none_of X G z_zip,W.mg_none_of X G z_range⟩
 have TM:TxtM K mg mMark:=⟨W.mg_of X G aMM,fun H=>.inr ⟨_,_,_,lMM,rfl,rfl,by show 4<=sizeLine;decide,.cons ⟨_,rfl⟩ (.cons ⟨_,rfl⟩ (.cons ⟨_,rfl⟩ (.cons ⟨_,rfl⟩ .nil)))⟩,W.mg_none_of X G z_list⟩
 have TN:Attrs K CN netA:=⟨⟨pgCN,hdCN,poCN,saCN⟩,fun f hf=>by
   unfold netA at hf
   simp only [List.mem_cons,List.not_mem_nil,or_false] at hf
   rcases hf with rfl | rfl | rfl | rfl | rfl | rfl | rfl | rfl | rfl | rfl | rfl | rfl | rfl | rfl | rfl <;> assumption⟩
 have TLa:Attrs K CL layA:=⟨⟨pgCL,hdCL,poCL,saCL⟩,fun f hf=>by
   unfold layA at hf
   simp only [List.mem_cons,List.not_mem_nil,or_false] at hf
   rcases hf with rfl | rfl | rfl | rfl | rfl | rfl | rfl | rfl | rfl <;> assumption⟩
 have MSW:MFn P w K mg base (CXF P w C) 5 CR "signed_within" fSW _ ["self","size","low","high"] (spSW K C CR):=⟨⟨aSW,iSW,kSW⟩,bSW,ok_SW FSW T MS WW⟩
 have GTLn:GFn P w K mg base (CXF P w C) 9 "read_told_lines" fTLn _ ["reader","rows","columns"] (spTL K C CR):=⟨W.mg_of X G aTLn,kTLn,bTLn,ok_TL FTLn T T2 GF bF GM'⟩
 have GMK:GFn P w K mg base (CXF P w C) 4 "read_mark" fMK _ ["reader"] (spMark K C CR):=⟨W.mg_of X G aMK,kMK,bMK,ok_mark FMK T TM GF bF MU⟩
 have GHD:GFn P w K mg base (CXF P w C) 5 "read_heads" fHD _ ["reader","width"] (spHeads K C CR):=⟨W.mg_of X G aHD,kHD,bHD,ok_heads FHD T GF bF MUW⟩
 have GFAl:GFn P w K mg base (CXF P w C) 5 "read_falling" fFAl _ ["reader"] (spFal K C CR):=⟨W.mg_of X G aFAl,kFAl,bFAl,ok_fal FFAl T T3 MUW⟩
 have GGA:GFn P w K mg base (CXF P w C) 5 "read_gains" fGA _ ["reader","width"] (spGains K C CR):=⟨W.mg_of X G aGA,kGA,bGA,ok_gains FGA T (W.mg_none_of X G z_range) MS⟩
 have GSL:GFn P w K mg base (CXF P w C) 6 "read_scale" fSL _ ["reader"] (spSc K C CR):=⟨W.mg_of X G aSL,kSL,bSL,ok_Sc FSL T T3 MUW MSW⟩
 have GSC:GFn P w K mg base (CXF P w C) 10 "read_scaled" fSC _ ["reader","rows","columns"] (spScaled K C CR):=⟨W.mg_of X G aSC,kSC,bSC,ok_Scaled FSC T T3 GSL GTLn⟩
 have GLI:=ok_LI (P:=P) (w:=w) (base:=base) (C:=C) FLI T T3 TLa GGA GSC MUW
 have GNI:=ok_NI (P:=P) (w:=w) (base:=base) (m:=0) FNI T T3 TN (W.mg_of X G gCR) (W.mg_of X G gCL) ⟨mkCR,aRI,iRI,kcCR⟩ (ok_RI FRI T) bRI GMK MUW GHD GFAl MS GTLn ⟨mkCL,aLI,iLI,kcCL⟩ GLI bLI GGA MSW MNF
 have TK:Attrs K CK kepA:=⟨⟨pgCK,hdCK,poCK,saCK⟩,fun f hf=>by
   unfold kepA at hf
   simp only [List.mem_cons,List.not_mem_nil,or_false] at hf
   rcases hf with rfl | rfl <;> assumption⟩
 have TS:Attrs K CS sesA:=⟨⟨pgCS,hdCS,poCS,saCS⟩,fun f hf=>by
   unfold sesA at hf
   simp only [List.mem_cons,List.not_mem_nil,or_false] at hf
   rcases hf with rfl | rfl | rfl <;> assumption⟩
 have TC:TxtC K mg mPl:=⟨⟨_,W.mg_of X G v_BEGIN⟩,⟨_,W.mg_of X G v_FEED⟩,⟨_,W.mg_of X G v_FORGET⟩,⟨_,W.mg_of X G v_TELL⟩,⟨_,W.mg_of X G v_GO_ON⟩,W.mg_of X G aPN,fun H=>.inr ⟨_,_,_,lPN,rfl,rfl,by show 4<=sizeLine;decide,.cons ⟨_,rfl⟩ (.cons ⟨_,rfl⟩ (.cons ⟨_,rfl⟩ (.cons ⟨_,rfl⟩ .nil)))⟩⟩
 have gNe:GFn P w K mg base CX0 1 "near" fNe _ ["a","b"] spNear:=⟨W.mg_of X G aNe,kNe,bNe,ok_near FNe⟩
 have gHe:GFn P w K mg base CX0 1 "held" fHe _ ["number","top"] spHeld:=⟨W.mg_of X G aHe,kHe,bHe,ok_held FHe (W.mg_none_of X G z_max) (W.mg_none_of X G z_min)⟩
 have gRo:GFn P w K mg base CX0 1 "root" fRo _ ["square"] spRoot:=⟨W.mg_of X G aRo,kRo,bRo,ok_root FRo⟩
 have gLS:GFn P w K mg base CX0 1 "line_sum" fLS _ ["line","given"] (spLS K):=⟨W.mg_of X G aLS,kLS,bLS,ok_LS FLS (W.mg_none_of X G z_sum)⟩
 have gWe:GFn P w K mg base CX0 1 "weigh" fWe _ ["falling","shift","numbers"] (spWeigh K):=⟨W.mg_of X G aWe,kWe,bWe,ok_weigh FWe (W.mg_none_of X G z_max) (W.mg_none_of X G z_min) (W.mg_none_of X G z_len)⟩
 have gFA:GFn P w K mg base CX0 1 "first_above" fFA _ ["weights","bound"] (spFA K):=⟨W.mg_of X G aFA,kFA,bFA,ok_FA FFA⟩
 have gWS:GFn P w K mg base CX0 1 "weighted_sum" fWS _ ["weights","column"] (spWS K):=⟨W.mg_of X G aWS,kWS,bWS,ok_WS FWS (W.mg_none_of X G z_sum) (W.mg_none_of X G z_zip)⟩
 have gMx:GFn P w K mg base CX0 2 "mixed" fMx _ ["weights","value_columns"] (spMix K):=⟨W.mg_of X G aMx,kMx,bMx,ok_mix FMx (W.mg_none_of X G z_sum) gNe gWS⟩
 have gJo:GFn P w K mg base CX0 2 "joined" fJo _ ["r","more"] (spJoin K):=⟨W.mg_of X G aJo,kJo,bJo,ok_join FJo (W.mg_none_of X G z_zip) ⟨_,W.mg_of X G v_WORD_TOP⟩ gHe⟩
 have gLv:GFn P w K mg base CX0 2 "levelled" fLv _ ["r","gains"] (spLev K):=⟨W.mg_of X G aLv,kLv,bLv,ok_lev FLv (W.mg_none_of X G z_sum) (W.mg_none_of X G z_len) (W.mg_none_of X G z_zip) ⟨_,W.mg_of X G v_BYTE_TOP⟩ gRo gNe gHe⟩
 have gTh:GFn P w K mg base CX0 2 "through" fTh _ ["scaled","given","top"] (spThr K):=⟨W.mg_of X G aTh,kTh,bTh,ok_thr FTh gLS gHe⟩
 have gPd:GFn P w K mg base CX0 1 "products" fPd _ ["query","key_columns"] (spProd K):=⟨W.mg_of X G aPd,kPd,bPd,ok_prod FPd (W.mg_none_of X G z_len) (W.mg_none_of X G z_zip)⟩
 have gLB:GFn P w K mg base CX0 3 "look_back" fLB _ ["net","layer","kept","query"] (spLB K CN CL CK):=⟨W.mg_of X G aLB,kLB,bLB,ok_LB FLB TN TLa TK (W.mg_none_of X G z_range) gPd gWe gMx⟩
 have gEn:GFn P w K mg base CX0 2 "enter" fEn _ ["net","word","place"] (spEnter CN CL):=⟨W.mg_of X G aEn,kEn,bEn,ok_enter FEn TN ⟨_,W.mg_of X G v_WORD_TOP⟩ gHe⟩
 have mKP:MFn P w K mg base CX0 1 CK "keep" fKP _ ["self","key","value"] (spKeep CK):=⟨⟨aKP,iKP,kKP⟩,bKP,ok_keep FKP TK (W.mg_none_of X G z_zip)⟩
 have gPH:GFn P w K mg base CX0 4 "pass_heads" fPH _ ["net","layer","kept","r"] (spPH CN CL CK):=⟨W.mg_of X G aPH,kPH,bPH,ok_PH FPH TLa TK ⟨_,W.mg_of X G v_BYTE_TOP⟩ ⟨_,W.mg_of X G v_WORD_TOP⟩ gLv gTh mKP gLB gJo⟩
 have gPI:GFn P w K mg base CX0 3 "pass_inner" fPI _ ["net","layer","r"] (spPI K CN CL):=⟨W.mg_of X G aPI,kPI,bPI,ok_PI FPI TN TLa ⟨_,W.mg_of X G v_BYTE_TOP⟩ ⟨_,W.mg_of X G v_WORD_TOP⟩ gLv gTh gJo⟩
 have gPW:GFn P w K mg base CX0 5 "pass_word" fPW _ ["net","kept_layers","word","place"] (spPW CN CL CK):=⟨W.mg_of X G aPW,kPW,bPW,ok_PW FPW TN (W.mg_none_of X G z_zip) gEn gPH gPI gLv⟩
 have gWC:GFn P w K mg base CX0 2 "word_scores" fWC _ ["net","level"] (spWSc K CN CL):=⟨W.mg_of X G aWC,kWC,bWC,ok_WSc FWC TN (W.mg_none_of X G z_zip) gLS⟩
 have gCh:GFn P w K mg base CX0 2 "choose" fCh _ ["net","scores","most","seed"] (spCh CN CL tP):=⟨W.mg_of X G aCh,kCh,bCh,ok_Ch FCh rfl hCd hBm TN (W.mg_none_of X G z_sorted) (W.mg_none_of X G z_range) (W.mg_none_of X G z_len) (W.mg_none_of X G z_sum) gWe gFA⟩
 have mKO:MFn P w K mg base CX0 1 CK "keep_only" fKO _ ["self","words"] (spKO CK):=⟨⟨aKO,iKO,kKO⟩,bKO,ok_KO FKO TK⟩
 have mSC2:MFn P w K mg base CX0 3 CS "scores" fSC2 _ ["self"] (spSsc CS CN CL CK tP):=⟨⟨aSC2,iSC2,kSC2⟩,bSC2,ok_Ssc FSC2 TS gWC⟩
 have mCO:MFn P w K mg base CX0 4 CS "cost" fCO _ ["self","word"] (spCost CS CN CL CK tP):=⟨⟨aCO,iCO,kCO⟩,bCO,ok_Cost FCO TS (W.mg_none_of X G z_max) mSC2⟩
 have mTK:MFn P w K mg base CX0 6 CS "take" fTK _ ["self","word"] (spTake CS CN CL CK tP):=⟨⟨aTK,iTK,kTK⟩,bTK,ok_Take FTK TS (W.mg_none_of X G z_len) gPW⟩
 have mTE:MFn P w K mg base CX0 4 CS "tell" fTE _ ["self"] (spTell CS CN CL CK tP):=⟨⟨aTE,iTE,kTE⟩,bTE,ok_Tell FTE TS TN mSC2⟩
 have mFO:MFn P w K mg base CX0 2 CS "forget" fFO _ ["self","k"] (spForget CS CN CL CK tP):=⟨⟨aFO,iFO,kFO⟩,bFO,ok_Forget FFO TS TK (W.mg_none_of X G z_len) mKO⟩
 have mFE:MFn P w K mg base CX0 7 CS "feed" fFE _ ["self","words"] (spFeed CS CN CL CK tP):=⟨⟨aFE,iFE,kFE⟩,bFE,ok_Feed FFE TS TN (W.mg_none_of X G z_len) (W.mg_none_of X G z_any) ⟨_,W.mg_of X G v_MOST_AT_ONCE⟩ mCO mTK⟩
 have mBE:MFn P w K mg base CX0 15 CS "begin" fBE _ ["self","data"] (spBegin CS CN CL CK tP):=⟨⟨aBE,iBE,kBE⟩,bBE,ok_Begin FBE T TS TN ⟨_,W.mg_of X G v_MOST_NET_BYTES⟩ (W.mg_of X G gCN) (W.mg_of X G gCK) ⟨mkCN,aNI,iNI,kcCN⟩ GNI bNI ⟨mkCK,aKI,iKI,kcCK⟩ (ok_KI FKI TK (W.mg_none_of X G z_range)) bKI⟩
 have mGN:MFn P w K mg base CX0 4 CS "go_on" fGN _ ["self","most","seed"] (spGo CS CN CL CK tP):=⟨⟨aGN,iGN,kGN⟩,bGN,ok_Go FGN TS mSC2 gCh⟩
 have mWR:MFn P w K mg base CX0 7 CS "write" fWR _ ["self","most","seed","k"] (spWrite CS CN CL CK tP):=⟨⟨aWR,iWR,kWR⟩,bWR,ok_Write FWR TS TN (W.mg_none_of X G z_len) ⟨_,W.mg_of X G v_MOST_AT_ONCE⟩ ⟨_,W.mg_of X G v_SEED_FACTOR⟩ ⟨_,W.mg_of X G v_SEED_STEP⟩ ⟨_,W.mg_of X G v_SEED_COUNT⟩ mSC2 gCh mTK⟩
 have gCE:GFn P w K mg base CX0 1 "call_end" fCE _ ["calls","at"] (spCE K):=⟨W.mg_of X G aCE,kCE,bCE,ok_CE FCE TC⟩
 have gON:GFn P w K mg base CX0 16 "answer_one" fON _ ["session","call"] (spOne CS CN CL CK tP):=⟨W.mg_of X G aON,kON,bON,ok_One FON TC TS mBE mFE mFO mTE mGN mWR⟩
 exact ok_Answers FQ TS (W.mg_none_of X G z_len) (W.mg_of X G gCS) ⟨mkCS,aSI,iSI,kcCS⟩ (ok_SI FSI TS) bSI gCE gON
theorem said:PySem.Challenge.rw_goingon_s01_answers.wellSaid=true:=by decide +kernel
theorem hargs (a1 a2 a3 a4 tP:Addr) (K:PySem.W.Frag) (w:World) (h:Heap) (args:List PySem.W.WData) (vals:List Value) (hp:PySem.Challenge.rw_goingon_s01_answers.pre args=true) (hw:PySem.W.WellAll w.params h vals args) :
  ∃(xs:List V) (ls:Lists) (ans:List Int),Vals xs vals/\LiesAll h ls/\vals.length=1/\PySem.Challenge.rw_goingon_s01_answers.post args (.list (ans.map .int))=true/\
   ∀H:Hp,(∀p∈ls,SqL K H p.1 (p.2.2.map V.int))->H tP=some (.tbl #[])->spAnswers a1 a2 a3 a4 tP K xs H (fun v H'=>∃l,v=.ref l/\H' l=some (.lst (ans.map V.int))) fun _ _ _=>False:=by
 obtain ⟨x,hin,hask,rfl⟩:=(PySem.W.OpenSpec.pre_iff said args).mp hp
 obtain ⟨ns,u⟩:=x
 have hb:=in_ints (PySem.W.Codec.and_of hin).1
 obtain ⟨v,vs',rfl,hv,hw'⟩:=PySem.W.wellAll_cons_inv hw
 cases hw'
 obtain ⟨a,us,rfl,ha,hi⟩:=well_list (ns:=ns) hv
 refine ⟨[.ref a],[(a,us,ns)],PyQl89.answers ns,.cons rfl .nil,⟨fun p z=>?_,fun p z=>?_,fun p z=>?_⟩,rfl,?_,fun H hH hT=>?_⟩
 ·obtain rfl:p=(a,us,ns):=by simpa using z
  exact ha
 ·obtain rfl:p=(a,us,ns):=by simpa using z
  exact hi
 ·obtain rfl:p=(a,us,ns):=by simpa using z
  exact Nat.le_trans hb.1 (by decide)
 ·exact (PySem.W.OpenSpec.post_iff said hin _ []).mpr rfl
 ·exact ⟨a,ns,rfl,hH (a,us,ns) (by simp),hask,Nat.le_trans hb.1 (by decide),.inl hT,fun L H' e=>⟨L,rfl,e⟩⟩
end Go
open PySem PySem.W PyProof.Rows
set_option maxRecDepth 100000 in
set_option maxHeartbeats 0 in
theorem PySem.Challenge.cw_goingon_s01_answers_holds : PySem.Challenge.rw_goingon_s01_answers.Holds := by
 w_on;k_headS;(case hw=>exact ⟨[.list [.int 11,.int 0]],by decide +kernel,by decide +kernel⟩)
 k_fillS
 refine L2.spec_walk2 (r:=PySem.Challenge.rw_goingon_s01_answers) (k:=17) (x:="choose") (CX:=fun _ _=>L2.CX0) (sp:=Go.spAnswers) (ps:=["calls"]) ⟨rfl,by decide,by decide⟩ (fun w h Y=>PySem.W.kIn_of Y) rfl ?F Go.hargs (fun _ _ _ _ _ _ z=>z)
 case F=>
  intro w mg fa h KX G hmg hTab
  refine' Go.all_mk KX G ?gC ?xo ?xn ?xi ?xa0 ?xa1 ?xa2 ?xa3 ?xa4 ?iF ?lF ?cF ?kF ?kcC ?xe ?gCR ?pgCR ?hdCR ?poCR ?saCR ?mkCR ?kcCR ?nCR0 ?nCR1 ?aRI ?iRI ?lRI ?cRI ?kRI ?aU ?iU ?lU ?cU ?kU ?aS ?iS ?lS ?cS ?kS ?aUW ?iUW ?lUW ?cUW ?kUW ?aNF ?iNF ?lNF ?cNF ?kNF ?aO ?lO ?cO ?kO ?aW ?lW ?cW ?kW ?gCM ?pgCM ?hdCM ?poCM ?saCM ?mkCM ?kcCM ?nCM0 ?nCM1 ?nCM2 ?aMI ?iMI ?lMI ?cMI ?kMI ?aSh ?lSh ?cSh ?kSh ?aM ?lM ?cM ?kM ?aL ?lL ?cL ?kL ?aB ?lB ?cB ?kB ?aE ?lE ?cE ?kE ?aSW ?iSW ?lSW ?cSW ?kSW ?gCN ?pgCN ?hdCN ?poCN ?saCN ?mkCN ?kcCN ?nCN0 ?nCN1 ?nCN2 ?nCN3 ?nCN4 ?nCN5 ?nCN6 ?nCN7 ?nCN8 ?nCN9 ?nCN10 ?nCN11 ?nCN12 ?nCN13 ?nCN14 ?gCL ?pgCL ?hdCL ?poCL ?saCL ?mkCL ?kcCL ?nCL0 ?nCL1 ?nCL2 ?nCL3 ?nCL4 ?nCL5 ?nCL6 ?nCL7 ?nCL8 ?aNI ?iNI ?lNI ?cNI ?kNI ?aLI ?iLI ?lLI ?cLI ?kLI ?aTLn ?lTLn ?cTLn ?kTLn ?aMK ?lMK ?cMK ?kMK ?aHD ?lHD ?cHD ?kHD ?aFAl ?lFAl ?cFAl ?kFAl ?aGA ?lGA ?cGA ?kGA ?aSC ?lSC ?cSC ?kSC ?aSL ?lSL ?cSL ?kSL ?aMM ?lMM ?gCK ?pgCK ?hdCK ?poCK ?saCK ?mkCK ?kcCK ?nCK0 ?nCK1 ?gCS ?pgCS ?hdCS ?poCS ?saCS ?mkCS ?kcCS ?nCS0 ?nCS1 ?nCS2 ?aPN ?lPN ?aNe ?lNe ?cNe ?kNe ?aHe ?lHe ?cHe ?kHe ?aRo ?lRo ?cRo ?kRo ?aLS ?lLS ?cLS ?kLS ?aWe ?lWe ?cWe ?kWe ?aFA ?lFA ?cFA ?kFA ?aWS ?lWS ?cWS ?kWS ?aMx ?lMx ?cMx ?kMx ?aJo ?lJo ?cJo ?kJo ?aLv ?lLv ?cLv ?kLv ?aTh ?lTh ?cTh ?kTh ?aPd ?lPd ?cPd ?kPd ?aLB ?lLB ?cLB ?kLB ?aEn ?lEn ?cEn ?kEn ?aPH ?lPH ?cPH ?kPH ?aPI ?lPI ?cPI ?kPI ?aPW ?lPW ?cPW ?kPW ?aWC ?lWC ?cWC ?kWC ?aCh ?lCh ?cCh ?kCh ?aCE ?lCE ?cCE ?kCE ?aON ?lON ?cON ?kON ?aKI ?iKI ?lKI ?cKI ?kKI ?aKP ?iKP ?lKP ?cKP ?kKP ?aKO ?iKO ?lKO ?cKO ?kKO ?aSI ?iSI ?lSI ?cSI ?kSI ?aBE ?iBE ?lBE ?cBE ?kBE ?aFE ?iFE ?lFE ?cFE ?kFE ?aFO ?iFO ?lFO ?cFO ?kFO ?aTE ?iTE ?lTE ?cTE ?kTE ?aGN ?iGN ?lGN ?cGN ?kGN ?aWR ?iWR ?lWR ?cWR ?kWR ?aSC2 ?iSC2 ?lSC2 ?cSC2 ?kSC2 ?aCO ?iCO ?lCO ?cCO ?kCO ?aTK ?iTK ?lTK ?cTK ?kTK ?lTC ?h11 ?tPn ?z_len ?z_min ?z_range ?z_reversed ?z_Exception ?z_zip ?z_list ?z_max ?z_sum ?z_sorted ?z_any ?v_MOST_ROWS ?v_MOST_COLUMNS ?v_MOST_PLACES ?v_BLOCK ?v_MOST_NET_BYTES ?v_TABLE_SIZE ?v_MOST_ADDED ?v_MOST_MULTIPLIED ?v_MOST_LEANING ?v_MOST_SHIFT ?v_MOST_FALL_SHIFT ?v_BYTE_TOP ?v_WORD_TOP ?v_MOST_AT_ONCE ?v_SEED_FACTOR ?v_SEED_STEP ?v_SEED_COUNT ?v_BEGIN ?v_FEED ?v_FORGET ?v_TELL ?v_GO_ON ?aQ ?lQ ?cQ ?kQ hmg hTab
  case gC | xo=>k_is
  case xn=>kernel_rfl
  case xi | xa0 | xa1 | xa2 | xa3 | xa4 | iF | lF | cF | kF | kcC=>k_is
  case xe=>first | kts_exm | kernel_rfl
  case gCR | pgCR | hdCR | poCR | saCR | mkCR | kcCR | nCR0 | nCR1 | aRI | iRI | lRI | cRI | kRI | aU | iU | lU | cU | kU | aS | iS | lS | cS | kS | aUW | iUW | lUW | cUW | kUW | aNF | iNF | lNF | cNF | kNF | aO | lO | cO | kO | aW | lW | cW | kW | gCM | pgCM | hdCM | poCM | saCM | mkCM | kcCM | nCM0 | nCM1 | nCM2 | aMI | iMI | lMI | cMI | kMI | aSh | lSh | cSh | kSh | aM | lM | cM | kM | aL | lL | cL | kL | aB | lB | cB | kB | aE | lE | cE | kE | aSW | iSW | lSW | cSW | kSW | gCN | pgCN | hdCN | poCN | saCN | mkCN | kcCN | nCN0 | nCN1 | nCN2 | nCN3 | nCN4 | nCN5 | nCN6 | nCN7 | nCN8 | nCN9 | nCN10 | nCN11 | nCN12 | nCN13 | nCN14 | gCL | pgCL | hdCL | poCL | saCL | mkCL | kcCL | nCL0 | nCL1 | nCL2 | nCL3 | nCL4 | nCL5 | nCL6 | nCL7 | nCL8 | aNI | iNI | lNI | cNI | kNI | aLI | iLI | lLI | cLI | kLI | aTLn | lTLn | cTLn | kTLn | aMK | lMK | cMK | kMK | aHD | lHD | cHD | kHD | aFAl | lFAl | cFAl | kFAl | aGA | lGA | cGA | kGA | aSC | lSC | cSC | kSC | aSL | lSL | cSL | kSL | aMM | lMM | gCK | pgCK | hdCK | poCK | saCK | mkCK | kcCK | nCK0 | nCK1 | gCS | pgCS | hdCS | poCS | saCS | mkCS | kcCS | nCS0 | nCS1 | nCS2 | aPN | lPN | aNe | lNe | cNe | kNe | aHe | lHe | cHe | kHe | aRo | lRo | cRo | kRo | aLS | lLS | cLS | kLS | aWe | lWe | cWe | kWe | aFA | lFA | cFA | kFA | aWS | lWS | cWS | kWS | aMx | lMx | cMx | kMx | aJo | lJo | cJo | kJo | aLv | lLv | cLv | kLv | aTh | lTh | cTh | kTh | aPd | lPd | cPd | kPd | aLB | lLB | cLB | kLB | aEn | lEn | cEn | kEn | aPH | lPH | cPH | kPH | aPI | lPI | cPI | kPI | aPW | lPW | cPW | kPW | aWC | lWC | cWC | kWC | aCh | lCh | cCh | kCh | aCE | lCE | cCE | kCE | aON | lON | cON | kON | aKI | iKI | lKI | cKI | kKI | aKP | iKP | lKP | cKP | kKP | aKO | iKO | lKO | cKO | kKO | aSI | iSI | lSI | cSI | kSI | aBE | iBE | lBE | cBE | kBE | aFE | iFE | lFE | cFE | kFE | aFO | iFO | lFO | cFO | kFO | aTE | iTE | lTE | cTE | kTE | aGN | iGN | lGN | cGN | kGN | aWR | iWR | lWR | cWR | kWR | aSC2 | iSC2 | lSC2 | cSC2 | kSC2 | aCO | iCO | lCO | cCO | kCO | aTK | iTK | lTK | cTK | kTK | lTC=>k_is
  case h11=>first | rfl | kernel_rfl
  case tPn=>kernel_rfl
  case z_len | z_min | z_range | z_reversed | z_Exception | z_zip | z_list | z_max | z_sum | z_sorted | z_any | v_MOST_ROWS | v_MOST_COLUMNS | v_MOST_PLACES | v_BLOCK | v_MOST_NET_BYTES | v_TABLE_SIZE | v_MOST_ADDED | v_MOST_MULTIPLIED | v_MOST_LEANING | v_MOST_SHIFT | v_MOST_FALL_SHIFT | v_BYTE_TOP | v_WORD_TOP | v_MOST_AT_ONCE | v_SEED_FACTOR | v_SEED_STEP | v_SEED_COUNT | v_BEGIN | v_FEED | v_FORGET | v_TELL | v_GO_ON | aQ | lQ | cQ | kQ=>k_is
