import PyProof.Rows.All
import Wide.All
import OpenK.AllK
import Wide.FinOn
import HandS.ForMost
import HandS.ForExc
import HandS.IsInst
import HandS.Wide
import HandS.More
import HandS.CallSlots
import HandS.Flow
import HandS.Zip
import HandS.SortInts
import HandS.TupAny
import HandS.Iter
import HandS.WordsDict
import HandS.RaiseMore
import HandS.TupLen
import HandS.Style
import HandS.Star
import HandS.Conv
import PyProof.SumWalkG
import PyProof.WalksMore
import PyProof.Rows.SumAny
import HandS.MakeKw
import HandS.FStr
import HandS.DictComp
import HandS.SlotsOwn
import HandS.OwnEq
import KE.KCallOwn
import PyProof.InstNe
import HandS.Codes
import HandS.Deep
import PySem.Challenge.RW_needleblind_k10_circuit_texts_there_and
set_option Elab.async false
set_option linter.all false
set_option maxRecDepth 100000
set_option maxHeartbeats 4000000
/-! A model layer over the hand layer: values with tuples by value, a heap by numbers, and for each construct a function of these. -/
namespace Mo
open PySem PySem.Spec PyProof.Rows L2

/-- a value: tuples by value, objects that change by their number; glo: what a global name holds -/
inductive D where
  | non | bl (b : Bool) | int (i : Int) | str (x : Str) | tup (ds : List D) | kt (ds : List D) | ref (n : Nat) | ty (n : String) | glo (x : Str)
/-- an object -/
inductive MO where
  | lst (ds : List D) | fls (ds : List D) | dk (kvs : List (Key × D)) | dt (kvs : List (List Key × D)) | zk (kvs : List (Key × D)) | zt (kvs : List (List Key × D)) | ins (c : Str) (fs : List (Str × D))
abbrev Mh := List MO
abbrev Ren := List Addr
abbrev Sg := List (Option D)
def MO.mu : MO → Bool
  | .fls _ => false
  | _ => true

/-! ### how it stands in the abstract heap -/
section
variable (K : PySem.W.Frag) (mg : Str → Option Value) (ρ : Ren) (H : Hp)
mutual
inductive RV : V → D → Prop
  | non : RV .non .non
  | bl (b : Bool) : RV (.bl b) (.bl b)
  | int (i : Int) : RV (.int i) (.int i)
  | str (x : Str) : RV (.str x) (.str x)
  | ty (n : String) : RV (.ty n) (.ty n)
  | ref {n : Nat} {a : Addr} : ρ[n]? = some a → RV (.ref a) (.ref n)
  | glo {x : Str} {a : Addr} : mg x = some (.ref a) → RV (.ref a) (.glo x)
  | tup {a : Addr} {vs : List V} {ds : List D} : H a = some (.tup vs) → RVs vs ds → RV (.ref a) (.tup ds)
  | kt {a : Addr} {vs : List V} {ds : List D} : SqT K H a vs → RVs vs ds → RV (.ref a) (.kt ds)
inductive RVs : List V → List D → Prop
  | nil : RVs [] []
  | cons {v : V} {vs : List V} {d : D} {ds : List D} : RV v d → RVs vs ds → RVs (v :: vs) (d :: ds)
end
/-- a list that is never changed -/
def FzL (a : Addr) (vs : List V) : Prop := (∃ o, H a = some (.frz o (.lst vs))) ∨
  ∃ (o : Obj) (its : Array Value) (n : Nat), K.lookup a = some o ∧ o.cls = .type "list" ∧ o.dict = none ∧ o.data = .seq its n ∧ its.size ≤ sizeLine ∧ Vals vs its.toList
inductive RO (a : Addr) : MO → Prop
  | lst {vs : List V} {ds : List D} : H a = some (.lst vs) → RVs K mg ρ H vs ds → RO a (.lst ds)
  | fls {vs : List V} {ds : List D} : FzL K H a vs → RVs K mg ρ H vs ds → RO a (.fls ds)
  | dk {kvs : List (Key × V)} {kds : List (Key × D)} : H a = some (.dK kvs) → kvs.map (·.1) = kds.map (·.1) → RVs K mg ρ H (kvs.map (·.2)) (kds.map (·.2)) → RO a (.dk kds)
  | dt {kvs : List (List Key × V)} {kds : List (List Key × D)} : H a = some (.dT kvs) → kvs.map (·.1) = kds.map (·.1) → RVs K mg ρ H (kvs.map (·.2)) (kds.map (·.2)) → RO a (.dt kds)
  | zk {o : Obj} {kvs : List (Key × V)} {kds : List (Key × D)} : H a = some (.frz o (.dK kvs)) → kvs.map (·.1) = kds.map (·.1) → RVs K mg ρ H (kvs.map (·.2)) (kds.map (·.2)) → RO a (.zk kds)
  | zt {o : Obj} {kvs : List (List Key × V)} {kds : List (List Key × D)} : H a = some (.frz o (.dT kvs)) → kvs.map (·.1) = kds.map (·.1) → RVs K mg ρ H (kvs.map (·.2)) (kds.map (·.2)) → RO a (.zt kds)
  | ins {c : Str} {C dx : Addr} {fv : List (Str × V)} {fd : List (Str × D)} : mg c = some (.ref C) → H a = some (.ins C dx fv) → fv.map (·.1) = fd.map (·.1) → RVs K mg ρ H (fv.map (·.2)) (fd.map (·.2)) → RO a (.ins c fd)
end
structure RHp (K : PySem.W.Frag) (mg : Str → Option Value) (ρ : Ren) (H : Hp) (h : Mh) : Prop where
  len : ρ.length = h.length
  obj : ∀ (n : Nat) (a : Addr) (o : MO), ρ[n]? = some a → h[n]? = some o → RO K mg ρ H a o
  inj : ∀ (n m : Nat) (a : Addr) (o u : MO), ρ[n]? = some a → ρ[m]? = some a → h[n]? = some o → h[m]? = some u → o.mu = true → u.mu = true → n = m
structure Lw (K : PySem.W.Frag) (ρ : Ren) (H : Hp) (ρ' : Ren) (H' : Hp) : Prop where
  pre : ∀ (n : Nat) (a : Addr), ρ[n]? = some a → ρ'[n]? = some a
  tup : ∀ a vs, SqT K H a vs → SqT K H' a vs
  tpl : ∀ (a : Addr) (vs : List V), H a = some (.tup vs) → H' a = some (.tup vs)
structure Le (K : PySem.W.Frag) (ρ : Ren) (H : Hp) (ρ' : Ren) (H' : Hp) : Prop where
  pre : ∀ (n : Nat) (a : Addr), ρ[n]? = some a → ρ'[n]? = some a
  tup : ∀ a vs, SqT K H a vs → SqT K H' a vs
  tpl : ∀ (a : Addr) (vs : List V), H a = some (.tup vs) → H' a = some (.tup vs)
  frz : ∀ (a : Addr) (o : Obj) (u : HO), H a = some (.frz o u) → H' a = some (.frz o u)
structure RSt (K : PySem.W.Frag) (mg : Str → Option Value) (ρ : Ren) (H : Hp) (σ : L2.St) (sg : Sg) : Prop where
  len : σ.length = sg.length
  val : ∀ (i : Nat) (d : D), sg[i]? = some (some d) → ∃ v, σ[i]? = some (some v) ∧ RV K mg ρ H v d

section
variable {K : PySem.W.Frag} {mg : Str → Option Value} {ρ ρ' ρ'' : Ren} {H H' H'' : Hp}
theorem Le.refl : Le K ρ H ρ H := ⟨fun _ _ h => h, fun _ _ h => h, fun _ _ h => h, fun _ _ _ h => h⟩
theorem Le.w (l : Le K ρ H ρ' H') : Lw K ρ H ρ' H' := ⟨l.pre, l.tup, l.tpl⟩
theorem Le.trans (a : Le K ρ H ρ' H') (b : Le K ρ' H' ρ'' H'') : Le K ρ H ρ'' H'' := ⟨fun n x h => b.pre n x (a.pre n x h), fun x vs h => b.tup x vs (a.tup x vs h), fun x vs h => b.tpl x vs (a.tpl x vs h), fun x o u h => b.frz x o u (a.frz x o u h)⟩
mutual
theorem RV.monoW (le : Lw K ρ H ρ' H') : ∀ {v : V} {d : D}, RV K mg ρ H v d → RV K mg ρ' H' v d
  | _, _, .non => .non
  | _, _, .bl b => .bl b
  | _, _, .int i => .int i
  | _, _, .str x => .str x
  | _, _, .ty n => .ty n
  | _, _, .ref h => .ref (le.pre _ _ h)
  | _, _, .glo h => .glo h
  | _, _, .tup h r => .tup (le.tpl _ _ h) (RVs.monoW le r)
  | _, _, .kt h r => .kt (le.tup _ _ h) (RVs.monoW le r)
theorem RVs.monoW (le : Lw K ρ H ρ' H') : ∀ {vs : List V} {ds : List D}, RVs K mg ρ H vs ds → RVs K mg ρ' H' vs ds
  | _, _, .nil => .nil
  | _, _, .cons r t => .cons (RV.monoW le r) (RVs.monoW le t)
end
theorem RV.mono (le : Le K ρ H ρ' H') {v : V} {d : D} (r : RV K mg ρ H v d) : RV K mg ρ' H' v d := r.monoW le.w
theorem RVs.mono (le : Le K ρ H ρ' H') {vs : List V} {ds : List D} (r : RVs K mg ρ H vs ds) : RVs K mg ρ' H' vs ds := r.monoW le.w
theorem RSt.mono {σ : L2.St} {sg : Sg} (le : Le K ρ H ρ' H') (r : RSt K mg ρ H σ sg) : RSt K mg ρ' H' σ sg := ⟨r.len, fun i d h => let ⟨v, e, q⟩ := r.val i d h; ⟨v, e, q.mono le⟩⟩
theorem RVs.length : ∀ {vs : List V} {ds : List D}, RVs K mg ρ H vs ds → vs.length = ds.length
  | _, _, .nil => rfl
  | _, _, .cons _ t => congrArg (· + 1) (RVs.length t)
theorem RVs.get : ∀ {vs : List V} {ds : List D} {i : Nat} {d : D}, RVs K mg ρ H vs ds → ds[i]? = some d → ∃ v, vs[i]? = some v ∧ RV K mg ρ H v d
  | _, _, _, _, .nil, e => by simp at e
  | _, _, 0, _, .cons r _, e => by simp at e; subst e; exact ⟨_, rfl, r⟩
  | _, _, i + 1, d, .cons _ t, e => by
    obtain ⟨v, h1, h2⟩ := RVs.get (i := i) (d := d) t (by simpa using e)
    exact ⟨v, by simpa using h1, h2⟩
theorem RVs.getV : ∀ {vs : List V} {ds : List D} {i : Nat} {v : V}, RVs K mg ρ H vs ds → vs[i]? = some v → ∃ d, ds[i]? = some d ∧ RV K mg ρ H v d
  | _, _, _, _, .nil, e => by simp at e
  | _, _, 0, _, .cons r _, e => by simp at e; subst e; exact ⟨_, rfl, r⟩
  | _, _, i + 1, v, .cons _ t, e => by
    obtain ⟨d, h1, h2⟩ := RVs.getV (i := i) (v := v) t (by simpa using e)
    exact ⟨d, by simpa using h1, h2⟩
theorem RVs.append : ∀ {vs ws : List V} {ds es : List D}, RVs K mg ρ H vs ds → RVs K mg ρ H ws es → RVs K mg ρ H (vs ++ ws) (ds ++ es)
  | _, _, _, _, .nil, s => s
  | _, _, _, _, .cons r t, s => .cons r (RVs.append t s)
theorem RVs.take : ∀ {vs : List V} {ds : List D} (n : Nat), RVs K mg ρ H vs ds → RVs K mg ρ H (vs.take n) (ds.take n)
  | _, _, 0, _ => .nil
  | _, _, _ + 1, .nil => .nil
  | _, _, n + 1, .cons r t => .cons r (RVs.take n t)
theorem RVs.drop : ∀ {vs : List V} {ds : List D} (n : Nat), RVs K mg ρ H vs ds → RVs K mg ρ H (vs.drop n) (ds.drop n)
  | _, _, 0, r => r
  | _, _, _ + 1, .nil => .nil
  | _, _, n + 1, .cons _ t => RVs.drop n t
theorem RVs.set : ∀ {vs : List V} {ds : List D} (n : Nat) {v : V} {d : D}, RVs K mg ρ H vs ds → RV K mg ρ H v d → RVs K mg ρ H (vs.set n v) (ds.set n d)
  | _, _, _, _, _, .nil, _ => .nil
  | _, _, 0, _, _, .cons _ t, q => .cons q t
  | _, _, n + 1, _, _, .cons r t, q => .cons r (RVs.set n t q)
theorem RVs.reverse {vs : List V} {ds : List D} (r : RVs K mg ρ H vs ds) : RVs K mg ρ H vs.reverse ds.reverse := by
  induction vs generalizing ds with
  | nil => cases r; exact .nil
  | cons v vs ih =>
    cases r with
    | cons r t =>
      rw [List.reverse_cons, List.reverse_cons]
      exact (ih t).append (.cons r .nil)
theorem RVs.eraseIdx : ∀ {vs : List V} {ds : List D} (n : Nat), RVs K mg ρ H vs ds → RVs K mg ρ H (vs.eraseIdx n) (ds.eraseIdx n)
  | _, _, _, .nil => .nil
  | _, _, 0, .cons _ t => t
  | _, _, n + 1, .cons r t => .cons r (RVs.eraseIdx n t)
theorem RVs.ints : ∀ {vs : List V} {ns : List Int}, RVs K mg ρ H vs (ns.map D.int) → vs = ns.map V.int
  | _, [], .nil => rfl
  | _, n :: ns, .cons r t => by cases r; rw [RVs.ints t]; rfl
theorem RVs.ofInts : ∀ (ns : List Int), RVs K mg ρ H (ns.map V.int) (ns.map D.int)
  | [] => .nil
  | n :: ns => .cons (.int n) (RVs.ofInts ns)
theorem RVs.strs : ∀ {vs : List V} {ns : List Str}, RVs K mg ρ H vs (ns.map D.str) → vs = ns.map V.str
  | _, [], .nil => rfl
  | _, n :: ns, .cons r t => by cases r; rw [RVs.strs t]; rfl
theorem RVs.ofStrs : ∀ (ns : List Str), RVs K mg ρ H (ns.map V.str) (ns.map D.str)
  | [] => .nil
  | n :: ns => .cons (.str n) (RVs.ofStrs ns)
theorem RVs.bools : ∀ {vs : List V} {ns : List Bool}, RVs K mg ρ H vs (ns.map D.bl) → vs = ns.map V.bl
  | _, [], .nil => rfl
  | _, n :: ns, .cons r t => by cases r; rw [RVs.bools t]; rfl

/-! ### new objects, changes -/
theorem SqT.upd_new {a p : Addr} {o : HO} {vs : List V} (hp : H p = none) (h : SqT K H a vs) : SqT K (upd H p o) a vs := by
  rcases h with (h | ⟨u, h⟩) | h
  · exact .inl (.inl (by rw [upd_ne (ne_of_none h hp)]; exact h))
  · exact .inl (.inr ⟨u, by rw [upd_ne (ne_of_none h hp)]; exact h⟩)
  · exact .inr h
theorem FzL.sq {a : Addr} {vs : List V} (h : FzL K H a vs) : SqL K H a vs := by
  rcases h with ⟨u, h⟩ | h
  · exact .inl (.inr ⟨u, h⟩)
  · exact .inr h
theorem FzL.upd_new {a p : Addr} {o : HO} {vs : List V} (hp : H p = none) (h : FzL K H a vs) : FzL K (upd H p o) a vs := by
  rcases h with ⟨u, h⟩ | h
  · exact .inl ⟨u, by rw [upd_ne (ne_of_none h hp)]; exact h⟩
  · exact .inr h
theorem Le.new {p : Addr} {o : HO} (hp : H p = none) : Le K ρ H ρ (upd H p o) := ⟨fun _ _ h => h, fun _ _ h => SqT.upd_new hp h, fun _ _ h => by rw [upd_ne (ne_of_none h hp)]; exact h, fun _ _ _ h => by rw [upd_ne (ne_of_none h hp)]; exact h⟩
theorem RO.new {a p : Addr} {o : HO} {u : MO} (hp : H p = none) (le : Le K ρ H ρ' (upd H p o)) (r : RO K mg ρ H a u) : RO K mg ρ' (upd H p o) a u := by
  cases r with
  | lst h r => exact .lst (by rw [upd_ne (ne_of_none h hp)]; exact h) (r.mono le)
  | fls h r => exact .fls (FzL.upd_new hp h) (r.mono le)
  | dk h e r => exact .dk (by rw [upd_ne (ne_of_none h hp)]; exact h) e (r.mono le)
  | dt h e r => exact .dt (by rw [upd_ne (ne_of_none h hp)]; exact h) e (r.mono le)
  | zk h e r => exact .zk (by rw [upd_ne (ne_of_none h hp)]; exact h) e (r.mono le)
  | zt h e r => exact .zt (by rw [upd_ne (ne_of_none h hp)]; exact h) e (r.mono le)
  | ins g h e r => exact .ins g (by rw [upd_ne (ne_of_none h hp)]; exact h) e (r.mono le)
/-- an object is made that the model does not count (a tuple) -/
theorem RHp.made {h : Mh} {p : Addr} {o : HO} (r : RHp K mg ρ H h) (hp : H p = none) : RHp K mg ρ (upd H p o) h :=
  ⟨r.len, fun n a u e1 e2 => (r.obj n a u e1 e2).new hp (Le.new hp), r.inj⟩
theorem RO.there {a : Addr} {u : MO} (r : RO K mg ρ H a u) (m : u.mu = true) : ∃ o, H a = some o := by
  cases r with
  | lst h _ => exact ⟨_, h⟩
  | fls _ _ => cases m
  | dk h _ _ => exact ⟨_, h⟩
  | dt h _ _ => exact ⟨_, h⟩
  | zk h _ _ => exact ⟨_, h⟩
  | zt h _ _ => exact ⟨_, h⟩
  | ins _ h _ _ => exact ⟨_, h⟩
theorem Le.grow {p : Addr} {o : HO} (hp : H p = none) : Le K ρ H (ρ ++ [p]) (upd H p o) := ⟨fun n a h => by
  rw [List.getElem?_append_left (List.getElem?_eq_some_iff.mp h).1]; exact h, fun _ _ h => SqT.upd_new hp h, fun _ _ h => by rw [upd_ne (ne_of_none h hp)]; exact h, fun _ _ _ h => by rw [upd_ne (ne_of_none h hp)]; exact h⟩
/-- an object is made that the model counts -/
theorem RHp.grow {h : Mh} {p : Addr} {o : HO} {u : MO} (r : RHp K mg ρ H h) (hp : H p = none) (new : RO K mg (ρ ++ [p]) (upd H p o) p u) : RHp K mg (ρ ++ [p]) (upd H p o) (h ++ [u]) := by
  have at1 : ∀ {n : Nat} {a : Addr} {x : MO}, (ρ ++ [p])[n]? = some a → (h ++ [u])[n]? = some x → (ρ[n]? = some a ∧ h[n]? = some x) ∨ (n = h.length ∧ a = p ∧ x = u) := fun {n a x} e1 e2 => by
    by_cases hn : n < h.length
    · rw [List.getElem?_append_left (by rw [r.len]; exact hn)] at e1
      rw [List.getElem?_append_left hn] at e2
      exact .inl ⟨e1, e2⟩
    · have hn' : n = h.length := by
        have := (List.getElem?_eq_some_iff.mp e2).1
        rw [List.length_append, List.length_singleton] at this
        omega
      subst hn'
      rw [List.getElem?_append_right (by rw [r.len]; exact Nat.le_refl _), r.len, Nat.sub_self] at e1
      rw [List.getElem?_append_right (Nat.le_refl _), Nat.sub_self] at e2
      exact .inr ⟨rfl, (Option.some.inj e1).symm, (Option.some.inj e2).symm⟩
  refine ⟨by rw [List.length_append, List.length_append, r.len]; rfl, fun n a x e1 e2 => ?_, fun n m a x y e1 e2 e3 e4 m1 m2 => ?_⟩
  · rcases at1 e1 e2 with ⟨f1, f2⟩ | ⟨_, rfl, rfl⟩
    · exact (r.obj n a x f1 f2).new hp (Le.grow hp)
    · exact new
  · rcases at1 e1 e3 with ⟨f1, f2⟩ | ⟨n1, n2, n3⟩
    · rcases at1 e2 e4 with ⟨g1, g2⟩ | ⟨k1, k2, k3⟩
      · exact r.inj n m a x y f1 g1 f2 g2 m1 m2
      · obtain ⟨o', h'⟩ := (r.obj n a x f1 f2).there m1
        rw [k2, hp] at h'; cases h'
    · rcases at1 e2 e4 with ⟨g1, g2⟩ | ⟨k1, _, _⟩
      · obtain ⟨o', h'⟩ := (r.obj m a y g1 g2).there m2
        rw [n2, hp] at h'; cases h'
      · rw [n1, k1]
theorem RHp.at_new {h : Mh} {p : Addr} (r : RHp K mg ρ H h) : (ρ ++ [p])[h.length]? = some p := by
  rw [List.getElem?_append_right (by rw [r.len]; exact Nat.le_refl _), r.len, Nat.sub_self]; rfl
def notTup : HO → Prop
  | .lst _ => True
  | .dK _ => True
  | .dT _ => True
  | .ins _ _ _ => True
  | _ => False
/-- nor is what is locked a tuple -/
def notTupW : HO → Prop
  | .lst _ => True
  | .dK _ => True
  | .dT _ => True
  | .ins _ _ _ => True
  | .frz _ (.dK _) => True
  | .frz _ (.dT _) => True
  | _ => False
theorem Lw.write {a : Addr} {o o' : HO} (ha : H a = some o) (nt : notTupW o) : Lw K ρ H ρ (upd H a o') := ⟨fun _ _ h => h, fun b vs h => by
  rcases h with (h | ⟨u, h⟩) | h
  · refine .inl (.inl ?_)
    rw [upd_ne (by intro e; subst e; rw [ha] at h; cases h; exact nt)]; exact h
  · refine .inl (.inr ⟨u, ?_⟩)
    rw [upd_ne (by intro e; subst e; rw [ha] at h; cases h; exact nt)]; exact h
  · exact .inr h, fun b vs h => by rw [upd_ne (by intro e; subst e; rw [ha] at h; cases h; exact nt)]; exact h⟩
theorem notTup.w {o : HO} (h : notTup o) : notTupW o := by
  cases o <;> first | exact h | exact h.elim
theorem Le.write {a : Addr} {o o' : HO} (ha : H a = some o) (nt : notTup o) : Le K ρ H ρ (upd H a o') := ⟨fun _ _ h => h, (Lw.write (ρ := ρ) ha nt.w).tup, (Lw.write (K := K) (ρ := ρ) ha nt.w).tpl,
  fun b o1 u h => by rw [upd_ne (by intro e; subst e; rw [ha] at h; cases h; exact nt)]; exact h⟩
/-- an object is changed -/
theorem RHp.write {h : Mh} {n : Nat} {a : Addr} {o o' : HO} {x u : MO} (r : RHp K mg ρ H h) (hn : ρ[n]? = some a) (hx : h[n]? = some x) (mx : x.mu = true) (mu' : u.mu = true) (ha : H a = some o) (nt : notTupW o)
    (new : RO K mg ρ (upd H a o') a u) : RHp K mg ρ (upd H a o') (h.set n u) := by
  have le : Lw K ρ H ρ (upd H a o') := Lw.write ha nt
  refine ⟨by rw [List.length_set]; exact r.len, fun m b y e1 e2 => ?_, fun m k b y z e1 e2 e3 e4 m1 m2 => ?_⟩
  · by_cases hm : m = n
    · subst hm
      rw [hn] at e1; cases e1
      rw [List.getElem?_set_self (List.getElem?_eq_some_iff.mp hx).1] at e2
      cases e2
      exact new
    · rw [List.getElem?_set_ne (Ne.symm hm)] at e2
      have ro := r.obj m b y e1 e2
      have nb : y.mu = true → b ≠ a := fun my e => hm (r.inj m n a y x (by rw [← e]; exact e1) hn e2 hx my mx)
      cases ro with
      | lst h1 r1 => exact .lst (by rw [upd_ne (nb rfl)]; exact h1) (r1.monoW le)
      | fls h1 r1 =>
        refine .fls ?_ (r1.monoW le)
        rcases h1 with ⟨q, h1⟩ | h1
        · exact .inl ⟨q, by rw [upd_ne (by intro e; subst e; rw [ha] at h1; cases h1; exact nt)]; exact h1⟩
        · exact .inr h1
      | dk h1 e r1 => exact .dk (by rw [upd_ne (nb rfl)]; exact h1) e (r1.monoW le)
      | dt h1 e r1 => exact .dt (by rw [upd_ne (nb rfl)]; exact h1) e (r1.monoW le)
      | zk h1 e r1 => exact .zk (by rw [upd_ne (nb rfl)]; exact h1) e (r1.monoW le)
      | zt h1 e r1 => exact .zt (by rw [upd_ne (nb rfl)]; exact h1) e (r1.monoW le)
      | ins g h1 e r1 => exact .ins g (by rw [upd_ne (nb rfl)]; exact h1) e (r1.monoW le)
  · have back : ∀ {j : Nat} {y : MO}, (h.set n u)[j]? = some y → y.mu = true → ∃ y', h[j]? = some y' ∧ y'.mu = true := fun {j y} e m => by
      by_cases hj : j = n
      · subst hj; exact ⟨x, hx, mx⟩
      · rw [List.getElem?_set_ne (Ne.symm hj)] at e; exact ⟨y, e, m⟩
    obtain ⟨y', f1, f2⟩ := back e3 m1
    obtain ⟨z', g1, g2⟩ := back e4 m2
    exact r.inj m k b y' z' e1 e2 f1 g1 f2 g2
end
end Mo

namespace Mo
open PySem PySem.Spec PyProof.Rows L2

/-! ### what comes of a step -/
inductive R (α : Type) where
  | ok (a : α) (h : Mh) | exc (c : Str) (fs : List (Str × D)) (h : Mh) | bad
def R.bind {α β : Type} : R α → (α → Mh → R β) → R β
  | .ok a h, f => f a h
  | .exc c fs h, _ => .exc c fs h
  | .bad, _ => .bad
theorem R.bind_ok {α β : Type} {a : α} {h : Mh} {f : α → Mh → R β} : (R.ok a h).bind f = f a h := rfl
theorem R.bind_bad {α β : Type} {f : α → Mh → R β} : (R.bad : R α).bind f = .bad := rfl
theorem R.bind_exc {α β : Type} {c fs h} {f : α → Mh → R β} : (R.exc c fs h : R α).bind f = .exc c fs h := rfl
theorem R.bind_assoc {α β γ : Type} (r : R α) (f : α → Mh → R β) (g : β → Mh → R γ) : (r.bind f).bind g = r.bind fun a h => (f a h).bind g := by cases r <;> rfl
inductive RS where
  | nx (sg : Sg) (h : Mh) | rt (d : D) (h : Mh) | bk (sg : Sg) (h : Mh) | ct (sg : Sg) (h : Mh) | exc (c : Str) (fs : List (Str × D)) (sg : Sg) (h : Mh) | bad
/-- an expression's outcome, then a statement's -/
def R.th {α : Type} : R α → Sg → (α → Mh → RS) → RS
  | .ok a h, _, f => f a h
  | .exc c fs h, sg, _ => .exc c fs sg h
  | .bad, _, _ => .bad
theorem R.th_ok {α : Type} {a : α} {h : Mh} {sg : Sg} {f : α → Mh → RS} : (R.ok a h).th sg f = f a h := rfl
theorem R.th_bind {α β : Type} (r : R α) (f : α → Mh → R β) (sg : Sg) (g : β → Mh → RS) : (r.bind f).th sg g = r.th sg fun a h => (f a h).th sg g := by cases r <;> rfl
/-- a statement, then the next -/
def RS.th : RS → (Sg → Mh → RS) → RS
  | .nx sg h, f => f sg h
  | r, _ => r

section
variable (K : PySem.W.Frag) (mg : Str → Option Value)
def RX (ρ : Ren) (H : Hp) (dx : Option Addr) (fs : List (Str × D)) : Prop := match dx with
  | none => fs = []
  | some d => ∃ fv : List (Str × V), H d = some (.xd fv) ∧ fv.map (·.1) = fs.map (·.1) ∧ RVs K mg ρ H (fv.map (·.2)) (fs.map (·.2))
def WG {α β : Type} (rel : Ren → Hp → β → α → Prop) (W : WX) (σ : L2.St) (Q : β → Hp → Prop) (ρ : Ren) (H : Hp) : R α → Prop
  | .ok a h' => ∀ ρ' H' v, Le K ρ H ρ' H' → RHp K mg ρ' H' h' → rel ρ' H' v a → Q v H'
  | .exc c fs h' => ∀ ρ' H' C dx, Le K ρ H ρ' H' → RHp K mg ρ' H' h' → mg c = some (.ref C) → RX K mg ρ' H' dx fs → W (.ref C) dx σ H'
  | .bad => False
abbrev WV (W : WX) (σ : L2.St) (Q : VK) (ρ : Ren) (H : Hp) : R D → Prop := WG K mg (RV K mg) W σ Q ρ H
def TM (W : WX) (m : Sg → Mh → R D) : TE := fun σ H Q => ∃ ρ sg h, RSt K mg ρ H σ sg ∧ RHp K mg ρ H h ∧ WG K mg (RV K mg) W σ Q ρ H (m sg h)
def TMb (W : WX) (m : Sg → Mh → R Bool) : TT := fun σ H Q => ∃ ρ sg h, RSt K mg ρ H σ sg ∧ RHp K mg ρ H h ∧ WG K mg (fun _ _ v a => v = a) W σ Q ρ H (m sg h)
def TMl (W : WX) (m : Sg → Mh → R (List D)) : TA := fun σ H Q => ∃ ρ sg h, RSt K mg ρ H σ sg ∧ RHp K mg ρ H h ∧ WG K mg (RVs K mg) W σ Q ρ H (m sg h)
def WS (W : WX) (E : Ends) (ρ : Ren) (H : Hp) : RS → Prop
  | .nx sg' h' => ∀ ρ' H' σ', Le K ρ H ρ' H' → RHp K mg ρ' H' h' → RSt K mg ρ' H' σ' sg' → E.nx σ' H'
  | .rt d h' => ∀ ρ' H' v, Le K ρ H ρ' H' → RHp K mg ρ' H' h' → RV K mg ρ' H' v d → E.rt v H'
  | .bk sg' h' => ∀ ρ' H' σ', Le K ρ H ρ' H' → RHp K mg ρ' H' h' → RSt K mg ρ' H' σ' sg' → E.bk σ' H'
  | .ct sg' h' => ∀ ρ' H' σ', Le K ρ H ρ' H' → RHp K mg ρ' H' h' → RSt K mg ρ' H' σ' sg' → E.ct σ' H'
  | .exc c fs sg' h' => ∀ ρ' H' σ' C dx, Le K ρ H ρ' H' → RHp K mg ρ' H' h' → RSt K mg ρ' H' σ' sg' → mg c = some (.ref C) → RX K mg ρ' H' dx fs → W (.ref C) dx σ' H'
  | .bad => False
def TMS (W : WX) (m : Sg → Mh → RS) : TS := fun E σ H => ∃ ρ sg h, RSt K mg ρ H σ sg ∧ RHp K mg ρ H h ∧ WS K mg W E ρ H (m sg h)
end
structure PM (X : Cx) (W : WX) (e : Expr) (m : Sg → Mh → R D) : Prop where
  pe : PE X e (TM X.K X.mg W m)
structure PB (X : Cx) (W : WX) (e : Expr) (m : Sg → Mh → R Bool) : Prop where
  pt : PT X e (TMb X.K X.mg W m)
structure PL (X : Cx) (W : WX) (es : List Expr) (m : Sg → Mh → R (List D)) : Prop where
  pa : PA X es (TMl X.K X.mg W m)
structure PSM (X : Cx) (W : WX) (st : Stmt) (m : Sg → Mh → RS) : Prop where
  ps : PS X st (TMS X.K X.mg W m)
structure PSL (X : Cx) (W : WX) (st : List Stmt) (m : Sg → Mh → RS) : Prop where
  ps : PSs X st (TMS X.K X.mg W m)

theorem PEimp {X : Cx} {e : Expr} {t t' : TE} (h : PE X e t) (i : ∀ σ H Q, t' σ H Q → t σ H Q) : PE X e t' := ⟨fun pins s σ H Q I hw => h.run pins s σ H Q I (i _ _ _ hw)⟩
theorem PTimp {X : Cx} {e : Expr} {t t' : TT} (h : PT X e t) (i : ∀ σ H Q, t' σ H Q → t σ H Q) : PT X e t' := ⟨fun pins s σ H Q I hw => h.run pins s σ H Q I (i _ _ _ hw)⟩
theorem PAimp {X : Cx} {e : List Expr} {t t' : TA} (h : PA X e t) (i : ∀ σ H Q, t' σ H Q → t σ H Q) : PA X e t' := ⟨fun pos pins s σ H Q I hw => h.run pos pins s σ H Q I (i _ _ _ hw)⟩
theorem PSimp {X : Cx} {e : Stmt} {t t' : TS} (h : PS X e t) (i : ∀ E σ H, t' E σ H → t E σ H) : PS X e t' := ⟨fun pins s σ H D I hw => h.run pins s σ H D I (i _ _ _ hw)⟩
theorem PSsimp {X : Cx} {e : List Stmt} {t t' : TS} (h : PSs X e t) (i : ∀ E σ H, t' E σ H → t E σ H) : PSs X e t' := ⟨fun pins s σ H D I hw => h.run pins s σ H D I (i _ _ _ hw)⟩
theorem PIimp {X : Cx} {g e : Expr} {t t' : TI} (h : PI X g e t) (i : ∀ σ H Q, t' σ H Q → t σ H Q) : PI X g e t' := ⟨fun pins s σ H R I hw => h.run pins s σ H R I (i _ _ _ hw)⟩
theorem PEor {X : Cx} {e : Expr} {t t' : TE} (h : PE X e t) (h' : PE X e t') : PE X e (fun σ H Q => t σ H Q ∨ t' σ H Q) := ⟨fun pins s σ H Q I hw => hw.elim (h.run pins s σ H Q I) (h'.run pins s σ H Q I)⟩
theorem PIor {X : Cx} {g e : Expr} {t t' : TI} (h : PI X g e t) (h' : PI X g e t') : PI X g e (fun σ H Q => t σ H Q ∨ t' σ H Q) := ⟨fun pins s σ H Q I hw => hw.elim (h.run pins s σ H Q I) (h'.run pins s σ H Q I)⟩
theorem OpRor {X : Cx} {f : Value → Value → Sem Value} {r r' : R2} (h : OpR X f r) (h' : OpR X f r') : OpR X f (fun x y H Q => r x y H Q ∨ r' x y H Q) :=
  fun pins s σ H x y v u Q I a b hw => hw.elim (h pins s σ H x y v u Q I a b) (h' pins s σ H x y v u Q I a b)
theorem CallRor {X : Cx} {f : Value} {r r' : List V → Hp → VK → Prop} (h : CallR X f r) (h' : CallR X f r') : CallR X f (fun xs H Q => r xs H Q ∨ r' xs H Q) :=
  fun pins s σ H xs us Q I a hw => hw.elim (h pins s σ H xs us Q I a) (h' pins s σ H xs us Q I a)

section
variable {K : PySem.W.Frag} {mg : Str → Option Value} {W : WX} {ρ ρ1 : Ren} {H H1 : Hp} {σ : L2.St} {sg : Sg} {h : Mh}
theorem WG.mono {α β : Type} {rel : Ren → Hp → β → α → Prop} {Q : β → Hp → Prop} {r : R α} (le : Le K ρ H ρ1 H1) (w : WG K mg rel W σ Q ρ H r) : WG K mg rel W σ Q ρ1 H1 r := by
  cases r with
  | ok a h' => exact fun ρ' H' v l => w ρ' H' v (le.trans l)
  | exc c fs h' => exact fun ρ' H' C dx l => w ρ' H' C dx (le.trans l)
  | bad => exact w
theorem WS.mono {E : Ends} {r : RS} (le : Le K ρ H ρ1 H1) (w : WS K mg W E ρ H r) : WS K mg W E ρ1 H1 r := by
  cases r with
  | nx sg' h' => exact fun ρ' H' v l => w ρ' H' v (le.trans l)
  | rt sg' h' => exact fun ρ' H' v l => w ρ' H' v (le.trans l)
  | bk sg' h' => exact fun ρ' H' v l => w ρ' H' v (le.trans l)
  | ct sg' h' => exact fun ρ' H' v l => w ρ' H' v (le.trans l)
  | exc c fs sg' h' => exact fun ρ' H' v C dx l => w ρ' H' v C dx (le.trans l)
  | bad => exact w
/-- the first of two steps, by what the second wants -/
theorem WG.cut {α β γ δ : Type} {rel : Ren → Hp → β → α → Prop} {rel2 : Ren → Hp → δ → γ → Prop} {Q : δ → Hp → Prop} {Q1 : β → Hp → Prop} {r : R α} {f : α → Mh → R γ} (w : WG K mg rel2 W σ Q ρ H (r.bind f))
    (k : ∀ ρ1 H1 h1 v a, Le K ρ H ρ1 H1 → RHp K mg ρ1 H1 h1 → rel ρ1 H1 v a → WG K mg rel2 W σ Q ρ1 H1 (f a h1) → Q1 v H1) : WG K mg rel W σ Q1 ρ H r := by
  cases r with
  | ok a h' => exact fun ρ' H' v l rh rv => k ρ' H' h' v a l rh rv (w.mono l)
  | exc c fs h' => exact w
  | bad => exact w
theorem WS.cutS {α β : Type} {rel : Ren → Hp → β → α → Prop} {E : Ends} {Q1 : β → Hp → Prop} {r : R α} {f : α → Mh → RS} (hs : RSt K mg ρ H σ sg) (w : WS K mg W E ρ H (r.th sg f))
    (k : ∀ ρ1 H1 h1 v a, Le K ρ H ρ1 H1 → RHp K mg ρ1 H1 h1 → rel ρ1 H1 v a → WS K mg W E ρ1 H1 (f a h1) → Q1 v H1) : WG K mg rel W σ Q1 ρ H r := by
  cases r with
  | ok a h' => exact fun ρ' H' v l rh rv => k ρ' H' h' v a l rh rv (w.mono l)
  | exc c fs h' => exact fun ρ' H' C dx l rh g x => w ρ' H' σ C dx l rh (hs.mono l) g x
  | bad => exact w
theorem TM.go {γ δ : Type} {rel2 : Ren → Hp → δ → γ → Prop} {Q : δ → Hp → Prop} {Q1 : VK} {m : Sg → Mh → R D} {f : D → Mh → R γ} (hs : RSt K mg ρ H σ sg) (rh : RHp K mg ρ H h) (w : WG K mg rel2 W σ Q ρ H ((m sg h).bind f))
    (k : ∀ ρ1 H1 h1 v a, Le K ρ H ρ1 H1 → RHp K mg ρ1 H1 h1 → RV K mg ρ1 H1 v a → WG K mg rel2 W σ Q ρ1 H1 (f a h1) → Q1 v H1) : TM K mg W m σ H Q1 := ⟨ρ, sg, h, hs, rh, w.cut k⟩
theorem TMb.go {γ δ : Type} {rel2 : Ren → Hp → δ → γ → Prop} {Q : δ → Hp → Prop} {Q1 : Bool → Hp → Prop} {m : Sg → Mh → R Bool} {f : Bool → Mh → R γ} (hs : RSt K mg ρ H σ sg) (rh : RHp K mg ρ H h) (w : WG K mg rel2 W σ Q ρ H ((m sg h).bind f))
    (k : ∀ ρ1 H1 h1 a, Le K ρ H ρ1 H1 → RHp K mg ρ1 H1 h1 → WG K mg rel2 W σ Q ρ1 H1 (f a h1) → Q1 a H1) : TMb K mg W m σ H Q1 := ⟨ρ, sg, h, hs, rh, w.cut fun ρ1 H1 h1 v a le rh e w => by subst e; exact k ρ1 H1 h1 _ le rh w⟩
theorem TMl.go {γ δ : Type} {rel2 : Ren → Hp → δ → γ → Prop} {Q : δ → Hp → Prop} {Q1 : List V → Hp → Prop} {m : Sg → Mh → R (List D)} {f : List D → Mh → R γ} (hs : RSt K mg ρ H σ sg) (rh : RHp K mg ρ H h) (w : WG K mg rel2 W σ Q ρ H ((m sg h).bind f))
    (k : ∀ ρ1 H1 h1 v a, Le K ρ H ρ1 H1 → RHp K mg ρ1 H1 h1 → RVs K mg ρ1 H1 v a → WG K mg rel2 W σ Q ρ1 H1 (f a h1) → Q1 v H1) : TMl K mg W m σ H Q1 := ⟨ρ, sg, h, hs, rh, w.cut k⟩
theorem TM.goS {E : Ends} {Q1 : VK} {m : Sg → Mh → R D} {f : D → Mh → RS} (hs : RSt K mg ρ H σ sg) (rh : RHp K mg ρ H h) (w : WS K mg W E ρ H ((m sg h).th sg f))
    (k : ∀ ρ1 H1 h1 v a, Le K ρ H ρ1 H1 → RHp K mg ρ1 H1 h1 → RV K mg ρ1 H1 v a → WS K mg W E ρ1 H1 (f a h1) → Q1 v H1) : TM K mg W m σ H Q1 := ⟨ρ, sg, h, hs, rh, WS.cutS hs w k⟩
theorem TMb.goS {E : Ends} {Q1 : Bool → Hp → Prop} {m : Sg → Mh → R Bool} {f : Bool → Mh → RS} (hs : RSt K mg ρ H σ sg) (rh : RHp K mg ρ H h) (w : WS K mg W E ρ H ((m sg h).th sg f))
    (k : ∀ ρ1 H1 h1 a, Le K ρ H ρ1 H1 → RHp K mg ρ1 H1 h1 → WS K mg W E ρ1 H1 (f a h1) → Q1 a H1) : TMb K mg W m σ H Q1 := ⟨ρ, sg, h, hs, rh, WS.cutS hs w fun ρ1 H1 h1 v a le rh e w => by subst e; exact k ρ1 H1 h1 _ le rh w⟩
theorem WG.okI {α β : Type} {rel : Ren → Hp → β → α → Prop} {Q : β → Hp → Prop} {a : α} {h' : Mh} {v : β} (w : WG K mg rel W σ Q ρ H (.ok a h')) (le : Le K ρ H ρ1 H1) (rh : RHp K mg ρ1 H1 h') (rv : rel ρ1 H1 v a) : Q v H1 := w ρ1 H1 v le rh rv
/-- a new object of the model -/
theorem WG.alloc {Q : VK} {u : MO} {o : HO} {p : Addr} (w : WV K mg W σ Q ρ H (.ok (.ref h.length) (h ++ [u]))) (rh : RHp K mg ρ H h) (hp : H p = none) (new : RO K mg (ρ ++ [p]) (upd H p o) p u) : Q (.ref p) (upd H p o) :=
  w.okI (Le.grow hp) (rh.grow hp new) (.ref rh.at_new)
/-- a new tuple -/
theorem WG.tuple {Q : VK} {vs : List V} {ds : List D} {p : Addr} (w : WV K mg W σ Q ρ H (.ok (.tup ds) h)) (rh : RHp K mg ρ H h) (hp : H p = none) (r : RVs K mg ρ H vs ds) : Q (.ref p) (upd H p (.tup vs)) :=
  w.okI (Le.new hp) (rh.made hp) (.tup upd_same (r.mono (Le.new hp)))
theorem RO.newList {vs : List V} {ds : List D} {p : Addr} (hp : H p = none) (r : RVs K mg ρ H vs ds) : RO K mg (ρ ++ [p]) (upd H p (.lst vs)) p (.lst ds) := .lst upd_same (r.mono (Le.grow hp))
end

/-! ### expressions -/
def mLit (d : D) : Sg → Mh → R D := fun _ h => .ok d h
def mVar (i : Nat) : Sg → Mh → R D := fun sg h => match sg[i]? with
  | some (some d) => .ok d h
  | _ => .bad
def m2 (f : D → D → Mh → R D) (a b : Sg → Mh → R D) : Sg → Mh → R D := fun sg h => (a sg h).bind fun x h1 => (b sg h1).bind fun y h2 => f x y h2
def m1 (f : D → Mh → R D) (a : Sg → Mh → R D) : Sg → Mh → R D := fun sg h => (a sg h).bind f
def Sem2 (X : Cx) (r : R2) (f : D → D → Mh → R D) : Prop := ∀ (W : WX) (σ : L2.St) (ρ : Ren) (H : Hp) (h : Mh) (Q : VK) (v1 v2 : V) (d1 d2 : D), RHp X.K X.mg ρ H h → RV X.K X.mg ρ H v1 d1 → RV X.K X.mg ρ H v2 d2 → WV X.K X.mg W σ Q ρ H (f d1 d2 h) → r v1 v2 H Q
def Sem1 (X : Cx) (r : V → Hp → VK → Prop) (f : D → Mh → R D) : Prop := ∀ (W : WX) (σ : L2.St) (ρ : Ren) (H : Hp) (h : Mh) (Q : VK) (v : V) (d : D), RHp X.K X.mg ρ H h → RV X.K X.mg ρ H v d → WV X.K X.mg W σ Q ρ H (f d h) → r v H Q
def SemL (X : Cx) (r : List V → Hp → VK → Prop) (f : List D → Mh → R D) : Prop := ∀ (W : WX) (σ : L2.St) (ρ : Ren) (H : Hp) (h : Mh) (Q : VK) (vs : List V) (ds : List D), RHp X.K X.mg ρ H h → RVs X.K X.mg ρ H vs ds → WV X.K X.mg W σ Q ρ H (f ds h) → r vs H Q
section
variable {X : Cx} {W : WX} {a b c : Expr} {ma mb mc : Sg → Mh → R D} {pos : Pos}
theorem tOp_of {r : R2} {f : D → D → Mh → R D} (s : Sem2 X r f) {σ : L2.St} {H : Hp} {Q : VK} (w : TM X.K X.mg W (m2 f ma mb) σ H Q) : tOp r (TM X.K X.mg W ma) (TM X.K X.mg W mb) σ H Q := by
  obtain ⟨ρ, sg, h, hs, rh, w⟩ := w
  exact TM.go hs rh w fun ρ1 H1 h1 v d le rh1 rv w1 => TM.go (hs.mono le) rh1 w1 fun ρ2 H2 h2 v2 d2 le2 rh2 rv2 w2 => s W σ ρ2 H2 h2 Q v v2 d d2 rh2 (rv.mono le2) rv2 w2
theorem q_lit {e : Expr} {v : V} {d : D} (h : PE X e (tC v)) (r : ∀ ρ H, RV X.K X.mg ρ H v d) : PM X W e (mLit d) := ⟨PEimp h fun σ H Q ⟨ρ, sg, h, hs, rh, w⟩ => w.okI Le.refl rh (r ρ H)⟩
theorem q_int {i j} : PM X W (.Constant (.int i) j pos) (mLit (.int i)) := q_lit pe_int fun _ _ => .int i
theorem q_bl {i j} : PM X W (.Constant (.bool i) j pos) (mLit (.bl i)) := q_lit pe_bl fun _ _ => .bl i
theorem q_str {i j} : PM X W (.Constant (.str i) j pos) (mLit (.str i)) := q_lit pe_str fun _ _ => .str i
theorem q_non {j} : PM X W (.Constant .none j pos) (mLit .non) := q_lit pe_non fun _ _ => .non
theorem q_var (i : Nat) {x : Str} (hN : X.N[i]? = some x := by rfl) (hv : Vis X.env.scope x := by first | exact Or.inl rfl | exact Or.inr (Or.inl rfl) | exact Or.inr (Or.inr rfl)) (hd : (x == ("__debug__" : Str)) = false := by decide)
    (hcd : (x == ("__classdict__" : Str)) = false := by decide) : PM X W (.Name x pos) (mVar i) := ⟨PEimp (pe_var hN hv hd hcd) fun σ H Q ⟨ρ, sg, h, hs, rh, w⟩ => by
  unfold mVar at w
  split at w
  · rename_i d e
    obtain ⟨v, e1, rv⟩ := hs.val i d e
    exact ⟨v, e1, w.okI Le.refl rh rv⟩
  · exact w.elim⟩
theorem q_bin {op : Operator} {r : R2} {f : D → D → Mh → R D} (ho : OpR X (binaryOp op) r) (s : Sem2 X r f) (ha : PM X W a ma) (hb : PM X W b mb) : PM X W (.BinOp a op b pos) (m2 f ma mb) := ⟨PEimp (pe_op ho ha.pe hb.pe) fun _ _ _ w => tOp_of s w⟩
theorem q_cmp {op : CmpOp} {r : R2} {f : D → D → Mh → R D} (ho : OpR X (compareOp op) r) (s : Sem2 X r f) (ha : PM X W a ma) (hb : PM X W b mb) (hm : behindInMarks op b = false) : PM X W (.Compare a [op] [b] pos) (m2 f ma mb) :=
  ⟨PEimp (pe_cmpR ho ha.pe hb.pe hm) fun _ _ _ w => tOp_of s w⟩
theorem q_ix {r : R2} {f : D → D → Mh → R D} (ho : IxR X r) (s : Sem2 X r f) (ha : PM X W a ma) (hb : PM X W b mb) (hp : PlainIx b) : PM X W (.Subscript a b pos) (m2 f ma mb) := ⟨PEimp (pe_ix ho ha.pe hb.pe hp) fun _ _ _ w => tOp_of s w⟩
theorem q_un {op : UnaryOp} {r : V → Hp → VK → Prop} {f : D → Mh → R D} (ho : UnR X (unaryOp op) r) (s : Sem1 X r f) (ha : PM X W a ma) : PM X W (.UnaryOp op a pos) (m1 f ma) := ⟨PEimp (pe_un ho ha.pe) fun σ H Q ⟨ρ, sg, h, hs, rh, w⟩ =>
  TM.go hs rh w fun ρ1 H1 h1 v d le rh1 rv w1 => s W σ ρ1 H1 h1 Q v d rh1 rv w1⟩
/-! tests -/
def mTest (m : Sg → Mh → R D) : Sg → Mh → R Bool := fun sg h => (m sg h).bind fun d h1 => match d with
  | .bl b => .ok b h1
  | _ => .bad
theorem tTest_of {m : Sg → Mh → R D} {t : TE} (i : ∀ σ H Q, TM X.K X.mg W m σ H Q → t σ H Q) {σ : L2.St} {H : Hp} {Q : Bool → Hp → Prop} (w : TMb X.K X.mg W (mTest m) σ H Q) : tTest t σ H Q := by
  obtain ⟨ρ, sg, h, hs, rh, w⟩ := w
  refine i _ _ _ (TM.go hs rh w fun ρ1 H1 h1 v d le rh1 rv w1 => ?_)
  cases rv <;> first | exact w1.elim | skip
  exact ⟨_, rfl, w1.okI Le.refl rh1 rfl⟩
theorem q_cmpT {op : CmpOp} {r : R2} {f : D → D → Mh → R D} (ho : OpR X (compareOp op) r) (s : Sem2 X r f) (ha : PM X W a ma) (hb : PM X W b mb) (hm : behindInMarks op b = false) : PB X W (.Compare a [op] [b] pos) (mTest (m2 f ma mb)) :=
  ⟨PTimp (pt_cmpR ho ha.pe hb.pe hm) fun _ _ _ w => tTest_of (fun _ _ _ w => tOp_of s w) w⟩
/-- the truth of a value -/
def dTru : D → Mh → R Bool
  | .non, h => .ok false h
  | .bl b, h => .ok b h
  | .int i, h => .ok (i != 0) h
  | .str x, h => if x.length ≤ sizeLine then .ok (x.length != 0) h else .bad
  | .tup ds, h => .ok (!ds.isEmpty) h
  | .kt ds, h => .ok (!ds.isEmpty) h
  | .ref n, h => match h[n]? with
    | some (.lst ds) => .ok (!ds.isEmpty) h
    | some (.dk kvs) => .ok (!kvs.isEmpty) h
    | _ => .bad
  | _, _ => .bad
end
end Mo

namespace Mo
open PySem PySem.Spec PyProof.Rows L2
section
variable {X : Cx}
/-! ### operators -/
def dAdd : D → D → Mh → R D
  | .int i, .int j, h => .ok (.int (i + j)) h
  | .str a, .str b, h => if a.length + b.length ≤ sizeLine then .ok (.str (a ++ b)) h else .bad
  | .tup a, .tup b, h => if a.length + b.length ≤ sizeLine then .ok (.tup (a ++ b)) h else .bad
  | .ref n, .ref m, h => match h[n]?, h[m]? with
    | some (.lst a), some (.lst b) => if a.length + b.length ≤ sizeLine then .ok (.ref h.length) (h ++ [.lst (a ++ b)]) else .bad
    | _, _ => .bad
  | _, _, _ => .bad
theorem RHp.at {K mg ρ H h} (rh : RHp K mg ρ H h) {n : Nat} {a : Addr} {o : MO} (e : ρ[n]? = some a) (x : h[n]? = some o) : RO K mg ρ H a o := rh.obj n a o e x
theorem sem_add : Sem2 X (fun x y H Q => rI0 (fun i j => .int (i + j)) x y H Q ∨ (∃ i j, x = V.str i ∧ y = V.str j ∧ i.length + j.length ≤ sizeLine ∧ Q (V.str (i ++ j)) H) ∨ rCatA X.K x y H Q ∨ rCat x y H Q) dAdd := by
  intro W σ ρ H h Q v1 v2 d1 d2 rh r1 r2 w
  unfold dAdd at w
  split at w
  · cases r1; cases r2; exact .inl ⟨_, _, rfl, rfl, w.okI Le.refl rh (.int _)⟩
  · split at w
    · rename_i hz
      cases r1; cases r2; exact .inr (.inl ⟨_, _, rfl, rfl, hz, w.okI Le.refl rh (.str _)⟩)
    · exact w.elim
  · split at w
    · rename_i hz
      cases r1 with
      | tup t1 q1 =>
        have t1' := SqT.of (K := X.K) t1
        cases r2 with
        | tup t2 q2 =>
          have t2' := SqT.of (K := X.K) t2
          have l1 := q1.length
          have l2 := q2.length
          refine .inr (.inr (.inl ⟨_, _, _, _, rfl, rfl, t1', t2', by omega, fun e => ?_, fun _ e => ?_, fun _ _ p hp => w.tuple rh hp (q1.append q2)⟩))
          · subst e; cases q1
            exact w.okI Le.refl rh (.tup t2 q2)
          · subst e; cases q2
            rw [List.append_nil] at w
            exact w.okI Le.refl rh (.tup t1 q1)
    · exact w.elim
  · split at w
    · split at w
      · rename_i e1 e2 hz
        cases r1 with
        | ref r1 =>
          cases r2 with
          | ref r2 =>
            cases rh.at r1 e1 with
            | lst h1 q1 =>
              cases rh.at r2 e2 with
              | lst h2 q2 =>
                have l1 := q1.length
                have l2 := q2.length
                exact .inr (.inr (.inr ⟨_, _, _, _, rfl, rfl, h1, h2, by omega, fun p hp => w.alloc rh hp (RO.newList hp (q1.append q2))⟩))
      · exact w.elim
    · exact w.elim
  · exact w.elim
theorem op_add4 : OpR X (binaryOp .Add) (fun x y H Q => rI0 (fun i j => .int (i + j)) x y H Q ∨ (∃ i j, x = V.str i ∧ y = V.str j ∧ i.length + j.length ≤ sizeLine ∧ Q (V.str (i ++ j)) H) ∨ rCatA X.K x y H Q ∨ rCat x y H Q) := OpRor op_add (OpRor op_add_str (OpRor op_catA op_cat))
/-- two ints under a condition -/
def dII (c : Int → Int → Bool) (g : Int → Int → D) : D → D → Mh → R D
  | .int i, .int j, h => if c i j = true then .ok (g i j) h else .bad
  | _, _, _ => .bad
theorem sem_II {C : Int → Int → Prop} {c : Int → Int → Bool} {f : Int → Int → V} {g : Int → Int → D} (hc : ∀ i j, c i j = true → C i j) (hg : ∀ i j ρ H, RV X.K X.mg ρ H (f i j) (g i j)) : Sem2 X (rI C f) (dII c g) := by
  intro W σ ρ H h Q v1 v2 d1 d2 rh r1 r2 w
  unfold dII at w
  split at w
  · split at w
    · rename_i hz
      cases r1; cases r2; exact ⟨_, _, rfl, rfl, hc _ _ hz, w.okI Le.refl rh (hg _ _ _ _)⟩
    · exact w.elim
  · exact w.elim
/-- two ints -/
def dI0 (g : Int → Int → D) : D → D → Mh → R D
  | .int i, .int j, h => .ok (g i j) h
  | _, _, _ => .bad
theorem sem_I0 {f : Int → Int → V} {g : Int → Int → D} (hg : ∀ i j ρ H, RV X.K X.mg ρ H (f i j) (g i j)) : Sem2 X (rI0 f) (dI0 g) := by
  intro W σ ρ H h Q v1 v2 d1 d2 rh r1 r2 w
  unfold dI0 at w
  split at w
  · cases r1; cases r2; exact ⟨_, _, rfl, rfl, w.okI Le.refl rh (hg _ _ _ _)⟩
  · exact w.elim
def dSub := dI0 fun i j => .int (i - j)
def dBand := dI0 fun i j => .int (Builtin.bitAnd i j)
def dBor := dI0 fun i j => .int (Builtin.bitOr i j)
def dBxor := dI0 fun i j => .int (Builtin.bitXor i j)
def cMul (i j : Int) : Bool := decide ((-(2 ^ 64) < i ∧ i < 2 ^ 64) ∨ (-(2 ^ 64) < j ∧ j < 2 ^ 64))
theorem cMul_ok {i j : Int} (h : cMul i j = true) : CMul i j := by
  have := of_decide_eq_true h
  exact this
def dFdiv := dII (fun _ j => decide (0 < j ∧ j < 18446744073709551616)) fun i j => .int (i / j)
def dMod := dII (fun _ j => decide (0 < j)) fun i j => .int (i % j)
def cPow (i j : Int) : Bool := decide (0 ≤ j ∧ j ≤ 1000000 ∧ i.natAbs < 2 ^ 64)
theorem cPow_ok {i j : Int} (h : cPow i j = true) : CPow i j := by
  have := of_decide_eq_true h
  exact this
def cPowW (i j : Int) : Bool := decide (0 ≤ j ∧ j ≤ 1000000 ∧ i.natAbs < 2 ^ 100)
def CPowW (i j : Int) : Prop := 0 ≤ j ∧ j ≤ 1000000 ∧ i.natAbs < 2 ^ 100
theorem cPowW_ok {i j : Int} (h : cPowW i j = true) : CPowW i j := by
  have := of_decide_eq_true h
  exact this
theorem op_powW : OpR X (binaryOp .Pow) (rI CPowW fun i j => .int (i ^ j.toNat)) := opI fun i j _ _ _ _ _ hc q => by
  refine pow_int hc.1 ?_ q
  have b : Builtin.Int.intBits i ≤ i.natAbs.log2 + 1 := by
    unfold Builtin.Int.intBits
    split <;> omega
  have l : i.natAbs.log2 < 100 := PySem.Flt.log2_lt_of (by decide) hc.2.2
  have h1 := hc.1
  have h2 := hc.2.1
  have : (Builtin.Int.intBits i : Int) * j ≤ 100 * 1000000 := Int.mul_le_mul (by omega) h2 h1 (by decide)
  omega
def dPow := dII cPowW fun i j => .int (i ^ j.toNat)
def dShl := dII cPow fun i j => .int (i * 2 ^ j.toNat)
def dShr := dII (fun _ j => decide (0 ≤ j)) fun i j => .int (i / 2 ^ j.toNat)
def dMul : D → D → Mh → R D
  | .int i, .int j, h => if cMul i j = true then .ok (.int (i * j)) h else .bad
  | .ref n, .int k, h => match h[n]? with
    | some (.lst a) => if -(2 ^ 63) ≤ k ∧ k < 2 ^ 63 ∧ a.length * k.toNat ≤ sizeLine then .ok (.ref h.length) (h ++ [.lst (List.replicate k.toNat a).flatten]) else .bad
    | _ => .bad
  | _, _, _ => .bad
theorem RVs.rep {K mg ρ H} {vs : List V} {ds : List D} (r : RVs K mg ρ H vs ds) : ∀ n : Nat, RVs K mg ρ H (List.replicate n vs).flatten (List.replicate n ds).flatten
  | 0 => .nil
  | n + 1 => by
    rw [List.replicate_succ, List.replicate_succ, List.flatten_cons, List.flatten_cons]
    exact r.append (RVs.rep r n)
theorem sem_mul : Sem2 X (fun x y H Q => rI CMul (fun i j => .int (i * j)) x y H Q ∨ rRep x y H Q) dMul := by
  intro W σ ρ H h Q v1 v2 d1 d2 rh r1 r2 w
  unfold dMul at w
  split at w
  · split at w
    · rename_i hz
      cases r1; cases r2; exact .inl ⟨_, _, rfl, rfl, cMul_ok hz, w.okI Le.refl rh (.int _)⟩
    · exact w.elim
  · split at w
    · split at w
      · rename_i e1 hz
        cases r1 with
        | ref r1 =>
          cases r2
          cases rh.at r1 e1 with
          | lst h1 q1 =>
            have l1 := q1.length
            exact .inr ⟨_, _, _, rfl, rfl, h1, hz.1, hz.2.1, by rw [l1]; exact hz.2.2, fun p hp => w.alloc rh hp (RO.newList hp (q1.rep _))⟩
      · exact w.elim
    · exact w.elim
  · exact w.elim
theorem op_mul2 : OpR X (binaryOp .Mult) (fun x y H Q => rI CMul (fun i j => .int (i * j)) x y H Q ∨ rRep x y H Q) := OpRor op_mul op_rep
section
variable {W : WX} {a b : Expr} {ma mb : Sg → Mh → R D} {pos : Pos}
theorem q_add (ha : PM X W a ma) (hb : PM X W b mb) : PM X W (.BinOp a .Add b pos) (m2 dAdd ma mb) := q_bin op_add4 sem_add ha hb
theorem q_sub (ha : PM X W a ma) (hb : PM X W b mb) : PM X W (.BinOp a .Sub b pos) (m2 dSub ma mb) := q_bin op_sub (sem_I0 fun _ _ _ _ => .int _) ha hb
theorem q_mul (ha : PM X W a ma) (hb : PM X W b mb) : PM X W (.BinOp a .Mult b pos) (m2 dMul ma mb) := q_bin op_mul2 sem_mul ha hb
theorem q_fdiv (ha : PM X W a ma) (hb : PM X W b mb) : PM X W (.BinOp a .FloorDiv b pos) (m2 dFdiv ma mb) := q_bin op_fdivW (sem_II (fun _ _ h => by have := of_decide_eq_true h; exact wide_div (b := 64) this.1 (by omega) (by decide) (by decide)) fun _ _ _ _ => .int _) ha hb
theorem q_mod (ha : PM X W a ma) (hb : PM X W b mb) : PM X W (.BinOp a .Mod b pos) (m2 dMod ma mb) := q_bin op_mod (sem_II (fun _ _ h => of_decide_eq_true h) fun _ _ _ _ => .int _) ha hb
theorem q_pow (ha : PM X W a ma) (hb : PM X W b mb) : PM X W (.BinOp a .Pow b pos) (m2 dPow ma mb) := q_bin op_powW (sem_II (fun _ _ h => cPowW_ok h) fun _ _ _ _ => .int _) ha hb
theorem q_shl (ha : PM X W a ma) (hb : PM X W b mb) : PM X W (.BinOp a .LShift b pos) (m2 dShl ma mb) := q_bin op_shl (sem_II (fun _ _ h => cPow_ok h) fun _ _ _ _ => .int _) ha hb
theorem q_shr (ha : PM X W a ma) (hb : PM X W b mb) : PM X W (.BinOp a .RShift b pos) (m2 dShr ma mb) := q_bin op_shr (sem_II (fun _ _ h => of_decide_eq_true h) fun _ _ _ _ => .int _) ha hb
theorem q_band (ha : PM X W a ma) (hb : PM X W b mb) : PM X W (.BinOp a .BitAnd b pos) (m2 dBand ma mb) := q_bin op_and (sem_I0 fun _ _ _ _ => .int _) ha hb
theorem q_bor (ha : PM X W a ma) (hb : PM X W b mb) : PM X W (.BinOp a .BitOr b pos) (m2 dBor ma mb) := q_bin op_or (sem_I0 fun _ _ _ _ => .int _) ha hb
theorem q_bxor (ha : PM X W a ma) (hb : PM X W b mb) : PM X W (.BinOp a .BitXor b pos) (m2 dBxor ma mb) := q_bin op_xor (sem_I0 fun _ _ _ _ => .int _) ha hb
end
def dNeg : D → Mh → R D
  | .int i, h => .ok (.int (-i)) h
  | _, _ => .bad
theorem sem_neg : Sem1 X (rU fun i => .int (-i)) dNeg := by
  intro W σ ρ H h Q v d rh r w
  unfold dNeg at w
  split at w
  · cases r; exact ⟨_, rfl, w.okI Le.refl rh (.int _)⟩
  · exact w.elim
theorem q_neg {W : WX} {a : Expr} {ma : Sg → Mh → R D} {pos : Pos} (ha : PM X W a ma) : PM X W (.UnaryOp .USub a pos) (m1 dNeg ma) := q_un un_neg sem_neg ha

/-! ### comparisons -/
def pdl (f : D → Option PyData) : List D → Option (List PyData)
  | [] => some []
  | d :: ds => match f d, pdl f ds with
    | some a, some b => some (a :: b)
    | _, _ => none
def pd : Nat → Mh → D → Option PyData
  | 0, _, _ => none
  | n + 1, h, d => match d with
    | .non => some .none
    | .bl b => some (.bool b)
    | .int i => some (.int i)
    | .str x => some (.str x)
    | .tup ds => (pdl (pd n h) ds).map .tuple
    | .kt ds => (pdl (pd n h) ds).map .tuple
    | .ref m => match h[m]? with
      | some (.lst ds) => (pdl (pd n h) ds).map .list
      | some (.fls ds) => (pdl (pd n h) ds).map .list
      | _ => none
    | _ => none
theorem pdl_dp {K mg ρ H} {f : D → Option PyData} (hf : ∀ v d p, RV K mg ρ H v d → f d = some p → Dp K H v p) : ∀ {vs : List V} {ds : List D} {ps : List PyData}, RVs K mg ρ H vs ds → pdl f ds = some ps → DpAll K H vs ps
  | _, _, _, .nil, e => by cases e; exact .nil
  | _, _, _, .cons r t, e => by
    unfold pdl at e
    split at e
    · rename_i e1 e2
      cases e
      exact .cons (hf _ _ _ r e1) (pdl_dp hf t e2)
    · cases e
theorem pd_dp {K mg ρ H h} (rh : RHp K mg ρ H h) : ∀ (n : Nat) (v : V) (d : D) (p : PyData), RV K mg ρ H v d → pd n h d = some p → Dp K H v p
  | 0, _, _, _, _, e => by cases e
  | n + 1, v, d, p, r, e => by
    have ih := pd_dp rh n
    cases r with
    | non => cases e; exact .non
    | bl b => cases e; exact .bl b
    | int i => cases e; exact .int i
    | str x => cases e; exact .str x
    | ty x => cases e
    | glo x => cases e
    | tup t q =>
      simp only [pd, Option.map_eq_some_iff] at e
      obtain ⟨ps, e, rfl⟩ := e
      exact .tup (SqT.of t) (pdl_dp ih q e)
    | kt t q =>
      simp only [pd, Option.map_eq_some_iff] at e
      obtain ⟨ps, e, rfl⟩ := e
      exact .tup t (pdl_dp ih q e)
    | ref r =>
      simp only [pd] at e
      split at e
      · rename_i ds e1
        simp only [Option.map_eq_some_iff] at e
        obtain ⟨ps, e, rfl⟩ := e
        cases rh.at r e1 with
        | lst h1 q1 => exact .lst (SqL.of h1) (pdl_dp ih q1 e)
      · rename_i ds e1
        simp only [Option.map_eq_some_iff] at e
        obtain ⟨ps, e, rfl⟩ := e
        cases rh.at r e1 with
        | fls h1 q1 => exact .lst h1.sq (pdl_dp ih q1 e)
      · cases e
def dEqB (neg : Bool) (x y : D) (h : Mh) : R D := match pd 66 h x, pd 66 h y with
  | some a, some b => if SeqAt.shaped a = true ∧ SeqAt.shaped b = true then .ok (.bl (if neg then !PyData.eqv a b else PyData.eqv a b)) h else .bad
  | _, _ => .bad
def dEq := dEqB false
def dNe := dEqB true
theorem sem_eq : Sem2 X (rEqD X.K) dEq := by
  intro W σ ρ H h Q v1 v2 d1 d2 rh r1 r2 w
  unfold dEq dEqB at w
  split at w
  · split at w
    · rename_i e1 e2 hz
      exact ⟨_, _, pd_dp rh _ _ _ _ r1 e1, pd_dp rh _ _ _ _ r2 e2, hz.1, hz.2, w.okI Le.refl rh (.bl _)⟩
    · exact w.elim
  · exact w.elim
theorem sem_ne : Sem2 X (rNeD X.K) dNe := by
  intro W σ ρ H h Q v1 v2 d1 d2 rh r1 r2 w
  unfold dNe dEqB at w
  split at w
  · split at w
    · rename_i e1 e2 hz
      exact ⟨_, _, pd_dp rh _ _ _ _ r1 e1, pd_dp rh _ _ _ _ r2 e2, hz.1, hz.2, w.okI Le.refl rh (.bl _)⟩
    · exact w.elim
  · exact w.elim
/-- is None -/
def dIs : D → D → Mh → R D
  | x, .non, h => .ok (.bl (match x with | .non => true | _ => false)) h
  | _, _, _ => .bad
def dIsNot : D → D → Mh → R D
  | x, .non, h => .ok (.bl (match x with | .non => false | _ => true)) h
  | _, _, _ => .bad
theorem sem_is : Sem2 X (fun x y H Q => y = V.non ∧ Q (V.bl (decide (x = V.non))) H) dIs := by
  intro W σ ρ H h Q v1 v2 d1 d2 rh r1 r2 w
  unfold dIs at w
  split at w
  · cases r2
    refine ⟨rfl, w.okI Le.refl rh ?_⟩
    cases r1 <;> exact .bl _
  · exact w.elim
theorem sem_isNot : Sem2 X (fun x y H Q => y = V.non ∧ Q (V.bl (!decide (x = V.non))) H) dIsNot := by
  intro W σ ρ H h Q v1 v2 d1 d2 rh r1 r2 w
  unfold dIsNot at w
  split at w
  · cases r2
    refine ⟨rfl, w.okI Le.refl rh ?_⟩
    cases r1 <;> exact .bl _
  · exact w.elim
/-- < and its kin: ints, texts -/
def dLt : D → D → Mh → R D
  | .int i, .int j, h => .ok (.bl (decide (i < j))) h
  | .str a, .str b, h => .ok (.bl (decide (a.cps.toList < b.cps.toList))) h
  | _, _, _ => .bad
def dLe : D → D → Mh → R D
  | .int i, .int j, h => .ok (.bl (decide (i ≤ j))) h
  | .str a, .str b, h => .ok (.bl (!decide (b.cps.toList < a.cps.toList))) h
  | _, _, _ => .bad
def dGt : D → D → Mh → R D
  | .int i, .int j, h => .ok (.bl (decide (j < i))) h
  | .str a, .str b, h => .ok (.bl (decide (b.cps.toList < a.cps.toList))) h
  | _, _, _ => .bad
def dGe : D → D → Mh → R D
  | .int i, .int j, h => .ok (.bl (decide (j ≤ i))) h
  | .str a, .str b, h => .ok (.bl (!decide (a.cps.toList < b.cps.toList))) h
  | _, _, _ => .bad
end
end Mo

namespace Mo
open PySem PySem.Spec PyProof.Rows L2
section
variable {X : Cx}
/-! ### comparisons, further -/
theorem sem_lt : Sem2 X (fun x y H Q => rI0 (fun i j => .bl (decide (i < j))) x y H Q ∨ ∃ i j, x = V.str i ∧ y = V.str j ∧ Q (V.bl (decide (i.cps.toList < j.cps.toList))) H) dLt := by
  intro W σ ρ H h Q v1 v2 d1 d2 rh r1 r2 w
  unfold dLt at w
  split at w
  · cases r1; cases r2; exact .inl ⟨_, _, rfl, rfl, w.okI Le.refl rh (.bl _)⟩
  · cases r1; cases r2; exact .inr ⟨_, _, rfl, rfl, w.okI Le.refl rh (.bl _)⟩
  · exact w.elim
theorem sem_le : Sem2 X (fun x y H Q => rI0 (fun i j => .bl (decide (i ≤ j))) x y H Q ∨ ∃ i j, x = V.str i ∧ y = V.str j ∧ Q (V.bl (!decide (j.cps.toList < i.cps.toList))) H) dLe := by
  intro W σ ρ H h Q v1 v2 d1 d2 rh r1 r2 w
  unfold dLe at w
  split at w
  · cases r1; cases r2; exact .inl ⟨_, _, rfl, rfl, w.okI Le.refl rh (.bl _)⟩
  · cases r1; cases r2; exact .inr ⟨_, _, rfl, rfl, w.okI Le.refl rh (.bl _)⟩
  · exact w.elim
theorem sem_gt : Sem2 X (fun x y H Q => rI0 (fun i j => .bl (decide (j < i))) x y H Q ∨ ∃ i j, x = V.str i ∧ y = V.str j ∧ Q (V.bl (decide (j.cps.toList < i.cps.toList))) H) dGt := by
  intro W σ ρ H h Q v1 v2 d1 d2 rh r1 r2 w
  unfold dGt at w
  split at w
  · cases r1; cases r2; exact .inl ⟨_, _, rfl, rfl, w.okI Le.refl rh (.bl _)⟩
  · cases r1; cases r2; exact .inr ⟨_, _, rfl, rfl, w.okI Le.refl rh (.bl _)⟩
  · exact w.elim
theorem sem_ge : Sem2 X (fun x y H Q => rI0 (fun i j => .bl (decide (j ≤ i))) x y H Q ∨ ∃ i j, x = V.str i ∧ y = V.str j ∧ Q (V.bl (!decide (i.cps.toList < j.cps.toList))) H) dGe := by
  intro W σ ρ H h Q v1 v2 d1 d2 rh r1 r2 w
  unfold dGe at w
  split at w
  · cases r1; cases r2; exact .inl ⟨_, _, rfl, rfl, w.okI Le.refl rh (.bl _)⟩
  · cases r1; cases r2; exact .inr ⟨_, _, rfl, rfl, w.okI Le.refl rh (.bl _)⟩
  · exact w.elim
theorem op_lt2 : OpR X (compareOp .Lt) (fun x y H Q => rI0 (fun i j => .bl (decide (i < j))) x y H Q ∨ ∃ i j, x = V.str i ∧ y = V.str j ∧ Q (V.bl (decide (i.cps.toList < j.cps.toList))) H) := OpRor op_lt op_lt_str
theorem op_le2 : OpR X (compareOp .LtE) (fun x y H Q => rI0 (fun i j => .bl (decide (i ≤ j))) x y H Q ∨ ∃ i j, x = V.str i ∧ y = V.str j ∧ Q (V.bl (!decide (j.cps.toList < i.cps.toList))) H) := OpRor op_le op_le_str
theorem op_gt2 : OpR X (compareOp .Gt) (fun x y H Q => rI0 (fun i j => .bl (decide (j < i))) x y H Q ∨ ∃ i j, x = V.str i ∧ y = V.str j ∧ Q (V.bl (decide (j.cps.toList < i.cps.toList))) H) := OpRor op_gt op_gt_str
theorem op_ge2 : OpR X (compareOp .GtE) (fun x y H Q => rI0 (fun i j => .bl (decide (j ≤ i))) x y H Q ∨ ∃ i j, x = V.str i ∧ y = V.str j ∧ Q (V.bl (!decide (i.cps.toList < j.cps.toList))) H) := OpRor op_ge op_ge_str
/-- == : texts and small things at once, else as data -/
def scD : D → D → Option Bool
  | .str a, .str b => some (decide (a = b))
  | .int a, .int b => some (decide (a = b))
  | .bl a, .bl b => some (decide (a = b))
  | .non, .non => some true
  | .non, .str _ => some false
  | .str _, .non => some false
  | .non, .int _ => some false
  | .int _, .non => some false
  | .int _, .str _ => some false
  | .str _, .int _ => some false
  | _, _ => none
def dE (neg : Bool) (x y : D) (h : Mh) : R D := match scD x y with
  | some b => .ok (.bl (if neg then !b else b)) h
  | none => dEqB neg x y h
theorem sc_of {K mg ρ H} {v1 v2 : V} {d1 d2 : D} {b : Bool} (r1 : RV K mg ρ H v1 d1) (r2 : RV K mg ρ H v2 d2) (e : scD d1 d2 = some b) : scal v1 v2 = true ∧ decide (v1 = v2) = b := by
  cases r1 <;> cases r2 <;> first
    | (cases e; done)
    | (cases e; exact ⟨rfl, by simp⟩)
theorem sem_E (neg : Bool) : Sem2 X (fun x y H Q => (scal x y = true ∧ Q (.bl (if neg then !decide (x = y) else decide (x = y))) H) ∨ (if neg then rNeD X.K x y H Q else rEqD X.K x y H Q)) (dE neg) := by
  intro W σ ρ H h Q v1 v2 d1 d2 rh r1 r2 w
  unfold dE at w
  split at w
  · rename_i b e
    obtain ⟨s1, s2⟩ := sc_of r1 r2 e
    refine .inl ⟨s1, ?_⟩
    rw [s2]
    exact w.okI Le.refl rh (.bl _)
  · cases neg with
    | true => exact .inr (sem_ne W σ ρ H h Q v1 v2 d1 d2 rh r1 r2 w)
    | false => exact .inr (sem_eq W σ ρ H h Q v1 v2 d1 d2 rh r1 r2 w)
theorem op_E (hu : X.A.units + 64 < cLine) : OpR X (compareOp .Eq) (fun x y H Q => (scal x y = true ∧ Q (.bl (if false then !decide (x = y) else decide (x = y))) H) ∨ (if false then rNeD X.K x y H Q else rEqD X.K x y H Q)) := OpRor op_eq (op_eqD hu)
theorem op_NE (hu : X.A.units + 64 < cLine) : OpR X (compareOp .NotEq) (fun x y H Q => (scal x y = true ∧ Q (.bl (if true then !decide (x = y) else decide (x = y))) H) ∨ (if true then rNeD X.K x y H Q else rEqD X.K x y H Q)) := OpRor op_ne (op_neD hu)
/-- in, not in: a sign in a text; among flat items -/
def flatD : D → Bool
  | .non => true
  | .bl _ => true
  | .int _ => true
  | .str _ => true
  | _ => false
def eqF : D → D → Bool
  | .non, .non => true
  | .bl a, .bl b => a == b
  | .bl a, .int b => (if a then 1 else 0) == b
  | .int a, .bl b => a == (if b then 1 else 0)
  | .int a, .int b => a == b
  | .str a, .str b => a == b
  | _, _ => false
theorem flat_of {K mg ρ H} {v : V} {d : D} (r : RV K mg ρ H v d) (f : flatD d = true) : flatV v = true := by cases r <;> first | rfl | cases f
theorem eqF_of {K mg ρ H} {v v' : V} {d d' : D} (r : RV K mg ρ H v d) (r' : RV K mg ρ H v' d') (f : flatD d = true) (f' : flatD d' = true) : eqV v v' = eqF d d' := by
  cases r <;> first
    | (cases f; done)
    | (cases r' <;> first | rfl | (cases f'; done))
theorem allF_of {K mg ρ H} : ∀ {vs : List V} {ds : List D}, RVs K mg ρ H vs ds → ds.all flatD = true → vs.all flatV = true
  | _, _, .nil, _ => rfl
  | _, _, .cons r t, f => by
    rw [List.all_cons, Bool.and_eq_true] at f ⊢
    exact ⟨flat_of r f.1, allF_of t f.2⟩
theorem inF_of {K mg ρ H} {v : V} {d : D} (r : RV K mg ρ H v d) (f : flatD d = true) : ∀ {vs : List V} {ds : List D}, RVs K mg ρ H vs ds → ds.all flatD = true → inV v vs = ds.any fun y => eqF y d
  | _, _, .nil, _ => rfl
  | _, _, .cons q t, g => by
    rw [List.all_cons, Bool.and_eq_true] at g
    have ih := inF_of r f t g.2
    unfold inV at ih ⊢
    rw [List.any_cons, List.any_cons, ih, eqF_of q r g.1 f]
def keyD : D → Option Key
  | .int i => some (.inl i)
  | .str x => some (.inr x)
  | _ => none
def dIn (neg : Bool) (x y : D) (h : Mh) : R D := match x, y with
  | .str a, .str b => match a.cps.toList with
    | [c] => .ok (.bl (if neg then !decide (c ∈ b.cps.toList) else decide (c ∈ b.cps.toList))) h
    | _ => .ok (.bl (if neg then !(!(Builtin.Str.occurrences b a 0 b.length 1).isEmpty) else !(Builtin.Str.occurrences b a 0 b.length 1).isEmpty)) h
  | x, .tup ds => if flatD x = true ∧ ds.all flatD = true then .ok (.bl (if neg then !(ds.any fun y => eqF y x) else ds.any fun y => eqF y x)) h else .bad
  | x, .kt ds => if flatD x = true ∧ ds.all flatD = true then .ok (.bl (if neg then !(ds.any fun y => eqF y x) else ds.any fun y => eqF y x)) h else .bad
  | x, .ref n => match h[n]? with
    | some (.lst ds) => if flatD x = true ∧ ds.all flatD = true then .ok (.bl (if neg then !(ds.any fun y => eqF y x) else ds.any fun y => eqF y x)) h else .bad
    | _ => .bad
  | _, _ => .bad
theorem one_sign : ∀ (a : Str) (c : Nat), a.cps.toList = [c] → a = ⟨#[c]⟩
  | ⟨cps⟩, c, e => by rw [show cps = #[c] from Array.toList_inj.mp e]
def rIn3 (K : PySem.W.Frag) (neg : Bool) : R2 := fun x y H Q => rIn K neg x y H Q ∨ (∃ (c : Nat) (z : Str), x = .str ⟨#[c]⟩ ∧ y = .str z ∧ Q (.bl (if neg then !decide (c ∈ z.cps.toList) else decide (c ∈ z.cps.toList))) H) ∨
  ∃ i j, x = V.str i ∧ y = V.str j ∧ Q (V.bl (if neg then !(!(Builtin.Str.occurrences j i 0 j.length 1).isEmpty) else !(Builtin.Str.occurrences j i 0 j.length 1).isEmpty)) H
theorem sem_in (neg : Bool) : Sem2 X (rIn3 X.K neg) (dIn neg) := by
  intro W σ ρ H h Q v1 v2 d1 d2 rh r1 r2 w
  unfold dIn at w
  split at w
  · split at w
    · rename_i c e
      cases r1; cases r2
      exact .inr (.inl ⟨c, _, congrArg V.str (one_sign _ _ e), rfl, w.okI Le.refl rh (.bl _)⟩)
    · cases r1; cases r2
      exact .inr (.inr ⟨_, _, rfl, rfl, w.okI Le.refl rh (.bl _)⟩)
  · split at w
    · rename_i hz
      cases r2 with
      | tup t q =>
        have t := SqT.of (K := X.K) t
        refine .inl ⟨_, _, rfl, .inr t, flat_of r1 hz.1, allF_of q hz.2, ?_⟩
        rw [inF_of r1 hz.1 q hz.2]
        exact w.okI Le.refl rh (.bl _)
    · exact w.elim
  · split at w
    · rename_i hz
      cases r2 with
      | kt t q =>
        refine .inl ⟨_, _, rfl, .inr t, flat_of r1 hz.1, allF_of q hz.2, ?_⟩
        rw [inF_of r1 hz.1 q hz.2]
        exact w.okI Le.refl rh (.bl _)
    · exact w.elim
  · split at w
    · split at w
      · rename_i e hz
        cases r2 with
        | ref r2 =>
          cases rh.at r2 e with
          | lst h1 q =>
            refine .inl ⟨_, _, rfl, .inl (SqL.of h1), flat_of r1 hz.1, allF_of q hz.2, ?_⟩
            rw [inF_of r1 hz.1 q hz.2]
            exact w.okI Le.refl rh (.bl _)
      · exact w.elim
    · exact w.elim
  · exact w.elim
theorem op_in3 : OpR X (compareOp .In) (rIn3 X.K false) := OpRor op_in_seq (OpRor op_in_sign op_in_str)
theorem op_notIn3 : OpR X (compareOp .NotIn) (rIn3 X.K true) := OpRor op_notIn_seq (OpRor op_notIn_sign op_notIn_str)
section
variable {W : WX} {a b c : Expr} {ma mb mc : Sg → Mh → R D} {pos : Pos}
theorem q_lt (ha : PM X W a ma) (hb : PM X W b mb) : PM X W (.Compare a [.Lt] [b] pos) (m2 dLt ma mb) := q_cmp op_lt2 sem_lt ha hb (nomark _)
theorem q_le (ha : PM X W a ma) (hb : PM X W b mb) : PM X W (.Compare a [.LtE] [b] pos) (m2 dLe ma mb) := q_cmp op_le2 sem_le ha hb (nomark _)
theorem q_gt (ha : PM X W a ma) (hb : PM X W b mb) : PM X W (.Compare a [.Gt] [b] pos) (m2 dGt ma mb) := q_cmp op_gt2 sem_gt ha hb (nomark _)
theorem q_ge (ha : PM X W a ma) (hb : PM X W b mb) : PM X W (.Compare a [.GtE] [b] pos) (m2 dGe ma mb) := q_cmp op_ge2 sem_ge ha hb (nomark _)
theorem q_eq (hu : X.A.units + 64 < cLine) (ha : PM X W a ma) (hb : PM X W b mb) : PM X W (.Compare a [.Eq] [b] pos) (m2 (dE false) ma mb) := q_cmp (op_E hu) (sem_E false) ha hb (nomark _)
theorem q_ne (hu : X.A.units + 64 < cLine) (ha : PM X W a ma) (hb : PM X W b mb) : PM X W (.Compare a [.NotEq] [b] pos) (m2 (dE true) ma mb) := q_cmp (op_NE hu) (sem_E true) ha hb (nomark _)
theorem q_is (ha : PM X W a ma) (hb : PM X W b mb) : PM X W (.Compare a [.Is] [b] pos) (m2 dIs ma mb) := q_cmp op_isN sem_is ha hb (nomark _)
theorem q_isnot (ha : PM X W a ma) (hb : PM X W b mb) : PM X W (.Compare a [.IsNot] [b] pos) (m2 dIsNot ma mb) := q_cmp op_notN sem_isNot ha hb (nomark _)
theorem q_in (ha : PM X W a ma) (hb : PM X W b mb) (hm : behindInMarks .In b = false := by with_unfolding_all rfl) : PM X W (.Compare a [.In] [b] pos) (m2 (dIn false) ma mb) := q_cmp op_in3 (sem_in false) ha hb hm
theorem q_notin (ha : PM X W a ma) (hb : PM X W b mb) (hm : behindInMarks .NotIn b = false := by with_unfolding_all rfl) : PM X W (.Compare a [.NotIn] [b] pos) (m2 (dIn true) ma mb) := q_cmp op_notIn3 (sem_in true) ha hb hm
theorem t_lt (ha : PM X W a ma) (hb : PM X W b mb) : PB X W (.Compare a [.Lt] [b] pos) (mTest (m2 dLt ma mb)) := q_cmpT op_lt2 sem_lt ha hb (nomark _)
theorem t_le (ha : PM X W a ma) (hb : PM X W b mb) : PB X W (.Compare a [.LtE] [b] pos) (mTest (m2 dLe ma mb)) := q_cmpT op_le2 sem_le ha hb (nomark _)
theorem t_gt (ha : PM X W a ma) (hb : PM X W b mb) : PB X W (.Compare a [.Gt] [b] pos) (mTest (m2 dGt ma mb)) := q_cmpT op_gt2 sem_gt ha hb (nomark _)
theorem t_ge (ha : PM X W a ma) (hb : PM X W b mb) : PB X W (.Compare a [.GtE] [b] pos) (mTest (m2 dGe ma mb)) := q_cmpT op_ge2 sem_ge ha hb (nomark _)
theorem t_eq (hu : X.A.units + 64 < cLine) (ha : PM X W a ma) (hb : PM X W b mb) : PB X W (.Compare a [.Eq] [b] pos) (mTest (m2 (dE false) ma mb)) := q_cmpT (op_E hu) (sem_E false) ha hb (nomark _)
theorem t_ne (hu : X.A.units + 64 < cLine) (ha : PM X W a ma) (hb : PM X W b mb) : PB X W (.Compare a [.NotEq] [b] pos) (mTest (m2 (dE true) ma mb)) := q_cmpT (op_NE hu) (sem_E true) ha hb (nomark _)
theorem t_is (ha : PM X W a ma) (hb : PM X W b mb) : PB X W (.Compare a [.Is] [b] pos) (mTest (m2 dIs ma mb)) := q_cmpT op_isN sem_is ha hb (nomark _)
theorem t_isnot (ha : PM X W a ma) (hb : PM X W b mb) : PB X W (.Compare a [.IsNot] [b] pos) (mTest (m2 dIsNot ma mb)) := q_cmpT op_notN sem_isNot ha hb (nomark _)
theorem t_in (ha : PM X W a ma) (hb : PM X W b mb) (hm : behindInMarks .In b = false := by with_unfolding_all rfl) : PB X W (.Compare a [.In] [b] pos) (mTest (m2 (dIn false) ma mb)) := q_cmpT op_in3 (sem_in false) ha hb hm
theorem t_notin (ha : PM X W a ma) (hb : PM X W b mb) (hm : behindInMarks .NotIn b = false := by with_unfolding_all rfl) : PB X W (.Compare a [.NotIn] [b] pos) (mTest (m2 (dIn true) ma mb)) := q_cmpT op_notIn3 (sem_in true) ha hb hm
/-- a op1 b op2 c -/
def mChain (f g : D → D → Mh → R D) (ma mb mc : Sg → Mh → R D) : Sg → Mh → R D := fun sg h => (ma sg h).bind fun x h1 => (mb sg h1).bind fun y h2 => (f x y h2).bind fun z h3 => match z with
  | .bl true => (mc sg h3).bind fun w h4 => g y w h4
  | .bl false => .ok (.bl false) h3
  | _ => .bad
theorem tChain_of {r r' : R2} {f g : D → D → Mh → R D} (s1 : Sem2 X r f) (s2 : Sem2 X r' g) {σ : L2.St} {H : Hp} {Q : VK} (w : TM X.K X.mg W (mChain f g ma mb mc) σ H Q) : tChain r r' (TM X.K X.mg W ma) (TM X.K X.mg W mb) (TM X.K X.mg W mc) σ H Q := by
  obtain ⟨ρ, sg, h, hs, rh, w⟩ := w
  refine TM.go hs rh w fun ρ1 H1 h1 v d le rh1 rv w1 => TM.go (hs.mono le) rh1 w1 fun ρ2 H2 h2 v2 d2 le2 rh2 rv2 w2 => ?_
  refine s1 W σ ρ2 H2 h2 _ v v2 d d2 rh2 (rv.mono le2) rv2 (w2.cut fun ρ3 H3 h3 v3 d3 le3 rh3 rv3 w3 => ?_)
  split at w3
  · cases rv3
    refine ⟨true, rfl, ?_⟩
    rw [if_pos rfl]
    exact TM.go ((hs.mono le).mono (le2.trans le3)) rh3 w3 fun ρ4 H4 h4 v4 d4 le4 rh4 rv4 w4 => s2 W σ ρ4 H4 h4 Q v2 v4 d2 d4 rh4 (rv2.mono (le3.trans le4)) rv4 w4
  · cases rv3
    refine ⟨false, rfl, ?_⟩
    rw [if_neg Bool.false_ne_true]
    exact w3.okI Le.refl rh3 (.bl _)
  · exact w3.elim
theorem q_lele (ha : PM X W a ma) (hb : PM X W b mb) (hc : PM X W c mc) (hm : lastMarks [.LtE, .LtE] [b, c] = false := by with_unfolding_all rfl) : PM X W (.Compare a [.LtE, .LtE] [b, c] pos) (mChain dLe dLe ma mb mc) := ⟨PEimp (pe_chain op_le2 op_le2 ha.pe hb.pe hc.pe hm) fun _ _ _ w => tChain_of sem_le sem_le w⟩
theorem t_lele (ha : PM X W a ma) (hb : PM X W b mb) (hc : PM X W c mc) (hm : lastMarks [.LtE, .LtE] [b, c] = false := by with_unfolding_all rfl) : PB X W (.Compare a [.LtE, .LtE] [b, c] pos) (mTest (mChain dLe dLe ma mb mc)) := ⟨PTimp (pt_chain op_le2 op_le2 ha.pe hb.pe hc.pe hm) fun _ _ _ w => tTest_of (fun _ _ _ w => tChain_of sem_le sem_le w) w⟩
/-! ### and, or, not, if-else -/
theorem dTru_of {K mg ρ H h} {v : V} {d : D} {b : Bool} {h' : Mh} (rh : RHp K mg ρ H h) (r : RV K mg ρ H v d) (e : dTru d h = .ok b h') : h' = h ∧ TruV K v H b := by
  have emp : ∀ {vs : List V} {ds : List D}, RVs K mg ρ H vs ds → ds.isEmpty = vs.isEmpty := fun {vs ds} q => by cases q <;> rfl
  cases r with
  | non => cases e; exact ⟨rfl, rfl⟩
  | bl b => cases e; exact ⟨rfl, rfl⟩
  | int i => cases e; exact ⟨rfl, rfl⟩
  | ty n => cases e
  | glo n => cases e
  | str x =>
    simp only [dTru] at e
    split at e
    · rename_i hz
      cases e
      refine ⟨rfl, hz, ?_⟩
      rw [Bool.eq_iff_iff]
      simp
    · cases e
  | tup t q => cases e; exact ⟨rfl, .inr (.inl ⟨_, SqT.of t, by rw [emp q]⟩)⟩
  | kt t q => cases e; exact ⟨rfl, .inr (.inl ⟨_, t, by rw [emp q]⟩)⟩
  | ref r =>
    simp only [dTru] at e
    split at e
    · rename_i e1
      cases e
      cases rh.at r e1 with
      | lst h1 q => exact ⟨rfl, .inl ⟨_, SqL.of h1, by rw [emp q]⟩⟩
    · rename_i e1
      cases e
      cases rh.at r e1 with
      | dk h1 ke q =>
        refine ⟨rfl, .inr (.inr ⟨_, h1, ?_⟩)⟩
        rename_i kds kvs
        cases kvs with
        | nil => cases kds with
          | nil => rfl
          | cons x y => cases ke
        | cons x y => cases kds with
          | nil => cases ke
          | cons z y => rfl
    · cases e
/-- a value as a test -/
def mTru (m : Sg → Mh → R D) : Sg → Mh → R Bool := fun sg h => (m sg h).bind dTru
theorem tru_bind {K mg} {ρ : Ren} {H : Hp} {h : Mh} {v : V} {d : D} {σ : L2.St} {γ δ : Type} {rel2 : Ren → Hp → δ → γ → Prop} {Q : δ → Hp → Prop} {f : Bool → Mh → R γ} (rh : RHp K mg ρ H h) (r : RV K mg ρ H v d) (w : WG K mg rel2 W σ Q ρ H ((dTru d h).bind f)) :
    ∃ b, TruV K v H b ∧ WG K mg rel2 W σ Q ρ H (f b h) := by
  cases e : dTru d h with
  | ok b h' =>
    obtain ⟨rfl, t⟩ := dTru_of rh r e
    rw [e] at w
    exact ⟨b, t, w⟩
  | bad => rw [e] at w; exact w.elim
  | exc c fs h' =>
    exfalso
    cases d <;> simp only [dTru] at e <;> first
      | (cases e; done)
      | (split at e <;> cases e)
theorem t_val (ha : PM X W a ma) (he : ∀ whole, isTrue a X.env whole = (do let v ← whole; standAt a.pos; holding [v] (truthy v)) := by intro _; rfl) : PB X W a (mTru ma) := ⟨PTimp (pt_truth ha.pe he) fun σ H Q ⟨ρ, sg, h, hs, rh, w⟩ =>
  TM.go hs rh w fun ρ1 H1 h1 v d le rh1 rv w1 => by
    have w1' : WG X.K X.mg (fun _ _ v a => v = a) W σ Q ρ1 H1 ((dTru d h1).bind fun b h => .ok b h) := by
      cases e : dTru d h1 <;> rw [e] at w1 <;> exact w1
    obtain ⟨b, t, w2⟩ := tru_bind rh1 rv w1'
    exact ⟨b, t, w2.okI Le.refl rh1 rfl⟩⟩
structure PBW (X : Cx) (W : WX) (e : Expr) (m : Sg → Mh → R Bool) : Prop where
  pw : PW X e (TMb X.K X.mg W m)
theorem PWimp {X : Cx} {e : Expr} {t t' : TT} (h : PW X e t) (i : ∀ σ H Q, t' σ H Q → t σ H Q) : PW X e t' := ⟨fun wh pins s σ H Q I hw => h.run wh pins s σ H Q I (i _ _ _ hw)⟩
def mAndT (m n : Sg → Mh → R Bool) : Sg → Mh → R Bool := fun sg h => (m sg h).bind fun b h1 => if b = true then n sg h1 else .ok false h1
def mOrT (m n : Sg → Mh → R Bool) : Sg → Mh → R Bool := fun sg h => (m sg h).bind fun b h1 => if b = true then .ok true h1 else n sg h1
variable {rest : List Expr} {na nb : Sg → Mh → R Bool}
theorem tw_and1 (ha : PB X W a na) : PBW X W (.BoolOp .And [a] pos) na := ⟨pw_and1 ha.pt⟩
theorem tw_or1 (ha : PB X W a na) : PBW X W (.BoolOp .Or [a] pos) na := ⟨pw_or1 ha.pt⟩
theorem tw_and (ha : PB X W a na) (hb : PBW X W (.BoolOp .And (b :: rest) pos) nb) : PBW X W (.BoolOp .And (a :: b :: rest) pos) (mAndT na nb) := ⟨PWimp (pw_and ha.pt hb.pw) fun σ H Q ⟨ρ, sg, h, hs, rh, w⟩ =>
  TMb.go hs rh w fun ρ1 H1 h1 b le rh1 w1 => by
    split
    · rename_i hb; rw [if_pos hb] at w1; exact ⟨ρ1, sg, h1, hs.mono le, rh1, w1⟩
    · rename_i hb; rw [if_neg hb] at w1; exact w1.okI Le.refl rh1 rfl⟩
theorem tw_or (ha : PB X W a na) (hb : PBW X W (.BoolOp .Or (b :: rest) pos) nb) : PBW X W (.BoolOp .Or (a :: b :: rest) pos) (mOrT na nb) := ⟨PWimp (pw_or ha.pt hb.pw) fun σ H Q ⟨ρ, sg, h, hs, rh, w⟩ =>
  TMb.go hs rh w fun ρ1 H1 h1 b le rh1 w1 => by
    split
    · rename_i hb; rw [if_pos hb] at w1; exact w1.okI Le.refl rh1 rfl
    · rename_i hb; rw [if_neg hb] at w1; exact ⟨ρ1, sg, h1, hs.mono le, rh1, w1⟩⟩
theorem t_w (h : PBW X W a na) : PB X W a na := ⟨h.pw.pt⟩
def mNotT (m : Sg → Mh → R Bool) : Sg → Mh → R Bool := fun sg h => (m sg h).bind fun b h1 => .ok (!b) h1
theorem t_not (ha : PB X W a na) : PB X W (.UnaryOp .Not a pos) (mNotT na) := ⟨PTimp (pt_not ha.pt) fun σ H Q ⟨ρ, sg, h, hs, rh, w⟩ => TMb.go hs rh w fun ρ1 H1 h1 b le rh1 w1 => w1.okI Le.refl rh1 rfl⟩
/-- as values -/
def mAnd (m n : Sg → Mh → R D) : Sg → Mh → R D := fun sg h => (m sg h).bind fun d h1 => (dTru d h1).bind fun b h2 => if b = true then n sg h2 else .ok d h2
def mOr (m n : Sg → Mh → R D) : Sg → Mh → R D := fun sg h => (m sg h).bind fun d h1 => (dTru d h1).bind fun b h2 => if b = true then .ok d h2 else n sg h2
theorem q_one {op} (ha : PM X W a ma) : PM X W (.BoolOp op [a] pos) ma := ⟨pe_one ha.pe⟩
theorem q_and (ha : PM X W a ma) (hb : PM X W (.BoolOp .And (b :: rest) pos) mb) : PM X W (.BoolOp .And (a :: b :: rest) pos) (mAnd ma mb) := ⟨PEimp (pe_andT ha.pe hb.pe) fun σ H Q ⟨ρ, sg, h, hs, rh, w⟩ =>
  TM.go hs rh w fun ρ1 H1 h1 v d le rh1 rv w1 => by
    obtain ⟨b, t, w2⟩ := tru_bind rh1 rv w1
    refine ⟨b, t, ?_⟩
    split
    · rename_i hb; rw [if_pos hb] at w2; exact ⟨ρ1, sg, h1, hs.mono le, rh1, w2⟩
    · rename_i hb; rw [if_neg hb] at w2; exact w2.okI Le.refl rh1 rv⟩
theorem q_or (ha : PM X W a ma) (hb : PM X W (.BoolOp .Or (b :: rest) pos) mb) : PM X W (.BoolOp .Or (a :: b :: rest) pos) (mOr ma mb) := ⟨PEimp (pe_orT ha.pe hb.pe) fun σ H Q ⟨ρ, sg, h, hs, rh, w⟩ =>
  TM.go hs rh w fun ρ1 H1 h1 v d le rh1 rv w1 => by
    obtain ⟨b, t, w2⟩ := tru_bind rh1 rv w1
    refine ⟨b, t, ?_⟩
    split
    · rename_i hb; rw [if_pos hb] at w2; exact w2.okI Le.refl rh1 rv
    · rename_i hb; rw [if_neg hb] at w2; exact ⟨ρ1, sg, h1, hs.mono le, rh1, w2⟩⟩
def mNot (m : Sg → Mh → R D) : Sg → Mh → R D := fun sg h => (m sg h).bind fun d h1 => (dTru d h1).bind fun b h2 => .ok (.bl (!b)) h2
theorem q_not (ha : PM X W a ma) : PM X W (.UnaryOp .Not a pos) (mNot ma) := ⟨PEimp (pe_notT ha.pe) fun σ H Q ⟨ρ, sg, h, hs, rh, w⟩ =>
  TM.go hs rh w fun ρ1 H1 h1 v d le rh1 rv w1 => by
    obtain ⟨b, t, w2⟩ := tru_bind rh1 rv w1
    exact ⟨b, t, w2.okI Le.refl rh1 (.bl _)⟩⟩
def mIte (m : Sg → Mh → R Bool) (p q : Sg → Mh → R D) : Sg → Mh → R D := fun sg h => (m sg h).bind fun b h1 => if b = true then p sg h1 else q sg h1
theorem q_ite (hc : PB X W c na) (ha : PM X W a ma) (hb : PM X W b mb) : PM X W (.IfExp c a b pos) (mIte na ma mb) := ⟨PEimp (pe_ifExp hc.pt ha.pe hb.pe) fun σ H Q ⟨ρ, sg, h, hs, rh, w⟩ =>
  TMb.go hs rh w fun ρ1 H1 h1 b le rh1 w1 => by
    split
    · rename_i hb; rw [if_pos hb] at w1; exact ⟨ρ1, sg, h1, hs.mono le, rh1, w1⟩
    · rename_i hb; rw [if_neg hb] at w1; exact ⟨ρ1, sg, h1, hs.mono le, rh1, w1⟩⟩
end
end
end Mo

namespace Mo
open PySem PySem.Spec PyProof.Rows L2
section
variable {X : Cx} {W : WX}
/-! ### lists of expressions, displays -/
def mNil : Sg → Mh → R (List D) := fun _ h => .ok [] h
def mCons (m : Sg → Mh → R D) (r : Sg → Mh → R (List D)) : Sg → Mh → R (List D) := fun sg h => (m sg h).bind fun d h1 => (r sg h1).bind fun ds h2 => .ok (d :: ds) h2
theorem l_nil : PL X W [] mNil := ⟨PAimp pa_nil fun σ H Q ⟨ρ, sg, h, hs, rh, w⟩ => w.okI Le.refl rh .nil⟩
theorem l_cons {e : Expr} {es : List Expr} {m : Sg → Mh → R D} {r : Sg → Mh → R (List D)} (he : PM X W e m) (hr : PL X W es r) (hs : starEach (e :: es) X.env = (false, eval e X.env) :: starEach es X.env := by rfl) : PL X W (e :: es) (mCons m r) :=
  ⟨PAimp (pa_cons he.pe hr.pa hs) fun σ H Q ⟨ρ, sg, h, hs, rh, w⟩ => TM.go hs rh w fun ρ1 H1 h1 v d le rh1 rv w1 => TMl.go (hs.mono le) rh1 w1 fun ρ2 H2 h2 vs ds le2 rh2 rvs w2 => w2.okI Le.refl rh2 (.cons (rv.mono le2) rvs)⟩
def mTup (r : Sg → Mh → R (List D)) : Sg → Mh → R D := fun sg h => (r sg h).bind fun ds h1 => if ds.length ≤ sizeLine then .ok (.tup ds) h1 else .bad
def mLst (r : Sg → Mh → R (List D)) : Sg → Mh → R D := fun sg h => (r sg h).bind fun ds h1 => if ds.length ≤ sizeLine then .ok (.ref h1.length) (h1 ++ [.lst ds]) else .bad
section
variable {a b c : Expr} {es : List Expr} {ma mb mc : Sg → Mh → R D} {ml : Sg → Mh → R (List D)} {pos : Pos}
theorem q_tup {k} (h : PL X W es ml) : PM X W (.Tuple es k pos) (mTup ml) := ⟨PEimp (pe_tup h.pa) fun σ H Q ⟨ρ, sg, h, hs, rh, w⟩ => TMl.go hs rh w fun ρ1 H1 h1 vs ds le rh1 rvs w1 => by
  split at w1
  · rename_i hz
    exact ⟨by rw [rvs.length]; exact hz, fun p hp => w1.tuple rh1 hp rvs⟩
  · exact w1.elim⟩
theorem q_lst (h : PL X W es ml) : PM X W (.List es pos) (mLst ml) := ⟨PEimp (pe_lst h.pa) fun σ H Q ⟨ρ, sg, h, hs, rh, w⟩ => TMl.go hs rh w fun ρ1 H1 h1 vs ds le rh1 rvs w1 => by
  split at w1
  · rename_i hz
    exact ⟨by rw [rvs.length]; exact hz, fun p hp => w1.alloc rh1 hp (RO.newList hp rvs)⟩
  · exact w1.elim⟩
/-! ### subscripts -/
theorem RVs.atI {K mg ρ H} {vs : List V} {ds : List D} {i : Int} {d : D} (r : RVs K mg ρ H vs ds) (e : L2.atI ds i = some d) : ∃ v, L2.atI vs i = some v ∧ RV K mg ρ H v d := by
  unfold L2.atI at e ⊢
  rw [r.length]
  cases q : ixN ds.length i with
  | none => rw [q] at e; cases e
  | some j =>
    rw [q] at e
    obtain ⟨v, e1, rv⟩ := r.get (show ds[j]? = some d from e)
    exact ⟨v, e1, rv⟩
def dIx : D → D → Mh → R D
  | .tup ds, .int i, h => match atI ds i with
    | some d => .ok d h
    | none => .bad
  | .kt ds, .int i, h => match atI ds i with
    | some d => .ok d h
    | none => .bad
  | .str z, .int i, h => if z.length ≤ sizeLine then match atI z.cps.toList i with
    | some c => .ok (.str ⟨#[c]⟩) h
    | none => .bad else .bad
  | .ref n, .int i, h => match h[n]? with
    | some (.lst ds) => match atI ds i with
      | some d => .ok d h
      | none => .bad
    | some (.fls ds) => match atI ds i with
      | some d => .ok d h
      | none => .bad
    | _ => .bad
  | _, _, _ => .bad
theorem sem_ix : Sem2 X (rIx X.K) dIx := by
  intro W σ ρ H h Q v1 v2 d1 d2 rh r1 r2 w
  unfold dIx at w
  split at w
  · split at w
    · rename_i e
      cases r2
      cases r1 with
      | tup t q =>
        have t := SqT.of (K := X.K) t
        obtain ⟨v, e1, rv⟩ := q.atI e
        exact .inr (.inl ⟨_, _, _, v, rfl, rfl, t, e1, w.okI Le.refl rh rv⟩)
    · exact w.elim
  · split at w
    · rename_i e
      cases r2
      cases r1 with
      | kt t q =>
        obtain ⟨v, e1, rv⟩ := q.atI e
        exact .inr (.inl ⟨_, _, _, v, rfl, rfl, t, e1, w.okI Le.refl rh rv⟩)
    · exact w.elim
  · split at w
    · split at w
      · rename_i e
        cases r1; cases r2
        exact .inr (.inr ⟨_, _, _, rfl, rfl, by assumption, e, w.okI Le.refl rh (.str _)⟩)
      · exact w.elim
    · exact w.elim
  · split at w
    · rename_i e0
      split at w
      · rename_i e
        cases r2
        cases r1 with
        | ref r1 =>
          cases rh.at r1 e0 with
          | lst h1 q =>
            obtain ⟨v, e1, rv⟩ := q.atI e
            exact .inl ⟨_, _, _, v, rfl, rfl, SqL.of h1, e1, w.okI Le.refl rh rv⟩
      · exact w.elim
    · rename_i e0
      split at w
      · rename_i e
        cases r2
        cases r1 with
        | ref r1 =>
          cases rh.at r1 e0 with
          | fls h1 q =>
            obtain ⟨v, e1, rv⟩ := q.atI e
            exact .inl ⟨_, _, _, v, rfl, rfl, h1.sq, e1, w.okI Le.refl rh rv⟩
      · exact w.elim
    · exact w.elim
  · exact w.elim
theorem q_sub_ix (ha : PM X W a ma) (hb : PM X W b mb) (hp : PlainIx b := by intro _ _; rfl) : PM X W (.Subscript a b pos) (m2 dIx ma mb) := q_ix ix_seq sem_ix ha hb hp
/-- a slice's part -/
def mNoP : Sg → Mh → R (Option Int) := fun _ h => .ok none h
def mPart (m : Sg → Mh → R D) : Sg → Mh → R (Option Int) := fun sg h => (m sg h).bind fun d h1 => match d with
  | .int i => .ok (some i) h1
  | _ => .bad
def TMo (W : WX) (K : PySem.W.Frag) (mg : Str → Option Value) (m : Sg → Mh → R (Option Int)) : TO := fun σ H Q => ∃ ρ sg h, RSt K mg ρ H σ sg ∧ RHp K mg ρ H h ∧ WG K mg (fun _ _ v a => v = a) W σ Q ρ H (m sg h)
structure PPt (X : Cx) (W : WX) (e : Option Expr) (m : Sg → Mh → R (Option Int)) : Prop where
  po : PO X e (TMo W X.K X.mg m)
theorem POimp {X : Cx} {e : Option Expr} {t t' : TO} (h : PO X e t) (i : ∀ σ H Q, t' σ H Q → t σ H Q) : PO X e t' := ⟨fun pins s σ H Q I hw => h.run pins s σ H Q I (i _ _ _ hw)⟩
theorem p_none : PPt X W none mNoP := ⟨POimp po_none fun σ H Q ⟨ρ, sg, h, hs, rh, w⟩ => w.okI Le.refl rh rfl⟩
theorem p_some (ha : PM X W a ma) : PPt X W (some a) (mPart ma) := ⟨POimp (po_some ha.pe) fun σ H Q ⟨ρ, sg, h, hs, rh, w⟩ => TM.go hs rh w fun ρ1 H1 h1 v d le rh1 rv w1 => by
  cases rv <;> first | exact w1.elim | skip
  exact ⟨_, rfl, w1.okI Le.refl rh1 rfl⟩⟩
def cutD (xs : List D) (lo hi : Option Int) : List D := (xs.drop (HT.sIx xs.length 0 lo)).take (HT.sIx xs.length xs.length hi - HT.sIx xs.length 0 lo)
theorem RVs.cut {K mg ρ H} {vs : List V} {ds : List D} (r : RVs K mg ρ H vs ds) (lo hi : Option Int) : RVs K mg ρ H (cutV vs lo hi) (cutD ds lo hi) := by
  unfold cutV cutD
  rw [r.length]
  exact (r.drop _).take _
def dSl (x : D) (lo hi : Option Int) (h : Mh) : R D := match x with
  | .str z => if z.length ≤ sizeLine then .ok (.str (cutS z lo hi)) h else .bad
  | .tup ds => .ok (.tup (cutD ds lo hi)) h
  | .ref n => match h[n]? with
    | some (.lst ds) => .ok (.ref h.length) (h ++ [.lst (cutD ds lo hi)])
    | some (.fls ds) => .ok (.ref h.length) (h ++ [.lst (cutD ds lo hi)])
    | _ => .bad
  | _ => .bad
def mSl (m : Sg → Mh → R D) (lo hi : Sg → Mh → R (Option Int)) : Sg → Mh → R D := fun sg h => (m sg h).bind fun x h1 => (lo sg h1).bind fun l h2 => (hi sg h2).bind fun u h3 => dSl x l u h3
theorem q_slice {lo hi : Option Expr} {ml mh : Sg → Mh → R (Option Int)} {p2 : Pos} (ha : PM X W a ma) (hl : PPt X W lo ml) (hh : PPt X W hi mh) : PM X W (.Subscript a (.Slice lo hi none p2) pos) (mSl ma ml mh) :=
  ⟨PEimp (pe_slice (SlR.or sl_list (SlR.or sl_str sl_tupA)) ha.pe hl.po hh.po) fun σ H Q ⟨ρ, sg, h, hs, rh, w⟩ => by
    refine TM.go hs rh w fun ρ1 H1 h1 v d le rh1 rv w1 => ⟨ρ1, sg, h1, hs.mono le, rh1, w1.cut fun ρ2 H2 h2 l l' le2 rh2 e w2 => ?_⟩
    subst e
    refine ⟨ρ2, sg, h2, (hs.mono le).mono le2, rh2, w2.cut fun ρ3 H3 h3 u u' le3 rh3 e w3 => ?_⟩
    subst e
    have rv3 := rv.mono (le2.trans le3)
    unfold dSl at w3
    split at w3
    · split at w3
      · rename_i hz
        cases rv3
        exact .inr (.inl ⟨_, rfl, hz, w3.okI Le.refl rh3 (.str _)⟩)
      · exact w3.elim
    · cases rv3 with
      | tup t q =>
        refine .inr (.inr ⟨_, _, rfl, SqT.of t, fun hw => ?_, fun hz p hp => w3.tuple rh3 hp (q.cut _ _)⟩)
        rw [q.length] at hw
        refine w3.okI Le.refl rh3 ?_
        unfold cutD
        rw [hw.1, hw.2, List.drop_zero, Nat.sub_zero, List.take_length]
        exact .tup t q
    · split at w3
      · rename_i e0
        cases rv3 with
        | ref r1 =>
          cases rh3.at r1 e0 with
          | lst h1 q => exact .inl ⟨_, _, rfl, SqL.of h1, fun p hp => w3.alloc rh3 hp (RO.newList hp (q.cut _ _))⟩
      · rename_i e0
        cases rv3 with
        | ref r1 =>
          cases rh3.at r1 e0 with
          | fls h1 q => exact .inl ⟨_, _, rfl, h1.sq, fun p hp => w3.alloc rh3 hp (RO.newList hp (q.cut _ _))⟩
      · exact w3.elim
    · exact w3.elim⟩
/-! ### dicts with int and text keys, or keys that are tuples of these -/
def valD {κ : Type} [DecidableEq κ] (kvs : List (κ × D)) (k : κ) : Option D := (kvs.find? fun kv => decide (kv.1 = k)).map (·.2)
def keyTs : List D → Option (List Key)
  | [] => some []
  | d :: ds => match keyD d, keyTs ds with
    | some k, some ks => some (k :: ks)
    | _, _ => none
def keyT : D → Option (List Key)
  | .tup ds => keyTs ds
  | _ => none
def lookD : MO → D → Option (Option D)
  | .dk kvs, k => (keyD k).map (valD kvs)
  | .zk kvs, k => (keyD k).map (valD kvs)
  | .dt kvs, k => (keyT k).map (valD kvs)
  | .zt kvs, k => (keyT k).map (valD kvs)
  | _, _ => none
def dGet : D → D → Mh → R D
  | .ref n, k, h => match h[n]? with
    | some o => match lookD o k with
      | some (some d) => .ok d h
      | _ => .bad
    | none => .bad
  | _, _, _ => .bad
theorem key_of {K mg ρ H} {v : V} {d : D} {k : Key} (r : RV K mg ρ H v d) (e : keyD d = some k) : v = kV k := by
  cases r <;> first
    | (cases e; done)
    | (cases e; rfl)
theorem valD_pos {κ : Type} [DecidableEq κ] {p : κ × D} {r : List (κ × D)} {k : κ} (e : p.1 = k) : valD (p :: r) k = some p.2 := by simp [valD, List.find?_cons, e]
theorem valD_neg {κ : Type} [DecidableEq κ] {p : κ × D} {r : List (κ × D)} {k : κ} (e : ¬ p.1 = k) : valD (p :: r) k = valD r k := by simp [valD, List.find?_cons, e]
inductive RK (K : PySem.W.Frag) (mg : Str → Option Value) (ρ : Ren) (H : Hp) : Option V → Option D → Prop
  | none : RK K mg ρ H none none
  | some {v : V} {d : D} : RV K mg ρ H v d → RK K mg ρ H (some v) (some d)
theorem valD_of {κ : Type} [DecidableEq κ] {K mg ρ H} {k : κ} : ∀ {kvs : List (κ × V)} {kds : List (κ × D)}, kvs.map (·.1) = kds.map (·.1) → RVs K mg ρ H (kvs.map (·.2)) (kds.map (·.2)) → RK K mg ρ H (valV kvs k) (valD kds k)
  | [], [], _, _ => .none
  | [], _ :: _, e, _ => by cases e
  | _ :: _, [], e, _ => by cases e
  | p :: kvs, q :: kds, e, r => by
    have e1 : p.1 = q.1 := (List.cons.inj e).1
    have e2 := (List.cons.inj e).2
    cases r with
    | cons r t =>
      have ih := valD_of (k := k) e2 t
      by_cases c : q.1 = k
      · rw [valD_pos c, valV_pos (e1.trans c)]
        exact .some r
      · rw [valD_neg c, valV_neg (fun z => c (e1.symm.trans z))]
        exact ih
theorem keyTs_of {K mg ρ H} : ∀ {vs : List V} {ds : List D} {ks : List Key}, RVs K mg ρ H vs ds → keyTs ds = some ks → vs = ks.map kV
  | _, _, _, .nil, e => by cases e; rfl
  | _, _, _, .cons r t, e => by
    unfold keyTs at e
    split at e
    · rename_i e1 e2
      cases e
      rw [key_of r e1, keyTs_of t e2]; rfl
    · cases e
theorem keyT_of {K mg ρ H} {v : V} {d : D} {ks : List Key} (r : RV K mg ρ H v d) (e : keyT d = some ks) : ∃ b, v = .ref b ∧ H b = some (.tup (ks.map kV)) := by
  unfold keyT at e
  split at e
  · cases r with
    | tup t q => exact ⟨_, rfl, by rw [← keyTs_of q e]; exact t⟩
  · cases e
theorem rk_isSome {K mg ρ H} : ∀ {ov : Option V} {od : Option D}, RK K mg ρ H ov od → ov.isSome = od.isSome
  | _, _, .none => rfl
  | _, _, .some _ => rfl
theorem rk_some {K mg ρ H} {ov : Option V} {d : D} (z : RK K mg ρ H ov (some d)) : ∃ v, ov = some v ∧ RV K mg ρ H v d := by
  cases z with
  | some r => exact ⟨_, rfl, r⟩
theorem look_of {K mg ρ H} {a : Addr} {o : MO} {v : V} {k : D} {r : Option D} (ro : RO K mg ρ H a o) (rk : RV K mg ρ H v k) (e : lookD o k = some r) : ∃ r', DGet H a v r' ∧ RK K mg ρ H r' r := by
  unfold lookD at e
  split at e
  · obtain ⟨key, e1, rfl⟩ := Option.map_eq_some_iff.mp e
    cases ro with
    | @dk kvs _ hl ke q => exact ⟨_, .inl ⟨kvs, key, .inl hl, key_of rk e1, rfl⟩, valD_of ke q⟩
  · obtain ⟨key, e1, rfl⟩ := Option.map_eq_some_iff.mp e
    cases ro with
    | @zk o kvs _ hl ke q => exact ⟨_, .inl ⟨kvs, key, .inr ⟨o, hl⟩, key_of rk e1, rfl⟩, valD_of ke q⟩
  · obtain ⟨key, e1, rfl⟩ := Option.map_eq_some_iff.mp e
    obtain ⟨b, e2, e3⟩ := keyT_of rk e1
    cases ro with
    | @dt kvs _ hl ke q => exact ⟨_, .inr ⟨kvs, key, b, .inl hl, e2, e3, rfl⟩, valD_of ke q⟩
  · obtain ⟨key, e1, rfl⟩ := Option.map_eq_some_iff.mp e
    obtain ⟨b, e2, e3⟩ := keyT_of rk e1
    cases ro with
    | @zt o kvs _ hl ke q => exact ⟨_, .inr ⟨kvs, key, b, .inr ⟨o, hl⟩, e2, e3, rfl⟩, valD_of ke q⟩
  · cases e
end
end
end Mo

namespace Mo
open PySem PySem.Spec PyProof.Rows L2
/-! ### defs -/
def startD (n : Nat) (ds : List D) : Sg := ds.map some ++ List.replicate (n - ds.length) none
abbrev FM := List D → Mh → R D
def RS.end : RS → R D
  | .nx _ h => .ok .non h
  | .rt d h => .ok d h
  | .exc c fs _ h => .exc c fs h
  | _ => .bad
def runF (n : Nat) (ms : Sg → Mh → RS) : FM := fun ds h => (ms (startD n ds) h).end
def spM (K : PySem.W.Frag) (mg : Str → Option Value) (np : Nat) (fm : FM) : Sp := fun vs H Q E => vs.length = np ∧ ∃ ρ ds h, RVs K mg ρ H vs ds ∧ RHp K mg ρ H h ∧ WG K mg (RV K mg) (fun c dx _ H' => E c dx H') [] Q ρ H (fm ds h)
section
variable {P : Program} {w : World} {K : PySem.W.Frag} {mg : Str → Option Value} {base : Heap}
theorem start_ok {ρ : Ren} {H : Hp} {vs : List V} {ds : List D} {N : List Str} (r : RVs K mg ρ H vs ds) : RSt K mg ρ H (L2.start N vs) (startD N.length ds) := by
  unfold L2.start startD
  have l := r.length
  refine ⟨by simp [l], fun i d e => ?_⟩
  by_cases hi : i < ds.length
  · rw [List.getElem?_append_left (by simpa using hi), List.getElem?_map] at e
    cases q : ds[i]? with
    | none => rw [q] at e; cases e
    | some d' =>
      rw [q] at e; cases e
      obtain ⟨v, e1, rv⟩ := r.get q
      exact ⟨v, by rw [List.getElem?_append_left (by simpa [l] using hi), List.getElem?_map, e1]; rfl, rv⟩
  · rw [List.getElem?_append_right (by simpa using hi), List.getElem?_replicate] at e
    split at e <;> cases e
theorem end_ok {ρ : Ren} {H : Hp} {Q : VK} {E : XK} {r : RS} (q : WG K mg (RV K mg) (fun c dx _ H' => E c dx H') [] Q ρ H r.end) : WS K mg (fun c dx _ H' => E c dx H') { nx := fun _ H' => Q .non H', rt := Q } ρ H r := by
  cases r with
  | nx sg h => exact fun ρ' H' σ' le rh _ => q ρ' H' .non le rh .non
  | rt d h => exact q
  | bk sg h => exact q.elim
  | ct sg h => exact q.elim
  | exc c fs sg h => exact fun ρ' H' σ' C dx le rh _ g x => q ρ' H' C dx le rh g x
  | bad => exact q.elim
theorem fn_m {x qual : Str} {st : Stmt} {f : Addr} {fd : FuncData} {N ps : List Str} {k : Nat} {ms : Sg → Mh → RS} (F : Fun K x qual st f fd) (S : FnScope N ps (defScope st))
    (hb : ∀ (cdv : Value) (A : Around) (outer : List Env) (s : Shared) (H : Hp) (E : XK), Room k (A.deeper (envOfC qual (defScope st) s.heap.objs.size f cdv)) →
      PSL (cxOf (L2.CX P w) P w K mg base N qual (defScope st) f cdv A outer s H E) (fun c dx _ H' => E c dx H') (defBody st) ms) :
    FnOk P w K mg base (L2.CX P w) (k + 1) f fd ps (spM K mg ps.length (runF N.length ms)) := by
  refine F.okX S (fun vs H Q E h => h.1) fun cdv A outer s H vs Q E hr h => ⟨_, (hb cdv A outer s H E hr).ps, ?_⟩
  obtain ⟨hl, ρ, ds, h, r, rh, q⟩ := h
  exact ⟨ρ, _, h, start_ok r, rh, end_ok q⟩
theorem no_fuel {f : Addr} {fd : FuncData} {ps : List Str} {k : Nat} : FnOk P w K mg base (L2.CX P w) k f fd ps (spM K mg ps.length fun _ _ => .bad) :=
  ⟨fun vs H Q E h => h.1, fun A outer s H args us vs Q E _ _ _ _ h => by obtain ⟨_, _, _, _, _, _, q⟩ := h; exact q.elim⟩
end
section
variable {X : Cx} {W : WX}
/-! ### calls of own defs -/
def mCall (np : Nat) (fm : FM) (ml : Sg → Mh → R (List D)) (dds : List D) : Sg → Mh → R D := fun sg h => (ml sg h).bind fun ds h1 => if (ds ++ dds).length = np then fm (ds ++ dds) h1 else .bad
theorem WG.wx {K mg} {W W' : WX} {σ σ' : L2.St} {α β : Type} {rel : Ren → Hp → β → α → Prop} {Q : β → Hp → Prop} {ρ : Ren} {H : Hp} {r : R α} (hw : ∀ c dx H', W c dx σ H' → W' c dx σ' H') (w : WG K mg rel W σ Q ρ H r) : WG K mg rel W' σ' Q ρ H r := by
  cases r with
  | ok a h => exact w
  | exc c fs h => exact fun ρ' H' C dx le rh g x => hw _ _ _ (w ρ' H' C dx le rh g x)
  | bad => exact w
variable {k np : Nat} {f : Addr} {fd : FuncData} {ps : List Str} {fm : FM} {x : Str} {p pos : Pos} {e : Expr} {es : List Expr} {ml : Sg → Mh → R (List D)} {dvs : List V} {dds : List D} {dus : List Value}
theorem q_callD (F : FnOk X.prog X.w X.K X.mg X.base (L2.CX X.prog X.w) k f fd ps (spM X.K X.mg np fm)) (hr : Room k X.A) (tk : Takes X W) (hm : X.mg x = some (.ref f)) (hk : PySem.W.keepIn X.K (.ref f) = true) (hb : L2.Binds X.K fd ps dus) (hd : Vals dvs dus)
    (hdd : ∀ ρ H, RVs X.K X.mg ρ H dvs dds) (ha : PL X W (e :: es) ml) (hg : Gl X x := by rfl) (hdb : (x == ("__debug__" : Str)) = false := by decide) (he : starEach (e :: es) X.env = (false, eval e X.env) :: starEach es X.env := by rfl)
    (hpl : (backTo pos (starEach es X.env)).any (·.1) = false := by rfl) : PM X W (.Call (.Name x p) (e :: es) [] pos) (mCall np fm ml dds) :=
  ⟨PEimp (pe_callSD F hr hg hm hk hb hd (fun σ => passAt tk σ) ha.pa hdb he hpl) fun σ H Q ⟨ρ, sg, h, hs, rh, w⟩ => TMl.go hs rh w fun ρ1 H1 h1 vs ds le rh1 rvs w1 => by
    split at w1
    · rename_i hl
      have r2 := rvs.append (hdd ρ1 H1)
      exact ⟨by rw [r2.length]; exact hl, ρ1, _, h1, r2, rh1, w1.wx fun _ _ _ z => z⟩
    · exact w1.elim⟩
theorem q_call (F : FnOk X.prog X.w X.K X.mg X.base (L2.CX X.prog X.w) k f fd ps (spM X.K X.mg np fm)) (hr : Room k X.A) (tk : Takes X W) (hm : X.mg x = some (.ref f)) (hk : PySem.W.keepIn X.K (.ref f) = true) (hb : L2.Binds X.K fd ps [])
    (ha : PL X W (e :: es) ml) (hg : Gl X x := by rfl) (hdb : (x == ("__debug__" : Str)) = false := by decide) (he : starEach (e :: es) X.env = (false, eval e X.env) :: starEach es X.env := by rfl)
    (hpl : (backTo pos (starEach es X.env)).any (·.1) = false := by rfl) : PM X W (.Call (.Name x p) (e :: es) [] pos) (mCall np fm ml []) := q_callD F hr tk hm hk hb .nil (fun _ _ => .nil) ha hg hdb he hpl
theorem pe_call0S {E : L2.St → XK} {sp : Sp} {CX : CXT} (F : FnOk X.prog X.w X.K X.mg X.base CX k f fd ps sp) (hr : Room k X.A) (hg : Gl X x) (hm : X.mg x = some (.ref f)) (hk : PySem.W.keepIn X.K (.ref f) = true) (hb : L2.Binds X.K fd ps dus) (hd : Vals dvs dus)
    (hx : ∀ σ, PassesAt CX X σ (E σ)) (hdb : (x == ("__debug__" : Str)) = false := by decide) : PE X (.Call (.Name x p) [] [] pos) (tCallSD sp dvs E tNil) := by
  refine ⟨fun pins s σ H Q I h => ?_⟩
  refine wpAny_Call_Name_kw (ld_glob I hg hm ?_ hdb)
  exact PySem.W.callWith_K0 I.kIn hk (run_fnSD (us := []) F hr hb hd (hx σ) I .nil h)
theorem q_call0 (F : FnOk X.prog X.w X.K X.mg X.base (L2.CX X.prog X.w) k f fd ps (spM X.K X.mg np fm)) (hr : Room k X.A) (tk : Takes X W) (hm : X.mg x = some (.ref f)) (hk : PySem.W.keepIn X.K (.ref f) = true) (hb : L2.Binds X.K fd ps [])
    (hg : Gl X x := by rfl) (hdb : (x == ("__debug__" : Str)) = false := by decide) : PM X W (.Call (.Name x p) [] [] pos) (mCall np fm mNil []) :=
  ⟨PEimp (pe_call0S F hr hg hm hk hb .nil (fun σ => passAt tk σ) hdb) fun σ H Q ⟨ρ, sg, h, hs, rh, w⟩ => by
    unfold mCall mNil at w
    rw [R.bind_ok] at w
    split at w
    · rename_i hl
      exact ⟨by simpa using hl, ρ, [], h, .nil, rh, w.wx fun _ _ _ z => z⟩
    · exact w.elim⟩
/-! ### built-ins called -/
def mBi (f : List D → Mh → R D) (ml : Sg → Mh → R (List D)) : Sg → Mh → R D := fun sg h => (ml sg h).bind f
theorem q_bi {id : String} {r : List V → Hp → VK → Prop} {f : List D → Mh → R D} (hc : CallR X (.builtin id) r) (s : SemL X r f) (hm : X.mg x = none) (ha : PL X W (e :: es) ml) (hv : bootBuiltins x = some (.builtin id) := by decide +kernel) (hg : Gl X x := by rfl)
    (hn : x ≠ "__name__" := by decide) (hdb : (x == ("__debug__" : Str)) = false := by decide) (he : starEach (e :: es) X.env = (false, eval e X.env) :: starEach es X.env := by rfl) (hpl : (backTo pos (starEach es X.env)).any (·.1) = false := by rfl) :
    PM X W (.Call (.Name x p) (e :: es) [] pos) (mBi f ml) :=
  ⟨PEimp (pe_callB hc hg hm hv ha.pa hn hdb he hpl) fun σ H Q ⟨ρ, sg, h, hs, rh, w⟩ => TMl.go hs rh w fun ρ1 H1 h1 vs ds le rh1 rvs w1 => s W σ ρ1 H1 h1 Q vs ds rh1 rvs w1⟩
theorem q_ty {T : String} {r : List V → Hp → VK → Prop} {f : List D → Mh → R D} (hc : CallR X (.type T) r) (s : SemL X r f) (hm : X.mg x = none) (ha : PL X W (e :: es) ml) (hv : bootBuiltins x = some (.type T) := by decide +kernel) (hg : Gl X x := by rfl)
    (hn : x ≠ "__name__" := by decide) (hdb : (x == ("__debug__" : Str)) = false := by decide) (he : starEach (e :: es) X.env = (false, eval e X.env) :: starEach es X.env := by rfl) (hpl : (backTo pos (starEach es X.env)).any (·.1) = false := by rfl) :
    PM X W (.Call (.Name x p) (e :: es) [] pos) (mBi f ml) :=
  ⟨PEimp (pe_callTy hc hg hm hv ha.pa hn hdb he hpl) fun σ H Q ⟨ρ, sg, h, hs, rh, w⟩ => TMl.go hs rh w fun ρ1 H1 h1 vs ds le rh1 rvs w1 => s W σ ρ1 H1 h1 Q vs ds rh1 rvs w1⟩
end
/-! ### statements -/
section
variable {X : Cx} {W : WX} {a b c : Expr} {ma mb mc : Sg → Mh → R D} {nc : Sg → Mh → R Bool} {pos : Pos} {st : Stmt} {sts rest : List Stmt} {m n : Sg → Mh → RS}
def sNext : Sg → Mh → RS := fun sg h => .nx sg h
def sSeq (m n : Sg → Mh → RS) : Sg → Mh → RS := fun sg h => (m sg h).th n
theorem b_nil : PSL X W [] sNext := ⟨PSsimp pss_nil fun E σ H ⟨ρ, sg, h, hs, rh, w⟩ => w ρ H σ Le.refl rh hs⟩
theorem b_one (h1 : PSM X W st m) : PSL X W [st] m := ⟨pss_one h1.ps⟩
theorem b_cons (h1 : PSM X W st m) (h2 : PSL X W rest n) : PSL X W (st :: rest) (sSeq m n) := ⟨PSsimp (pss_cons h1.ps h2.ps) fun E σ H ⟨ρ, sg, h, hs, rh, w⟩ => by
  refine ⟨ρ, sg, h, hs, rh, ?_⟩
  unfold sSeq at w
  cases e : m sg h with
  | nx sg' h' =>
    rw [e] at w
    exact fun ρ' H' σ' le rh' hs' => ⟨ρ', sg', h', hs', rh', WS.mono le w⟩
  | rt d h' => rw [e] at w; exact w
  | bk sg' h' => rw [e] at w; exact w
  | ct sg' h' => rw [e] at w; exact w
  | exc c fs sg' h' => rw [e] at w; exact w
  | bad => rw [e] at w; exact w⟩
theorem WS.nxI {K mg W E ρ H} {sg : Sg} {h : Mh} {ρ1 : Ren} {H1 : Hp} {σ : L2.St} (w : WS K mg W E ρ H (.nx sg h)) (le : Le K ρ H ρ1 H1) (rh : RHp K mg ρ1 H1 h) (hs : RSt K mg ρ1 H1 σ sg) : E.nx σ H1 := w ρ1 H1 σ le rh hs
def sBad : Sg → Mh → RS := fun _ _ => .bad
theorem s_never : PSM X W st sBad := ⟨PSimp ps_never fun E σ H ⟨ρ, sg, h, hs, rh, w⟩ => w⟩
theorem b_never : PSL X W sts sBad := ⟨PSsimp pss_never fun E σ H ⟨ρ, sg, h, hs, rh, w⟩ => w⟩
theorem s_pass : PSM X W (.Pass pos) sNext := ⟨PSimp ps_pass fun E σ H ⟨ρ, sg, h, hs, rh, w⟩ => w.nxI Le.refl rh hs⟩
def sBrk : Sg → Mh → RS := fun sg h => .bk sg h
def sCnt : Sg → Mh → RS := fun sg h => .ct sg h
theorem s_break : PSM X W (.Break pos) sBrk := ⟨PSimp ps_break fun E σ H ⟨ρ, sg, h, hs, rh, w⟩ => w ρ H σ Le.refl rh hs⟩
theorem s_continue : PSM X W (.Continue pos) sCnt := ⟨PSimp ps_continue fun E σ H ⟨ρ, sg, h, hs, rh, w⟩ => w ρ H σ Le.refl rh hs⟩
def sExpr (m : Sg → Mh → R D) : Sg → Mh → RS := fun sg h => (m sg h).th sg fun _ h1 => .nx sg h1
theorem s_expr (ha : PM X W a ma) (hs : swapsWith a none pos.line X.env = pure false := by rfl) : PSM X W (.Expr a pos) (sExpr ma) := ⟨PSimp (ps_expr ha.pe hs) fun E σ H ⟨ρ, sg, h, hs, rh, w⟩ => TM.goS hs rh w fun ρ1 H1 h1 v d le rh1 rv w1 => w1.nxI Le.refl rh1 (hs.mono le)⟩
theorem s_doc {x j pos'} : PSM X W (.Expr (.Constant (.str x) j pos) pos') sNext := ⟨PSimp ps_doc fun E σ H ⟨ρ, sg, h, hs, rh, w⟩ => w.nxI Le.refl rh hs⟩
def sRet (m : Sg → Mh → R D) : Sg → Mh → RS := fun sg h => (m sg h).th sg fun d h1 => .rt d h1
theorem s_ret (ha : PM X W a ma) : PSM X W (.Return (some a) pos) (sRet ma) := ⟨PSimp (ps_ret ha.pe) fun E σ H ⟨ρ, sg, h, hs, rh, w⟩ => TM.goS hs rh w fun ρ1 H1 h1 v d le rh1 rv w1 => w1 ρ1 H1 v Le.refl rh1 rv⟩
theorem s_retN : PSM X W (.Return none pos) (sRet (mLit .non)) := ⟨PSimp ps_retN fun E σ H ⟨ρ, sg, h, hs, rh, w⟩ => w ρ H .non Le.refl rh .non⟩
def sIf (c : Sg → Mh → R Bool) (m n : Sg → Mh → RS) : Sg → Mh → RS := fun sg h => (c sg h).th sg fun b h1 => if b = true then m sg h1 else n sg h1
theorem s_if {p q : List Stmt} (hc : PB X W c nc) (hp : PSL X W p m) (hq : PSL X W q n) : PSM X W (.If c p q pos) (sIf nc m n) := ⟨PSimp (ps_if hc.pt hp.ps hq.ps) fun E σ H ⟨ρ, sg, h, hs, rh, w⟩ => TMb.goS hs rh w fun ρ1 H1 h1 b le rh1 w1 => by
  split
  · rename_i hb; rw [if_pos hb] at w1; exact ⟨ρ1, sg, h1, hs.mono le, rh1, w1⟩
  · rename_i hb; rw [if_neg hb] at w1; exact ⟨ρ1, sg, h1, hs.mono le, rh1, w1⟩⟩
theorem RSt.set {K mg ρ H} {σ : L2.St} {sg : Sg} (r : RSt K mg ρ H σ sg) (i : Nat) {v : V} {d : D} (rv : RV K mg ρ H v d) : RSt K mg ρ H (σ.set i (some v)) (sg.set i (some d)) := by
  refine ⟨by simp [r.len], fun j d' e => ?_⟩
  by_cases hj : i = j
  · subst hj
    by_cases hi : i < sg.length
    · rw [List.getElem?_set_self hi] at e
      cases e
      exact ⟨v, by rw [List.getElem?_set_self (by rw [r.len]; exact hi)], rv⟩
    · rw [List.getElem?_eq_none (by simpa using hi)] at e; cases e
  · rw [List.getElem?_set_ne hj] at e ⊢
    exact r.val j d' e
def sSet (i : Nat) (m : Sg → Mh → R D) : Sg → Mh → RS := fun sg h => (m sg h).th sg fun d h1 => .nx (sg.set i (some d)) h1
theorem s_set (i : Nat) {x : Str} {pos' : Pos} (hN : X.N.Nodup) (ha : PM X W a ma) (hi : X.N[i]? = some x := by rfl) (hx : Loc X.env.scope x := by first | exact Or.inl rfl | exact Or.inr rfl) (hs : swapsWith a (some (.Name x pos')) pos.line X.env = pure false := by rfl)
    (hf : X.fn x = true ∨ X.env.scope.names.lookup x = some .local := by first | exact .inl rfl | exact .inr rfl) : PSM X W (.Assign [.Name x pos'] a pos) (sSet i ma) :=
  ⟨PSimp (ps_set hN hi hx ha.pe hs hf) fun E σ H ⟨ρ, sg, h, hs, rh, w⟩ => TM.goS hs rh w fun ρ1 H1 h1 v d le rh1 rv w1 => w1.nxI Le.refl rh1 ((hs.mono le).set i rv)⟩
/-- a, b = x, y -/
def sPar (i j : Nat) (ml : Sg → Mh → R (List D)) : Sg → Mh → RS := fun sg h => (ml sg h).th sg fun ds h1 => match ds with
  | [p, q] => .nx ((sg.set i (some p)).set j (some q)) h1
  | _ => .bad
theorem TMl.goS {K mg ρ H σ sg h} {E : Ends} {Q1 : List V → Hp → Prop} {m : Sg → Mh → R (List D)} {f : List D → Mh → RS} (hs : RSt K mg ρ H σ sg) (rh : RHp K mg ρ H h) (w : WS K mg W E ρ H ((m sg h).th sg f))
    (k : ∀ ρ1 H1 h1 v a, Le K ρ H ρ1 H1 → RHp K mg ρ1 H1 h1 → RVs K mg ρ1 H1 v a → WS K mg W E ρ1 H1 (f a h1) → Q1 v H1) : TMl K mg W m σ H Q1 := ⟨ρ, sg, h, hs, rh, WS.cutS hs w k⟩
theorem s_par (i j : Nat) {x y : Str} {px py pt pt2 : Pos} {kt k2} {ml : Sg → Mh → R (List D)} (hN : X.N.Nodup) (ha : PL X W [a, b] ml) (hc : X.calm = true := by rfl) (hi : X.N[i]? = some x := by rfl) (hj : X.N[j]? = some y := by rfl) (hij : i ≠ j := by decide)
    (hx : X.env.scope.names.lookup x = some .local := by rfl) (hy : X.env.scope.names.lookup y = some .local := by rfl)
    (hw : swappedStores [.Tuple [.Name x px, .Name y py] kt pt] (.Tuple [a, b] k2 pt2) X.env = pure (some [x, y]) := by rfl)
    (hs : swapsWithSole [.Tuple [.Name x px, .Name y py] kt pt] (.Tuple [a, b] k2 pt2) pos.line X.env = pure false := by rfl) : PSM X W (.Assign [.Tuple [.Name x px, .Name y py] kt pt] (.Tuple [a, b] k2 pt2) pos) (sPar i j ml) :=
  ⟨PSimp (ps_par hc hN hi hj hij hx hy ha.pa hw hs) fun E σ H ⟨ρ, sg, h, hs, rh, w⟩ => TMl.goS hs rh w fun ρ1 H1 h1 vs ds le rh1 rvs w1 => by
    split at w1
    · cases rvs with
      | cons r1 t => cases t with
        | cons r2 t =>
          cases t
          exact ⟨_, _, rfl, w1.nxI Le.refl rh1 (((hs.mono le).set i r1).set j r2)⟩
    · exact w1.elim⟩
/-! ### targets -/
def TMg (K : PySem.W.Frag) (mg : Str → Option Value) (ts : List Nat) (g : D → Sg → Option Sg) : TG := fun v σ H Q => ∃ ρ sg d sg', RSt K mg ρ H σ sg ∧ RV K mg ρ H v d ∧ g d sg = some sg' ∧
  ∀ σ', RSt K mg ρ H σ' sg' → σ'.length = σ.length → (∀ j, j ∉ ts → σ'[j]? = σ[j]?) → Q σ' H
structure PGM (X : Cx) (tg : Expr) (ts : List Nat) (g : D → Sg → Option Sg) : Prop where
  pg : PG X tg (TMg X.K X.mg ts g)
theorem PGimp {X : Cx} {e : Expr} {t t' : TG} (h : PG X e t) (i : ∀ v σ H Q, t' v σ H Q → t v σ H Q) : PG X e t' := ⟨fun pins s σ H v u Q I r hw => h.run pins s σ H v u Q I r (i _ _ _ _ hw)⟩
theorem PGsimp {X : Cx} {e : List Expr} {t t' : TGs} (h : PGs X e t) (i : ∀ v σ H Q, t' v σ H Q → t v σ H Q) : PGs X e t' := ⟨fun pins s σ H v u Q I r hw => h.run pins s σ H v u Q I r (i _ _ _ _ hw)⟩
def gNm (i : Nat) : D → Sg → Option Sg := fun d sg => some (sg.set i (some d))
theorem g_name (i : Nat) {x : Str} (hN : X.N.Nodup) (hi : X.N[i]? = some x := by rfl) (hx : Loc X.env.scope x := by first | exact Or.inl rfl | exact Or.inr rfl) (hf : X.fn x = true ∨ X.env.scope.names.lookup x = some .local := by first | exact .inl rfl | exact .inr rfl) :
    PGM X (.Name x pos) [i] (gNm i) := ⟨PGimp (pg_name hN hi hx hf) fun v σ H Q ⟨ρ, sg, d, sg', hs, rv, e, q⟩ => by
  cases e
  exact q _ (hs.set i rv) (by simp) fun j hj => List.getElem?_set_ne (fun z => hj (by simp [z]))⟩
def TMgs (K : PySem.W.Frag) (mg : Str → Option Value) (ts : List Nat) (g : List D → Sg → Option Sg) : TGs := fun vs σ H Q => ∃ ρ sg ds sg', RSt K mg ρ H σ sg ∧ RVs K mg ρ H vs ds ∧ g ds sg = some sg' ∧
  ∀ σ', RSt K mg ρ H σ' sg' → σ'.length = σ.length → (∀ j, j ∉ ts → σ'[j]? = σ[j]?) → Q σ' H
structure PGL (X : Cx) (tg : List Expr) (ts : List Nat) (g : List D → Sg → Option Sg) : Prop where
  pg : PGs X tg (TMgs X.K X.mg ts g)
def gsNil : List D → Sg → Option Sg := fun ds sg => match ds with
  | [] => some sg
  | _ => none
def gsCons (g : D → Sg → Option Sg) (r : List D → Sg → Option Sg) : List D → Sg → Option Sg := fun ds sg => match ds with
  | d :: t => (g d sg).bind (r t)
  | _ => none
theorem gs_nil : PGL X [] [] gsNil := ⟨PGsimp pgs_nil fun vs σ H Q ⟨ρ, sg, ds, sg', hs, rv, e, q⟩ => by
  unfold gsNil at e
  split at e
  · cases e; cases rv; exact ⟨rfl, q _ hs rfl fun _ _ => rfl⟩
  · cases e⟩
theorem gs_cons {es : List Expr} {ts us : List Nat} {g : D → Sg → Option Sg} {r : List D → Sg → Option Sg} (h1 : PGM X a ts g) (h2 : PGL X es us r) (hs : (assignEach (a :: es) X.env).map (·.2) = assign a X.env :: (assignEach es X.env).map (·.2) := by rfl) : PGL X (a :: es) (ts ++ us) (gsCons g r) :=
  ⟨PGsimp (pgs_cons h1.pg h2.pg hs) fun vs σ H Q ⟨ρ, sg, ds, sg', hs, rv, e, q⟩ => by
    unfold gsCons at e
    split at e
    · rename_i d t
      cases rv with
      | cons r1 rt =>
        obtain ⟨sg1, e1, e2⟩ := Option.bind_eq_some_iff.mp e
        refine ⟨_, _, rfl, ρ, sg, d, sg1, hs, r1, e1, fun σ1 hs1 l1 k1 => ⟨ρ, sg1, t, sg', hs1, rt, e2, fun σ2 hs2 l2 k2 => q σ2 hs2 (l2.trans l1) fun j hj => ?_⟩⟩
        rw [List.mem_append, not_or] at hj
        exact (k2 j hj.2).trans (k1 j hj.1)
    · cases e⟩
def gTp (n : Nat) (r : List D → Sg → Option Sg) : D → Sg → Option Sg := fun d sg => match d with
  | .tup ds => if ds.length = n then r ds sg else none
  | _ => none
theorem g_tup {es : List Expr} {k n : Nat} {ts : List Nat} {r : List D → Sg → Option Sg} (h : PGL X es ts r) (hc : X.calm = true := by rfl) (hn : (assignEach es X.env).length = n := by rfl) (hst : (assignEach es X.env).findIdx? (·.1) = none := by rfl) : PGM X (.Tuple es k pos) ts (gTp n r) :=
  ⟨PGimp (pg_tup hc h.pg hn hst) fun v σ H Q ⟨ρ, sg, d, sg', hs, rv, e, q⟩ => by
    unfold gTp at e
    split at e
    · split at e
      · rename_i hl
        cases rv with
        | tup t rs => exact ⟨_, _, rfl, SqT.of t, by rw [rs.length]; exact hl, ρ, sg, _, sg', hs, rs, e, q⟩
      · cases e
    · cases e⟩
/-- target = value -/
def sAsg (g : D → Sg → Option Sg) (m : Sg → Mh → R D) : Sg → Mh → RS := fun sg h => (m sg h).th sg fun d h1 => match g d sg with
  | some sg' => .nx sg' h1
  | none => .bad
theorem s_asg {tg : Expr} {ts : List Nat} {g : D → Sg → Option Sg} (hg : PGM X tg ts g) (ha : PM X W a ma) (hs : swapsWithSole [tg] a pos.line X.env = pure false := by rfl) (hw : swappedStores [tg] a X.env = pure none := by rfl)
    (h1 : (assignEach [tg] X.env).map (·.2) = [assign tg X.env] := by rfl) : PSM X W (.Assign [tg] a pos) (sAsg g ma) :=
  ⟨PSimp (ps_asg ha.pe hg.pg hs hw h1) fun E σ H ⟨ρ, sg, h, hs, rh, w⟩ => TM.goS hs rh w fun ρ1 H1 h1 v d le rh1 rv w1 => by
    split at w1
    · rename_i sg' e
      exact ⟨ρ1, sg, d, sg', hs.mono le, rv, e, fun σ' hs' _ _ => w1.nxI Le.refl rh1 hs'⟩
    · exact w1.elim⟩
end
end Mo

namespace Mo
open PySem PySem.Spec PyProof.Rows L2
/-! ### what a loop walks -/
structure Src where
  items : List D
  at' : Nat → D → Mh → Prop
  fin : Nat → Mh → Prop
section
variable (K : PySem.W.Frag) (mg : Str → Option Value)
def SrcOk (ρ0 : Ren) (H0 : Hp) (J : It) (s : Src) : Prop := ∀ ρ H h, Le K ρ0 H0 ρ H → RHp K mg ρ H h →
  (∀ i d, s.items[i]? = some d → s.at' i d h → J.go i H ∧ ∀ x H', J.yld i H x H' → Le K ρ H ρ H' ∧ RHp K mg ρ H' h ∧ RV K mg ρ H' x d) ∧ (s.fin s.items.length h → J.stop s.items.length H)
def TMi (W : WX) (m : Sg → Mh → R Src) : TI := fun σ H Q => ∃ ρ sg h, RSt K mg ρ H σ sg ∧ RHp K mg ρ H h ∧ WG K mg (SrcOk K mg) W σ Q ρ H (m sg h)
end
structure PIM (X : Cx) (W : WX) (tg e : Expr) (m : Sg → Mh → R Src) : Prop where
  pi : PI X tg e (TMi X.K X.mg W m)
open Classical in
noncomputable def forL (s : Src) (g : D → Sg → Option Sg) (body : Sg → Mh → RS) : List D → Nat → Sg → Mh → RS
  | [], i, sg, h => if s.fin i h then .nx sg h else .bad
  | x :: xs, i, sg, h => if s.at' i x h then match g x sg with
    | some sg1 => match body sg1 h with
      | .nx sg' h' => forL s g body xs (i + 1) sg' h'
      | .ct sg' h' => forL s g body xs (i + 1) sg' h'
      | .bk sg' h' => .nx sg' h'
      | r => r
    | none => .bad else .bad
noncomputable def sFor (mi : Sg → Mh → R Src) (g : D → Sg → Option Sg) (body : Sg → Mh → RS) : Sg → Mh → RS := fun sg h => (mi sg h).th sg fun s h1 => forL s g body s.items 0 sg h1
section
variable {X : Cx} {W : WX} {tg iter : Expr} {body : List Stmt} {mi : Sg → Mh → R Src} {ts : List Nat} {g : D → Sg → Option Sg} {mb : Sg → Mh → RS} {pos : Pos}
theorem TMi.goS {K mg ρ H σ sg h} {E : Ends} {Q1 : It → Hp → Prop} {m : Sg → Mh → R Src} {f : Src → Mh → RS} (hs : RSt K mg ρ H σ sg) (rh : RHp K mg ρ H h) (w : WS K mg W E ρ H ((m sg h).th sg f))
    (k : ∀ ρ1 H1 h1 v a, Le K ρ H ρ1 H1 → RHp K mg ρ1 H1 h1 → SrcOk K mg ρ1 H1 v a → WS K mg W E ρ1 H1 (f a h1) → Q1 v H1) : TMi K mg W m σ H Q1 := ⟨ρ, sg, h, hs, rh, WS.cutS hs w k⟩
theorem TMi.go {K mg ρ H σ sg h} {γ δ : Type} {rel2 : Ren → Hp → δ → γ → Prop} {Q : δ → Hp → Prop} {Q1 : It → Hp → Prop} {m : Sg → Mh → R Src} {f : Src → Mh → R γ} (hs : RSt K mg ρ H σ sg) (rh : RHp K mg ρ H h) (w : WG K mg rel2 W σ Q ρ H ((m sg h).bind f))
    (k : ∀ ρ1 H1 h1 v a, Le K ρ H ρ1 H1 → RHp K mg ρ1 H1 h1 → SrcOk K mg ρ1 H1 v a → WG K mg rel2 W σ Q ρ1 H1 (f a h1) → Q1 v H1) : TMi K mg W m σ H Q1 := ⟨ρ, sg, h, hs, rh, w.cut k⟩
theorem s_for (hp : PassesOwn (model X.prog X.w) X.A X.env X.xe) (hi : PIM X W tg iter mi) (hg : PGM X tg ts g) (hb : PSL X W body mb) (hc : X.calm = true := by rfl) (hs : ∀ x, foldedSetIterable iter X.env x = pure x := by intro _; rfl) :
    PSM X W (.For tg iter body [] pos) (sFor mi g mb) := ⟨PSimp (ps_for hp hc hi.pi hg.pg hb.ps hs) fun E σ H ⟨ρ, sg, h, hst, rh, w⟩ => by
  refine TMi.goS hst rh w fun ρ1 H1 h1 J s le rh1 so w1 => ?_
  refine ⟨fun i m σ H => m = s.items.length - i ∧ i ≤ s.items.length ∧ ∃ ρ' sg' h', Le X.K ρ1 H1 ρ' H ∧ RSt X.K X.mg ρ' H σ sg' ∧ RHp X.K X.mg ρ' H h' ∧ WS X.K X.mg W E ρ' H (forL s g mb (s.items.drop i) i sg' h'),
    ⟨_, rfl, Nat.zero_le _, ρ1, sg, h1, Le.refl, hst.mono le, rh1, w1⟩, ?_⟩
  rintro i m σ H ⟨rfl, hi, ρ', sg', h', le', hs', rh', w'⟩
  obtain ⟨so1, so2⟩ := so ρ' H h' le' rh'
  by_cases hlt : i < s.items.length
  · rw [List.drop_eq_getElem_cons hlt] at w'
    unfold forL at w'
    split at w'
    · rename_i hat
      obtain ⟨go, yl⟩ := so1 i _ (List.getElem?_eq_getElem hlt) hat
      split at w'
      · rename_i sg1 eg
        refine .inr ⟨go, fun σ2 H2 => ∃ ρ2 sg2 h2, Le X.K ρ1 H1 ρ2 H2 ∧ RSt X.K X.mg ρ2 H2 σ2 sg2 ∧ RHp X.K X.mg ρ2 H2 h2 ∧ WS X.K X.mg W E ρ2 H2 (forL s g mb (s.items.drop (i + 1)) (i + 1) sg2 h2), fun σ2 H2 ⟨ρ2, sg2, h2, a, b, c, d⟩ => ⟨_, by omega, rfl, hlt, ρ2, sg2, h2, a, b, c, d⟩, fun x H2 hy => ?_⟩
        obtain ⟨le2, rh2, rv2⟩ := yl x H2 hy
        refine ⟨ρ', sg', _, sg1, hs'.mono le2, rv2, eg, fun σ3 hs3 _ _ => ⟨ρ', sg1, h', hs3, rh2, ?_⟩⟩
        have w2 := WS.mono le2 w'
        cases e : mb sg1 h' with
        | nx sg4 h4 => rw [e] at w2; exact fun ρ4 H4 σ4 le4 rh4 hs4 => ⟨ρ4, sg4, h4, le'.trans (le2.trans le4), hs4, rh4, WS.mono le4 w2⟩
        | ct sg4 h4 => rw [e] at w2; exact fun ρ4 H4 σ4 le4 rh4 hs4 => ⟨ρ4, sg4, h4, le'.trans (le2.trans le4), hs4, rh4, WS.mono le4 w2⟩
        | bk sg4 h4 => rw [e] at w2; exact fun ρ4 H4 σ4 le4 rh4 hs4 => w2 ρ4 H4 σ4 le4 rh4 hs4
        | rt d h4 => rw [e] at w2; exact w2
        | exc c fs sg4 h4 => rw [e] at w2; exact w2
        | bad => rw [e] at w2; exact w2
      · exact w'.elim
    · exact w'.elim
  · have e : i = s.items.length := by omega
    subst e
    rw [List.drop_length] at w'
    unfold forL at w'
    split at w'
    · rename_i hf
      exact .inl ⟨so2 hf, w'.nxI Le.refl rh' hs'⟩
    · exact w'.elim⟩
/-! while -/
def whileF : Nat := 1000000
def whileL (c : Sg → Mh → R Bool) (body : Sg → Mh → RS) : Nat → Sg → Mh → RS
  | 0, _, _ => .bad
  | n + 1, sg, h => (c sg h).th sg fun b h1 => if b = true then match body sg h1 with
      | .nx sg' h' => whileL c body n sg' h'
      | .ct sg' h' => whileL c body n sg' h'
      | .bk sg' h' => .nx sg' h'
      | r => r
    else .nx sg h1
def sWhile (c : Sg → Mh → R Bool) (body : Sg → Mh → RS) : Sg → Mh → RS := fun sg h => whileL c body whileF sg h
theorem s_while {c : Expr} {nc : Sg → Mh → R Bool} (hp : PassesOwn (model X.prog X.w) X.A X.env X.xe) (hc : PB X W c nc) (hb : PSL X W body mb) : PSM X W (.While c body [] pos) (sWhile nc mb) := ⟨PSimp (ps_while hp hc.pt hb.ps) fun E σ H ⟨ρ, sg, h, hst, rh, w⟩ => by
  refine ⟨fun m σ H => ∃ ρ' sg' h', RSt X.K X.mg ρ' H σ sg' ∧ RHp X.K X.mg ρ' H h' ∧ WS X.K X.mg W E ρ' H (whileL nc mb m sg' h'), ⟨whileF, ρ, sg, h, hst, rh, w⟩, ?_⟩
  rintro m σ H ⟨ρ', sg', h', hs', rh', w'⟩
  cases m with
  | zero => exact w'.elim
  | succ n =>
    unfold whileL at w'
    refine TMb.goS hs' rh' w' fun ρ1 H1 h1 b le rh1 w1 => ?_
    split
    · rename_i hb
      rw [if_pos hb] at w1
      refine ⟨fun σ2 H2 => ∃ ρ2 sg2 h2, RSt X.K X.mg ρ2 H2 σ2 sg2 ∧ RHp X.K X.mg ρ2 H2 h2 ∧ WS X.K X.mg W E ρ2 H2 (whileL nc mb n sg2 h2), fun σ2 H2 z => ⟨n, Nat.lt_succ_self n, z⟩, ρ1, sg', h1, hs'.mono le, rh1, ?_⟩
      cases e : mb sg' h1 with
      | nx sg4 h4 => rw [e] at w1; exact fun ρ4 H4 σ4 le4 rh4 hs4 => ⟨ρ4, sg4, h4, hs4, rh4, WS.mono le4 w1⟩
      | ct sg4 h4 => rw [e] at w1; exact fun ρ4 H4 σ4 le4 rh4 hs4 => ⟨ρ4, sg4, h4, hs4, rh4, WS.mono le4 w1⟩
      | bk sg4 h4 => rw [e] at w1; exact fun ρ4 H4 σ4 le4 rh4 hs4 => w1 ρ4 H4 σ4 le4 rh4 hs4
      | rt d h4 => rw [e] at w1; exact w1
      | exc c fs sg4 h4 => rw [e] at w1; exact w1
      | bad => rw [e] at w1; exact w1
    · rename_i hb
      rw [if_neg hb] at w1
      exact w1.nxI Le.refl rh1 (hs'.mono le)⟩
/-! ### what can be walked -/
/-- a list by its number -/
def lstAt (h : Mh) (n : Nat) (ds : List D) : Prop := h[n]? = some (.lst ds) ∨ h[n]? = some (.fls ds)
def srcL (n : Nat) (ds : List D) : Src := ⟨ds, fun i x h => ∃ es, lstAt h n es ∧ es[i]? = some x, fun i h => ∃ es, lstAt h n es ∧ es.length ≤ i⟩
def srcT (ds : List D) : Src := ⟨ds, fun _ _ _ => True, fun _ _ => True⟩
theorem lstAt.sq {K mg ρ H h} {n : Nat} {a : Addr} {ds : List D} (rh : RHp K mg ρ H h) (e : ρ[n]? = some a) (l : lstAt h n ds) : ∃ vs, SqL K H a vs ∧ RVs K mg ρ H vs ds := by
  rcases l with l | l
  · cases rh.at e l with
    | lst h1 q => exact ⟨_, SqL.of h1, q⟩
  · cases rh.at e l with
    | fls h1 q => exact ⟨_, h1.sq, q⟩
theorem srcL_ok {K mg ρ0 H0} {n : Nat} {a : Addr} {ds : List D} (e : ρ0[n]? = some a) : SrcOk K mg ρ0 H0 (Itl K a) (srcL n ds) := fun ρ H h le rh => by
  have e' := le.pre n a e
  refine ⟨fun i d _ ⟨es, l, hi⟩ => ?_, fun ⟨es, l, hi⟩ => ?_⟩
  · obtain ⟨vs, sq, q⟩ := l.sq rh e'
    obtain ⟨v, e1, rv⟩ := q.get hi
    refine ⟨⟨vs, v, sq, e1⟩, fun x H' ⟨eH, f⟩ => ?_⟩
    subst eH
    have := f vs sq
    rw [e1] at this; cases this
    exact ⟨Le.refl, rh, rv⟩
  · obtain ⟨vs, sq, q⟩ := l.sq rh e'
    exact ⟨vs, sq, by rw [q.length]; exact hi⟩
theorem srcT_ok {K mg ρ0 H0} {a : Addr} {vs : List V} {ds : List D} (t : SqT K H0 a vs) (q : RVs K mg ρ0 H0 vs ds) : SrcOk K mg ρ0 H0 (Itt K a) (srcT ds) := fun ρ H h le rh => by
  have t' := le.tup a vs t
  have q' := q.mono le
  refine ⟨fun i d hi _ => ?_, fun _ => ⟨vs, t', by rw [q.length]; exact Nat.le_refl _⟩⟩
  obtain ⟨v, e1, rv⟩ := q'.get (show ds[i]? = some d from hi)
  refine ⟨⟨vs, v, t', e1⟩, fun x H' ⟨eH, f⟩ => ?_⟩
  subst eH
  have := f vs t'
  rw [e1] at this; cases this
  exact ⟨Le.refl, rh, rv⟩
def srcS (x : Str) : Src := srcT (x.cps.toList.map fun c => .str ⟨#[c]⟩)
theorem srcS_ok {K mg ρ0 H0} {x : Str} : SrcOk K mg ρ0 H0 (Its x) (srcS x) := fun ρ H h le rh => by
  refine ⟨fun i d hi _ => ?_, fun _ => ?_⟩
  · have hi : (x.cps.toList.map fun c => D.str ⟨#[c]⟩)[i]? = some d := hi
    rw [List.getElem?_map] at hi
    cases e : x.cps.toList[i]? with
    | none => rw [e] at hi; cases hi
    | some c =>
      rw [e] at hi; cases hi
      have e2 : x.cps[i]? = some c := by rw [← Array.getElem?_toList]; exact e
      refine ⟨(Array.getElem?_eq_some_iff.mp e2).1, fun y H' ⟨eH, c', e', ey⟩ => ?_⟩
      subst eH ey
      rw [e2] at e'; cases e'
      exact ⟨Le.refl, rh, .str _⟩
  · show x.cps.size ≤ (x.cps.toList.map fun c => D.str ⟨#[c]⟩).length
    simp
def srcR (lo : Int) (n : Nat) : Src := srcT ((List.range n).map fun k : Nat => .int (lo + (k : Int)))
theorem srcR_ok {K mg ρ0 H0} {lo : Int} {n : Nat} : SrcOk K mg ρ0 H0 (Itr lo n) (srcR lo n) := fun ρ H h le rh => by
  refine ⟨fun i d hi _ => ?_, fun _ => ?_⟩
  · have hi : ((List.range n).map fun k : Nat => D.int (lo + (k : Int)))[i]? = some d := hi
    rw [List.getElem?_map] at hi
    cases e : (List.range n)[i]? with
    | none => rw [e] at hi; cases hi
    | some c =>
      rw [e] at hi; cases hi
      obtain ⟨e1, e2⟩ := List.getElem?_eq_some_iff.mp e
      rw [List.getElem_range] at e2
      subst e2
      refine ⟨by have z : i < n := by simpa using e1
                 exact z, fun y H' ⟨eH, ey⟩ => ?_⟩
      subst eH ey
      exact ⟨Le.refl, rh, .int _⟩
  · show n ≤ ((List.range n).map fun k : Nat => D.int (lo + (k : Int))).length
    simp
/-- a key as a value -/
def dKey : Key → D
  | .inl i => .int i
  | .inr x => .str x
theorem dKey_rv {K mg ρ H} (k : Key) : RV K mg ρ H (kV k) (dKey k) := by cases k <;> first | exact .int _ | exact .str _
theorem dKeys_rv {K mg ρ H} : ∀ ks : List Key, RVs K mg ρ H (ks.map kV) (ks.map dKey)
  | [] => .nil
  | k :: ks => .cons (dKey_rv k) (dKeys_rv ks)
theorem keys_get {κ : Type} {kvs : List (κ × V)} {kds : List (κ × D)} {i : Nat} {k : κ} (ke : kvs.map (·.1) = kds.map (·.1)) (e : (kds.map (·.1))[i]? = some k) : ∃ v, kvs[i]? = some (k, v) := by
  rw [← ke, List.getElem?_map] at e
  cases q : kvs[i]? with
  | none => rw [q] at e; cases e
  | some p => rw [q] at e; cases e; exact ⟨p.2, rfl⟩
theorem srcK_ok {K mg ρ0 H0} {a : Addr} {o : Obj} {kvs : List (Key × V)} {kds : List (Key × D)} (ha : H0 a = some (.frz o (.dK kvs))) (ke : kvs.map (·.1) = kds.map (·.1)) : SrcOk K mg ρ0 H0 (Itk a o kvs) (srcT (kds.map fun kv => dKey kv.1)) := fun ρ H h le rh => by
  have ha' := le.frz a o _ ha
  have ll : kvs.length = kds.length := by simpa using congrArg List.length ke
  refine ⟨fun i d hi _ => ?_, fun _ => ⟨ha', ?_⟩⟩
  · have hi : (kds.map fun kv => dKey kv.1)[i]? = some d := hi
    rw [List.getElem?_map] at hi
    cases q : kds[i]? with
    | none => rw [q] at hi; cases hi
    | some p =>
      rw [q] at hi; cases hi
      obtain ⟨v, ev⟩ := keys_get (i := i) (k := p.1) ke (by rw [List.getElem?_map, q]; rfl)
      refine ⟨⟨ha', (List.getElem?_eq_some_iff.mp ev).1⟩, fun x H' ⟨eH, k, v', e1, e2⟩ => ?_⟩
      subst eH
      rw [ev] at e1; cases e1
      rw [e2]
      exact ⟨Le.refl, rh, dKey_rv _⟩
  · show kvs.length ≤ (kds.map fun kv => dKey kv.1).length
    rw [List.length_map, ll]; exact Nat.le_refl _
theorem srcKT_ok {K mg ρ0 H0} {a : Addr} {o : Obj} {kvs : List (List Key × V)} {kds : List (List Key × D)} (ha : H0 a = some (.frz o (.dT kvs))) (ke : kvs.map (·.1) = kds.map (·.1)) : SrcOk K mg ρ0 H0 (Itkt a o kvs) (srcT (kds.map fun kv => .tup (kv.1.map dKey))) := fun ρ H h le rh => by
  have ha' := le.frz a o _ ha
  have ll : kvs.length = kds.length := by simpa using congrArg List.length ke
  refine ⟨fun i d hi _ => ?_, fun _ => ⟨ha', ?_⟩⟩
  · have hi : (kds.map fun kv => D.tup (kv.1.map dKey))[i]? = some d := hi
    rw [List.getElem?_map] at hi
    cases q : kds[i]? with
    | none => rw [q] at hi; cases hi
    | some p =>
      rw [q] at hi; cases hi
      obtain ⟨v, ev⟩ := keys_get (i := i) (k := p.1) ke (by rw [List.getElem?_map, q]; rfl)
      refine ⟨⟨ha', (List.getElem?_eq_some_iff.mp ev).1⟩, fun x H' ⟨eH, k, v', b, e1, e2, e3⟩ => ?_⟩
      subst eH
      rw [ev] at e1; cases e1
      rw [e2]
      exact ⟨Le.refl, rh, .tup e3 (dKeys_rv _)⟩
  · show kvs.length ≤ (kds.map fun kv => D.tup (kv.1.map dKey)).length
    rw [List.length_map, ll]; exact Nat.le_refl _
/-- a value that is walked -/
def dIter (x : D) (h : Mh) : R Src := match x with
  | .tup ds => .ok (srcT ds) h
  | .kt ds => .ok (srcT ds) h
  | .str z => .ok (srcS z) h
  | .ref n => match h[n]? with
    | some (.lst ds) => .ok (srcL n ds) h
    | some (.fls ds) => .ok (srcL n ds) h
    | some (.zk kvs) => .ok (srcT (kvs.map fun kv => dKey kv.1)) h
    | some (.zt kvs) => .ok (srcT (kvs.map fun kv => .tup (kv.1.map dKey))) h
    | _ => .bad
  | _ => .bad
def lstOf0 (h : Mh) (n : Nat) : Bool := match h[n]? with
  | some (.lst _) => true
  | some (.fls _) => true
  | _ => false
def mIter (m : Sg → Mh → R D) : Sg → Mh → R Src := fun sg h => (m sg h).bind dIter
theorem i_val {e : Expr} {m : Sg → Mh → R D} (he : PM X W e m) : PIM X W tg e (mIter m) := ⟨PIimp (PIor (pi_keys he.pe) (PIor (pi_list he.pe) (PIor (pi_tup he.pe) (pi_str he.pe)))) fun σ H Q ⟨ρ, sg, h, hs, rh, w⟩ => by
  -- the value decides which of the three
  have key : ∀ (C : D → Mh → Prop) (Q1 : VK), (∀ d h', m sg h = .ok d h' → C d h') → (∀ ρ1 H1 h1 v d, C d h1 → Le X.K ρ H ρ1 H1 → RHp X.K X.mg ρ1 H1 h1 → RV X.K X.mg ρ1 H1 v d → WG X.K X.mg (SrcOk X.K X.mg) W σ Q ρ1 H1 (dIter d h1) → Q1 v H1) → TM X.K X.mg W m σ H Q1 := fun C Q1 hC k => by
    refine ⟨ρ, sg, h, hs, rh, ?_⟩
    unfold mIter at w
    cases e : m sg h with
    | ok d h' => rw [e] at w; exact fun ρ' H' v le rh' rv => k ρ' H' h' v d (hC d h' e) le rh' rv (w.mono le)
    | exc c fs h' => rw [e] at w; exact w
    | bad => rw [e] at w; exact w
  cases e : m sg h with
  | bad => unfold mIter at w; rw [e] at w; exact w.elim
  | exc c fs h' => exact .inr (.inl (key (fun _ _ => False) _ (fun d h' e' => by rw [e] at e'; cases e') fun _ _ _ _ _ z => z.elim))
  | ok d h' =>
    cases d with
    | tup ds =>
      refine .inr (.inr (.inl (key (fun d _ => d = .tup ds) _ (fun d h' e' => by rw [e] at e'; cases e'; rfl) fun ρ1 H1 h1 v d z le rh1 rv w1 => ?_)))
      subst z
      cases rv with
      | tup t q => exact ⟨_, rfl, ⟨_, SqT.of t⟩, w1.okI Le.refl rh1 (srcT_ok (SqT.of t) q)⟩
    | kt ds =>
      refine .inr (.inr (.inl (key (fun d _ => d = .kt ds) _ (fun d h' e' => by rw [e] at e'; cases e'; rfl) fun ρ1 H1 h1 v d z le rh1 rv w1 => ?_)))
      subst z
      cases rv with
      | kt t q => exact ⟨_, rfl, ⟨_, t⟩, w1.okI Le.refl rh1 (srcT_ok t q)⟩
    | str z =>
      refine .inr (.inr (.inr (key (fun d _ => d = .str z) _ (fun d h' e' => by rw [e] at e'; cases e'; rfl) fun ρ1 H1 h1 v d z le rh1 rv w1 => ?_)))
      subst z
      cases rv
      exact ⟨_, rfl, w1.okI Le.refl rh1 srcS_ok⟩
    | ref n =>
      have zk : (∃ kvs, h'[n]? = some (.zk kvs)) ∨ (∃ kvs, h'[n]? = some (.zt kvs)) ∨ (lstOf0 h' n = true) ∨ dIter (.ref n) h' = .bad := by
        cases eo : h'[n]? with
        | none => exact .inr (.inr (.inr (by simp only [dIter, eo])))
        | some o =>
          cases o with
          | lst ds => exact .inr (.inr (.inl (by simp only [lstOf0, eo])))
          | fls ds => exact .inr (.inr (.inl (by simp only [lstOf0, eo])))
          | zk kvs => exact .inl ⟨_, rfl⟩
          | zt kvs => exact .inr (.inl ⟨_, rfl⟩)
          | _ => exact .inr (.inr (.inr (by simp only [dIter, eo])))
      rcases zk with ⟨kvs, ek⟩ | ⟨kvs, ek⟩ | el | eb
      · refine .inl (key (fun d h1 => d = .ref n ∧ h1[n]? = some (.zk kvs)) _ (fun d h2 e' => by rw [e] at e'; cases e'; exact ⟨rfl, ek⟩) fun ρ1 H1 h1 v d z le rh1 rv w1 => ?_)
        obtain ⟨rfl, z⟩ := z
        cases rv with
        | ref r =>
          simp only [dIter, z] at w1
          cases rh1.obj _ _ _ r z with
          | zk hl ke q => exact ⟨_, _, rfl, .inl ⟨_, hl, w1.okI Le.refl rh1 (srcK_ok hl ke)⟩⟩
      · refine .inl (key (fun d h1 => d = .ref n ∧ h1[n]? = some (.zt kvs)) _ (fun d h2 e' => by rw [e] at e'; cases e'; exact ⟨rfl, ek⟩) fun ρ1 H1 h1 v d z le rh1 rv w1 => ?_)
        obtain ⟨rfl, z⟩ := z
        cases rv with
        | ref r =>
          simp only [dIter, z] at w1
          cases rh1.obj _ _ _ r z with
          | zt hl ke q => exact ⟨_, _, rfl, .inr ⟨_, hl, w1.okI Le.refl rh1 (srcKT_ok hl ke)⟩⟩
      · refine .inr (.inl (key (fun d h1 => d = .ref n ∧ lstOf0 h1 n = true) _ (fun d h' e' => by rw [e] at e'; cases e'; exact ⟨rfl, el⟩) fun ρ1 H1 h1 v d z le rh1 rv w1 => ?_))
        obtain ⟨z, zl⟩ := z
        subst z
        cases rv with
        | ref r =>
          simp only [dIter] at w1
          unfold lstOf0 at zl
          split at w1
          · rename_i e0
            obtain ⟨vs, sq, q⟩ := lstAt.sq rh1 r (.inl e0)
            exact ⟨_, rfl, ⟨vs, sq⟩, w1.okI Le.refl rh1 (srcL_ok r)⟩
          · rename_i e0
            obtain ⟨vs, sq, q⟩ := lstAt.sq rh1 r (.inr e0)
            exact ⟨_, rfl, ⟨vs, sq⟩, w1.okI Le.refl rh1 (srcL_ok r)⟩
          · rename_i e0; rw [e0] at zl; cases zl
          · rename_i e0; rw [e0] at zl; cases zl
          · exact w1.elim
      · unfold mIter at w; rw [e] at w
        rw [R.bind_ok, eb] at w
        exact w.elim
    | _ => unfold mIter at w; rw [e] at w; exact w.elim⟩
def mRange1 (m : Sg → Mh → R D) : Sg → Mh → R Src := fun sg h => (m sg h).bind fun d h1 => match d with
  | .int j => if -(2 ^ 62) ≤ j ∧ j < 2 ^ 62 then .ok (srcR 0 j.toNat) h1 else .bad
  | _ => .bad
theorem i_range1 {a : Expr} {m : Sg → Mh → R D} {p : Pos} (ha : PM X W a m) (hm : X.mg "range" = none) (hg : Gl X "range" := by rfl) (hs : starEach [a] X.env = [(false, eval a X.env)] := by rfl) : PIM X W tg (.Call (.Name "range" p) [a] [] pos) (mRange1 m) :=
  ⟨PIimp (pi_range1 hg hm (l_cons ha l_nil hs).pa hs) fun σ H Q ⟨ρ, sg, h, hst, rh, w⟩ => by
    refine ⟨ρ, sg, h, hst, rh, ?_⟩
    unfold mCons mNil
    have w' : WG X.K X.mg (SrcOk X.K X.mg) W σ Q ρ H (((m sg h).bind fun d h1 => .ok [d] h1).bind fun ds h1 => match ds with
      | [.int j] => if -(2 ^ 62) ≤ j ∧ j < 2 ^ 62 then .ok (srcR 0 j.toNat) h1 else .bad
      | _ => .bad) := by
      unfold mRange1 at w
      rw [R.bind_assoc]
      cases e : m sg h with
      | ok d h' => rw [e] at w; cases d <;> exact w
      | exc c fs h' => rw [e] at w; exact w
      | bad => rw [e] at w; exact w
    refine w'.cut fun ρ1 H1 h1 vs ds le rh1 rvs w1 => ?_
    split at w1
    · split at w1
      · rename_i hz
        cases rvs with
        | cons r t =>
          cases t; cases r
          exact ⟨_, rfl, hz.1, hz.2, w1.okI Le.refl rh1 srcR_ok⟩
      · exact w1.elim
    · exact w1.elim⟩
end
end Mo

namespace Mo
open PySem PySem.Spec PyProof.Rows L2
section
variable {X : Cx} {W : WX} {tg iter : Expr} {ts : List Nat} {g : D → Sg → Option Sg} {pos : Pos}
/-! ### zip, enumerate -/
def zipD : List D → List D → List D
  | x :: xs, y :: ys => .tup [x, y] :: zipD xs ys
  | _, _ => []
theorem zipD_get : ∀ {xs ys : List D} {i : Nat} {d : D}, (zipD xs ys)[i]? = some d → ∃ x y, xs[i]? = some x ∧ ys[i]? = some y ∧ d = .tup [x, y]
  | [], _, _, _, e => by simp [zipD] at e
  | _ :: _, [], _, _, e => by simp [zipD] at e
  | x :: xs, y :: ys, 0, d, e => by simp [zipD] at e; exact ⟨x, y, rfl, rfl, e.symm⟩
  | x :: xs, y :: ys, i + 1, d, e => by
    have e : (zipD xs ys)[i]? = some d := by simpa [zipD] using e
    obtain ⟨a, b, h1, h2, h3⟩ := zipD_get e
    exact ⟨a, b, by simpa using h1, by simpa using h2, h3⟩
theorem zipD_len : ∀ (xs ys : List D), xs.length ≤ (zipD xs ys).length ∨ ys.length ≤ (zipD xs ys).length
  | [], _ => .inl (Nat.zero_le _)
  | _ :: _, [] => .inr (Nat.zero_le _)
  | x :: xs, y :: ys => by
    rcases zipD_len xs ys with h | h
    · exact .inl (Nat.succ_le_succ h)
    · exact .inr (Nat.succ_le_succ h)
def srcZ (n m : Nat) (xs ys : List D) : Src := ⟨zipD xs ys, fun i d h => ∃ x y, d = .tup [x, y] ∧ (srcL n xs).at' i x h ∧ (srcL m ys).at' i y h, fun i h => (∃ es fs, lstAt h n es ∧ lstAt h m fs ∧ (es.length ≤ i ∨ fs.length ≤ i))⟩
theorem srcZ_ok {K mg ρ0 H0} {n m : Nat} {a b : Addr} {xs ys : List D} (ea : ρ0[n]? = some a) (eb : ρ0[m]? = some b) : SrcOk K mg ρ0 H0 (Itz K a b) (srcZ n m xs ys) := fun ρ H h le rh => by
  have ea' := le.pre n a ea
  have eb' := le.pre m b eb
  refine ⟨fun i d hd hat => ?_, fun ⟨es, fs, l1, l2, hl⟩ => ?_⟩
  · obtain ⟨x, y, rfl, ⟨es, l1, hx⟩, fs, l2, hy⟩ := hat
    obtain ⟨vs, s1, q1⟩ := l1.sq rh ea'
    obtain ⟨ws, s2, q2⟩ := l2.sq rh eb'
    obtain ⟨v, e1, r1⟩ := q1.get hx
    obtain ⟨u, e2, r2⟩ := q2.get hy
    refine ⟨⟨vs, ws, v, u, s1, s2, e1, e2⟩, fun z H' ⟨T, x', y', ez, hT, eH, f1, f2⟩ => ?_⟩
    subst ez eH
    have g1 := f1 vs s1
    have g2 := f2 ws s2
    rw [e1] at g1; cases g1
    rw [e2] at g2; cases g2
    exact ⟨Le.new hT, rh.made hT, .tup upd_same ((RVs.cons r1 (.cons r2 .nil)).mono (Le.new hT))⟩
  · obtain ⟨vs, s1, q1⟩ := l1.sq rh ea'
    obtain ⟨ws, s2, q2⟩ := l2.sq rh eb'
    exact ⟨vs, ws, s1, s2, by rw [q1.length, q2.length]; exact hl⟩
theorem srcZT_ok {K mg ρ0 H0} {a b : Addr} {vs ws : List V} {xs ys : List D} (ta : SqT K H0 a vs) (qa : RVs K mg ρ0 H0 vs xs) (tb : SqT K H0 b ws) (qb : RVs K mg ρ0 H0 ws ys) : SrcOk K mg ρ0 H0 (RZ.ItzT K a b) (srcT (zipD xs ys)) := fun ρ H h le rh => by
  have ta' := le.tup a vs ta
  have tb' := le.tup b ws tb
  have qa' := qa.mono le
  have qb' := qb.mono le
  refine ⟨fun i d hd _ => ?_, fun _ => ⟨vs, ws, ta', tb', by rw [qa'.length, qb'.length]; exact zipD_len xs ys⟩⟩
  obtain ⟨x, y, hx, hy, rfl⟩ := zipD_get (show (zipD xs ys)[i]? = some d from hd)
  obtain ⟨v, e1, r1⟩ := qa'.get hx
  obtain ⟨u, e2, r2⟩ := qb'.get hy
  refine ⟨⟨vs, ws, v, u, ta', tb', e1, e2⟩, fun z H' ⟨T, x', y', ez, hT, eH, f1, f2⟩ => ?_⟩
  subst ez eH
  have g1 := f1 vs ta'
  have g2 := f2 ws tb'
  rw [e1] at g1; cases g1
  rw [e2] at g2; cases g2
  exact ⟨Le.new hT, rh.made hT, .tup upd_same ((RVs.cons r1 (.cons r2 .nil)).mono (Le.new hT))⟩
def lstOf (h : Mh) (n : Nat) : Option (List D) := match h[n]? with
  | some (.lst ds) => some ds
  | some (.fls ds) => some ds
  | _ => none
theorem lstOf_at {h : Mh} {n : Nat} {ds : List D} (e : lstOf h n = some ds) : lstAt h n ds := by
  unfold lstOf at e
  split at e
  · cases e; exact .inl (by assumption)
  · cases e; exact .inr (by assumption)
  · cases e
def dZip (ds : List D) (h : Mh) : R Src := match ds with
  | [.ref n, .ref m] => match lstOf h n, lstOf h m with
    | some xs, some ys => .ok (srcZ n m xs ys) h
    | _, _ => .bad
  | [.tup xs, .tup ys] => .ok (srcT (zipD xs ys)) h
  | _ => .bad
def mZip (ml : Sg → Mh → R (List D)) : Sg → Mh → R Src := fun sg h => (ml sg h).bind dZip
theorem i_zip {e e2 : Expr} {ml : Sg → Mh → R (List D)} {p tpos : Pos} {elts : List Expr} {kk : Nat} (hm : X.mg "zip" = none) (ha : PL X W [e, e2] ml) (hg : Gl X "zip" := by rfl)
    (hs : starEach [e, e2] X.env = (false, eval e X.env) :: starEach [e2] X.env := by rfl) (hpl : (backTo pos (starEach [e2] X.env)).any (·.1) = false := by rfl) : PIM X W (.Tuple elts kk tpos) (.Call (.Name "zip" p) [e, e2] [] pos) (mZip ml) :=
  ⟨PIimp (RZ.pi_zipA hg hm ha.pa hs hpl) fun σ H Q ⟨ρ, sg, h, hst, rh, w⟩ => TMl.go hst rh w fun ρ1 H1 h1 vs ds le rh1 rvs w1 => by
    unfold dZip at w1
    split at w1
    · split at w1
      · rename_i e1 e2
        cases rvs with
        | cons r1 t => cases t with
          | cons r2 t =>
            cases t
            cases r1 with
            | ref r1 => cases r2 with
              | ref r2 =>
                obtain ⟨v1, s1, q1⟩ := (lstOf_at e1).sq rh1 r1
                obtain ⟨v2, s2, q2⟩ := (lstOf_at e2).sq rh1 r2
                exact ⟨_, _, v1, v2, rfl, .inl ⟨s1, s2, w1.okI Le.refl rh1 (srcZ_ok r1 r2)⟩⟩
      · exact w1.elim
    · cases rvs with
      | cons r1 t => cases t with
        | cons r2 t =>
          cases t
          cases r1 with
          | tup t1 q1 => cases r2 with
            | tup t2 q2 => exact ⟨_, _, _, _, rfl, .inr ⟨SqT.of t1, SqT.of t2, w1.okI Le.refl rh1 (srcZT_ok (SqT.of t1) q1 (SqT.of t2) q2)⟩⟩
    · exact w1.elim⟩
def enumD : Nat → List D → List D
  | _, [] => []
  | k, x :: xs => .tup [.int (k : Int), x] :: enumD (k + 1) xs
theorem enumD_get : ∀ {xs : List D} {k i : Nat} {d : D}, (enumD k xs)[i]? = some d → ∃ x, xs[i]? = some x ∧ d = .tup [.int ((k + i : Nat) : Int), x]
  | [], _, _, _, e => by simp [enumD] at e
  | x :: xs, k, 0, d, e => by simp [enumD] at e; exact ⟨x, rfl, e.symm⟩
  | x :: xs, k, i + 1, d, e => by
    have e : (enumD (k + 1) xs)[i]? = some d := by simpa [enumD] using e
    obtain ⟨a, h1, h3⟩ := enumD_get e
    exact ⟨a, by simpa using h1, by rw [h3, show k + 1 + i = k + (i + 1) by omega]⟩
theorem enumD_len : ∀ (xs : List D) (k : Nat), (enumD k xs).length = xs.length
  | [], _ => rfl
  | x :: xs, k => congrArg (· + 1) (enumD_len xs (k + 1))
def srcE (n : Nat) (xs : List D) : Src := ⟨enumD 0 xs, fun i d h => ∃ x, d = .tup [.int (i : Int), x] ∧ (srcL n xs).at' i x h, fun i h => ∃ es, lstAt h n es ∧ es.length ≤ i⟩
theorem srcE_ok {K mg ρ0 H0} {n : Nat} {a : Addr} {xs : List D} (ea : ρ0[n]? = some a) : SrcOk K mg ρ0 H0 (Ite K a) (srcE n xs) := fun ρ H h le rh => by
  have ea' := le.pre n a ea
  refine ⟨fun i d hd hat => ?_, fun ⟨es, l1, hl⟩ => ?_⟩
  · obtain ⟨x, rfl, es, l1, hx⟩ := hat
    obtain ⟨vs, s1, q1⟩ := l1.sq rh ea'
    obtain ⟨v, e1, r1⟩ := q1.get hx
    refine ⟨⟨vs, v, s1, e1⟩, fun z H' ⟨T, x', ez, hT, eH, f1⟩ => ?_⟩
    subst ez eH
    have g1 := f1 vs s1
    rw [e1] at g1; cases g1
    exact ⟨Le.new hT, rh.made hT, .tup upd_same ((RVs.cons (.int _) (.cons r1 .nil)).mono (Le.new hT))⟩
  · obtain ⟨vs, s1, q1⟩ := l1.sq rh ea'
    exact ⟨vs, s1, by rw [q1.length]; exact hl⟩
def dEnum (ds : List D) (h : Mh) : R Src := match ds with
  | [.ref n] => match lstOf h n with
    | some xs => .ok (srcE n xs) h
    | _ => .bad
  | _ => .bad
def mEnum (ml : Sg → Mh → R (List D)) : Sg → Mh → R Src := fun sg h => (ml sg h).bind dEnum
theorem i_enum {e : Expr} {ml : Sg → Mh → R (List D)} {p tpos : Pos} {elts : List Expr} {kk : Nat} (hm : X.mg "enumerate" = none) (ha : PL X W [e] ml) (hg : Gl X "enumerate" := by rfl) (hs : starEach [e] X.env = [(false, eval e X.env)] := by rfl) :
    PIM X W (.Tuple elts kk tpos) (.Call (.Name "enumerate" p) [e] [] pos) (mEnum ml) :=
  ⟨PIimp (pi_enum hg hm ha.pa hs) fun σ H Q ⟨ρ, sg, h, hst, rh, w⟩ => TMl.go hst rh w fun ρ1 H1 h1 vs ds le rh1 rvs w1 => by
    unfold dEnum at w1
    split at w1
    · split at w1
      · rename_i e1
        cases rvs with
        | cons r1 t =>
          cases t
          cases r1 with
          | ref r1 =>
            obtain ⟨v1, s1, q1⟩ := (lstOf_at e1).sq rh1 r1
            exact ⟨_, v1, rfl, s1, w1.okI Le.refl rh1 (srcE_ok r1)⟩
      · exact w1.elim
    · exact w1.elim⟩
/-! ### list comprehensions -/
def wipeD (sg : Sg) : List Nat → Sg
  | [] => sg
  | v :: vs => (wipeD sg vs).set v none
theorem RSt.wipe {K mg ρ H} {σ : L2.St} {sg : Sg} (r : RSt K mg ρ H σ sg) : ∀ vs : List Nat, RSt K mg ρ H (wipe σ vs) (wipeD sg vs)
  | [] => r
  | v :: vs => by
    have ih := RSt.wipe r vs
    unfold L2.wipe wipeD
    refine ⟨by simp [ih.len], fun j d e => ?_⟩
    by_cases hj : v = j
    · subst hj
      by_cases hi : v < (wipeD sg vs).length
      · rw [List.getElem?_set_self hi] at e; cases e
      · rw [List.getElem?_eq_none (by simpa using hi)] at e; cases e
    · rw [List.getElem?_set_ne hj] at e ⊢
      exact ih.val j d e
theorem wipe_get (σ : L2.St) (j : Nat) : ∀ vs : List Nat, (wipe σ vs)[j]? = if j ∈ vs ∧ j < σ.length then some none else σ[j]?
  | [] => by simp [L2.wipe]
  | v :: vs => by
    have ih := wipe_get σ j vs
    unfold L2.wipe
    by_cases hj : v = j
    · subst hj
      by_cases hv : v < σ.length
      · rw [List.getElem?_set_self (by rw [L2.wipe_length]; exact hv), if_pos ⟨by simp, hv⟩]
      · rw [List.getElem?_eq_none (by simpa [L2.wipe_length] using hv), if_neg (fun z => hv z.2), List.getElem?_eq_none (by simpa using hv)]
    · rw [List.getElem?_set_ne hj, ih]
      by_cases hm : j ∈ vs ∧ j < σ.length
      · rw [if_pos hm, if_pos ⟨List.mem_cons_of_mem _ hm.1, hm.2⟩]
      · rw [if_neg hm, if_neg (fun z => hm ⟨by rcases List.mem_cons.mp z.1 with e | e; exact absurd e.symm hj; exact e, z.2⟩)]
theorem wipe_ext {vs : List Nat} {σ τ : L2.St} (h : ∀ j, j ∉ vs → σ[j]? = τ[j]?) (hl : σ.length = τ.length) : wipe σ vs = wipe τ vs := List.ext_getElem? fun j => by
  rw [wipe_get, wipe_get, hl]
  by_cases hm : j ∈ vs
  · by_cases hj : j < τ.length
    · rw [if_pos ⟨hm, hj⟩, if_pos ⟨hm, hj⟩]
    · rw [if_neg (fun z => hj z.2), if_neg (fun z => hj z.2), List.getElem?_eq_none (by rw [hl]; omega), List.getElem?_eq_none (by omega)]
  · rw [if_neg (fun z => hm z.1), if_neg (fun z => hm z.1)]
    exact h j hm
theorem wipe_wipe (σ : L2.St) (vs : List Nat) : wipe (wipe σ vs) vs = wipe σ vs := List.ext_getElem? fun j => by
  rw [wipe_get, wipe_get, L2.wipe_length]
  by_cases hm : j ∈ vs ∧ j < σ.length
  · rw [if_pos hm]
    split <;> rfl
  · rw [if_neg hm]
def R.nox {α : Type} : R α → R α
  | .exc _ _ _ => .bad
  | r => r
/-- the clause's tests -/
structure PTM (X : Cx) (W : WX) (ifs : List Expr) (m : Sg → Mh → R Bool) : Prop where
  pts : PTs X ifs (TMb X.K X.mg W m)
def mYes : Sg → Mh → R Bool := fun _ h => .ok true h
theorem PTsimp {X : Cx} {e : List Expr} {t t' : TT} (h : PTs X e t) (i : ∀ σ H Q, t' σ H Q → t σ H Q) : PTs X e t' := ⟨fun pins s σ H Q I hw => h.run pins s σ H Q I (i _ _ _ hw)⟩
theorem c_nil : PTM X W [] mYes := ⟨PTsimp pts_nil fun σ H Q ⟨ρ, sg, h, hs, rh, w⟩ => w.okI Le.refl rh rfl⟩
theorem c_one {c : Expr} {m : Sg → Mh → R Bool} (hc : PB X W c m) : PTM X W [c] m := ⟨pts_one hc.pt⟩
open Classical in
noncomputable def lcL (s : Src) (g : D → Sg → Option Sg) (mt : Sg → Mh → R Bool) (me : Sg → Mh → R D) (sg : Sg) (n : Nat) : List D → Nat → Mh → R D
  | [], i, h => if s.fin i h then .ok (.ref n) h else .bad
  | x :: xs, i, h => if s.at' i x h then match g x sg with
    | some sg1 => (mt sg1 h).nox.bind fun b h1 => if b = true then (me sg1 h1).nox.bind fun y h2 => match h2[n]? with
        | some (.lst acc) => if acc.length < sizeLine then lcL s g mt me sg n xs (i + 1) (h2.set n (.lst (acc ++ [y]))) else .bad
        | _ => .bad
      else lcL s g mt me sg n xs (i + 1) h1
    | none => .bad else .bad
noncomputable def mLc (mi : Sg → Mh → R Src) (g : D → Sg → Option Sg) (mt : Sg → Mh → R Bool) (me : Sg → Mh → R D) (vs : List Nat) : Sg → Mh → R D := fun sg h => (mi sg h).bind fun s h1 => lcL s g mt me (wipeD sg vs) h1.length s.items 0 (h1 ++ [.lst []])
abbrev W0 : WX := fun _ _ _ _ => False
theorem WG.noxI {K mg} {α β : Type} {W W' : WX} {σ σ' : L2.St} {γ δ : Type} {rel : Ren → Hp → β → α → Prop} {rel2 : Ren → Hp → δ → γ → Prop} {Q : δ → Hp → Prop} {Q1 : β → Hp → Prop} {ρ : Ren} {H : Hp} {r : R α} {f : α → Mh → R γ} (w : WG K mg rel2 W σ Q ρ H (r.nox.bind f))
    (k : ∀ ρ1 H1 h1 v a, Le K ρ H ρ1 H1 → RHp K mg ρ1 H1 h1 → rel ρ1 H1 v a → WG K mg rel2 W σ Q ρ1 H1 (f a h1) → Q1 v H1) : WG K mg rel W' σ' Q1 ρ H r := by
  cases r with
  | ok a h' => exact fun ρ' H' v l rh rv => k ρ' H' h' v a l rh rv (w.mono l)
  | exc c fs h' => exact w.elim
  | bad => exact w
theorem lc_reads {own : List (Str × Nat)} {mt : Sg → Mh → R Bool} {me : Sg → Mh → R D} {mi : Sg → Mh → R Src} {σ : L2.St} {H : Hp} {Q : VK} (hts : ∀ j ∈ ts, j ∈ own.map (·.2)) (w : TM X.K X.mg W (mLc mi g mt me (own.map (·.2))) σ H Q) :
    tLc (TMi X.K X.mg W mi) (TMg X.K X.mg ts g) (TMb X.K X.mg W0 mt) (TM X.K X.mg W0 me) (own.map (·.2)) σ H Q := by
  obtain ⟨ρ, sg, h, hs, rh, w⟩ := w
  refine TMi.go hs rh w fun ρ1 H1 h1 J s le rh1 so w1 => fun D hD => ?_
  generalize hvs : own.map (·.2) = vs at *
  have rh2 : RHp X.K X.mg (ρ1 ++ [D]) (upd H1 D (.lst [])) (h1 ++ [.lst []]) := rh1.grow hD (RO.newList hD .nil)
  have le2 : Le X.K ρ1 H1 (ρ1 ++ [D]) (upd H1 D (.lst [])) := Le.grow hD
  have hn : (ρ1 ++ [D])[h1.length]? = some D := rh1.at_new
  refine ⟨fun i m H => m = s.items.length - i ∧ i ≤ s.items.length ∧ ∃ ρ' h', Le X.K (ρ1 ++ [D]) (upd H1 D (.lst [])) ρ' H ∧ RHp X.K X.mg ρ' H h' ∧ WV X.K X.mg W σ Q ρ' H (lcL s g mt me (wipeD sg vs) h1.length (s.items.drop i) i h'),
    ⟨_, rfl, Nat.zero_le _, _, _, Le.refl, rh2, w1.mono le2⟩, ?_⟩
  rintro i m H ⟨rfl, hi, ρ', h', le', rh', w'⟩
  obtain ⟨so1, so2⟩ := so ρ' H h' (le2.trans le') rh'
  have hn' : ρ'[h1.length]? = some D := le'.pre _ _ hn
  have hsW : RSt X.K X.mg ρ' H (wipe σ vs) (wipeD sg vs) := (hs.mono (le.trans (le2.trans le'))).wipe vs
  by_cases hlt : i < s.items.length
  · rw [List.drop_eq_getElem_cons hlt] at w'
    unfold lcL at w'
    split at w'
    · rename_i hat
      obtain ⟨go, yl⟩ := so1 i _ (List.getElem?_eq_getElem hlt) hat
      split at w'
      · rename_i sg1 eg
        refine .inr ⟨go, fun H2 => ∃ ρ2 h2, Le X.K (ρ1 ++ [D]) (upd H1 D (.lst [])) ρ2 H2 ∧ RHp X.K X.mg ρ2 H2 h2 ∧ WV X.K X.mg W σ Q ρ2 H2 (lcL s g mt me (wipeD sg vs) h1.length (s.items.drop (i + 1)) (i + 1) h2), fun H2 ⟨ρ2, h2, a, b, c⟩ => ⟨_, by omega, rfl, hlt, ρ2, h2, a, b, c⟩, fun x H2 hy => ?_⟩
        obtain ⟨le3, rh3, rv3⟩ := yl x H2 hy
        refine ⟨ρ', _, _, sg1, hsW.mono le3, rv3, eg, fun σ3 hs3 l3 k3 => ⟨?_, ?_⟩⟩
        · rw [← wipe_wipe σ vs]
          exact wipe_ext (fun j hj => k3 j fun z => hj (hts j z)) l3
        · have w3 := WG.mono le3 w'
          refine ⟨ρ', sg1, h', hs3, rh3, w3.noxI fun ρ4 H4 h4 b b' le4 rh4 e w4 => ?_⟩
          subst e
          split
          · rename_i hb
            rw [if_pos hb] at w4
            refine ⟨ρ4, sg1, h4, hs3.mono le4, rh4, w4.noxI fun ρ5 H5 h5 y y' le5 rh5 ry w5 => ?_⟩
            split at w5
            · rename_i acc e5
              split at w5
              · rename_i hz
                have hn5 : ρ5[h1.length]? = some D := le5.pre _ _ (le4.pre _ _ hn')
                cases rh5.at hn5 e5 with
                | lst hD5 q5 =>
                  refine ⟨_, hD5, by rw [q5.length]; exact hz, ρ5, _, le'.trans (le3.trans (le4.trans (le5.trans (Le.write hD5 trivial)))), rh5.write hn5 e5 rfl rfl hD5 trivial (.lst upd_same ((q5.append (.cons ry .nil)).mono (Le.write hD5 trivial))), w5.mono (Le.write hD5 trivial)⟩
              · exact w5.elim
            · exact w5.elim
          · rename_i hb
            rw [if_neg hb] at w4
            exact ⟨ρ4, h4, le'.trans (le3.trans le4), rh4, w4⟩
      · exact w'.elim
    · exact w'.elim
  · have e : i = s.items.length := by omega
    subst e
    rw [List.drop_length] at w'
    unfold lcL at w'
    split at w'
    · rename_i hf
      exact .inl ⟨so2 hf, w'.okI Le.refl rh' (.ref hn')⟩
    · exact w'.elim
end
end Mo

namespace Mo
open PySem PySem.Spec PyProof.Rows L2
section
variable {X : Cx} {W : WX} {tg iter elt : Expr} {ifs : List Expr} {scope : Scope} {own : List (Str × Nat)} {ts : List Nat} {g : D → Sg → Option Sg} {mi : Sg → Mh → R Src} {mt : Sg → Mh → R Bool} {me : Sg → Mh → R D} {pos spos : Pos}
theorem q_lc (own : List (Str × Nat)) (hN : X.N.Nodup) (hi : PIM X W tg iter mi) (ok : BlkOk X.N X.env.scope scope own)
    (hg : ∀ (s : Shared) (H : Hp) (C : Addr) (cl : List (Str × Addr)) (fp : List Addr), PGM (X.blk s H scope (compEnvC scope cl C X.env) fp) tg ts g)
    (ht : ∀ (s : Shared) (H : Hp) (C : Addr) (cl : List (Str × Addr)) (fp : List Addr), PTM (X.blk s H scope (compEnvC scope cl C X.env) fp) W0 ifs mt)
    (he : ∀ (s : Shared) (H : Hp) (C : Addr) (cl : List (Str × Addr)) (fp : List Addr), PM (X.blk s H scope (compEnvC scope cl C X.env) fp) W0 elt me)
    (hts : ∀ j ∈ ts, j ∈ own.map (·.2) := by decide) (hc : X.calm = true := by rfl) (hs : ∀ x, foldedSetIterable iter X.env x = pure x := by intro _; rfl) :
    PM X W (.ListComp elt [⟨tg, iter, ifs, 0⟩] scope pos) (mLc mi g mt me (own.map (·.2))) :=
  ⟨PEimp (pe_lc hc hN hi.pi ok (fun s H C cl fp => (hg s H C cl fp).pg) (fun s H C cl fp => (ht s H C cl fp).pts) (fun s H C cl fp => (he s H C cl fp).pe) hs) fun σ H Q w => lc_reads hts w⟩
theorem s_lc (i : Nat) (own : List (Str × Nat)) {y : Str} {py : Pos} (hN : X.N.Nodup) (hi : PIM X W tg iter mi) (ok : BlkOk X.N X.env.scope scope own)
    (hg : ∀ (s : Shared) (H : Hp) (C : Addr) (cl : List (Str × Addr)) (fp : List Addr), PGM (X.blk s H scope (compEnvC scope cl C X.env) fp) tg ts g)
    (ht : ∀ (s : Shared) (H : Hp) (C : Addr) (cl : List (Str × Addr)) (fp : List Addr), PTM (X.blk s H scope (compEnvC scope cl C X.env) fp) W0 ifs mt)
    (he : ∀ (s : Shared) (H : Hp) (C : Addr) (cl : List (Str × Addr)) (fp : List Addr), PM (X.blk s H scope (compEnvC scope cl C X.env) fp) W0 elt me)
    (hsw : swapsWith (.ListComp elt [⟨tg, iter, ifs, 0⟩] scope pos) (some (.Name y py)) spos.line X.env = pure true) (hts : ∀ j ∈ ts, j ∈ own.map (·.2) := by decide) (hy : X.N[i]? = some y := by rfl) (hyl : X.env.scope.names.lookup y = some .local := by rfl)
    (hc : X.calm = true := by rfl) (hs : ∀ x, foldedSetIterable iter X.env x = pure x := by intro _; rfl) :
    PSM X W (.Assign [.Name y py] (.ListComp elt [⟨tg, iter, ifs, 0⟩] scope pos) spos) (sSet i (mLc mi g mt me (own.map (·.2)))) :=
  ⟨PSimp (ps_setLc hc hN hy hyl hsw hi.pi ok (fun s H C cl fp => (hg s H C cl fp).pg) (fun s H C cl fp => (ht s H C cl fp).pts) (fun s H C cl fp => (he s H C cl fp).pe) hs) fun E σ H ⟨ρ, sg, h, hst, rh, w⟩ =>
    lc_reads (W := W) (Q := fun x H1 => gName i x σ H1 E.nx) hts (TM.goS hst rh w fun ρ1 H1 h1 v d le rh1 rv w1 => w1.nxI Le.refl rh1 ((hst.mono le).set i rv))⟩
end
/-! ### stores to lists and dicts -/
def putD {κ : Type} [DecidableEq κ] (kvs : List (κ × D)) (k : κ) (v : D) : List (κ × D) := if kvs.any fun kv => decide (kv.1 = k) then kvs.map fun kv => if kv.1 = k then (kv.1, v) else kv else kvs ++ [(k, v)]
def storeD : MO → D → D → Option MO
  | .dk kvs, k, v => match keyD k with
    | some key => if kvs.length < sizeLine then some (.dk (putD kvs key v)) else none
    | none => none
  | .dt kvs, k, v => match keyT k with
    | some key => if kvs.length < sizeLine then some (.dt (putD kvs key v)) else none
    | none => none
  | _, _, _ => none
section
variable {X : Cx} {W : WX} {o i e : Expr} {mo mi mv : Sg → Mh → R D} {pos pos' : Pos}
def dPutL (x k v : D) (h : Mh) : Option Mh := match x, k with
  | .ref n, .int z => match h[n]? with
    | some (.lst xs) => (ixN xs.length z).map fun j => h.set n (.lst (xs.set j v))
    | _ => none
  | _, _ => none
def dPutD (x k v : D) (h : Mh) : Option Mh := match x with
  | .ref n => match h[n]? with
    | some o => (storeD o k v).map fun u => h.set n u
    | none => none
  | _ => none
def toRS (sg : Sg) : Option Mh → RS
  | some h => .nx sg h
  | none => .bad
def sPut (f : D → D → D → Mh → Option Mh) (mo mi mv : Sg → Mh → R D) : Sg → Mh → RS := fun sg h => (mv sg h).th sg fun v h1 => (mo sg h1).th sg fun x h2 => (mi sg h2).th sg fun k h3 => toRS sg (f x k v h3)
theorem s_putL (ho : PM X W o mo) (hi : PM X W i mi) (hv : PM X W e mv) (ha : ∀ v, assign (.Subscript o i pos') X.env v = (do
      let ov ← holding [v] (eval o X.env)
      let iv ← holding [v, ov] (eval i X.env)
      standAt pos'
      holding [v, ov, iv] (setItem ov iv v)
      release [v, ov, iv] []) := by intro _; rfl) (hs : swapsWithSole [.Subscript o i pos'] e pos.line X.env = pure false := by rfl) (hw : swappedStores [.Subscript o i pos'] e X.env = pure none := by rfl)
    (h1 : (assignEach [.Subscript o i pos'] X.env).map (·.2) = [assign (.Subscript o i pos') X.env] := by rfl) :
    PSM X W (.Assign [.Subscript o i pos'] e pos) (sPut dPutL mo mi mv) :=
  ⟨PSimp (ps_asg hv.pe (pg_sub ho.pe hi.pe set_list ha) hs hw h1) fun E σ H ⟨ρ, sg, h, hst, rh, w⟩ => TM.goS hst rh w fun ρ1 H1 h1 v d le rh1 rv w1 => TM.goS (hst.mono le) rh1 w1 fun ρ2 H2 h2 x dx le2 rh2 rx w2 => TM.goS ((hst.mono le).mono le2) rh2 w2 fun ρ3 H3 h3 k dk le3 rh3 rk w3 => by
    unfold dPutL at w3
    split at w3
    · rename_i n z
      split at w3
      · rename_i xs e0
        cases ej : ixN xs.length z with
        | none => rw [ej] at w3; exact w3.elim
        | some j =>
          rw [ej] at w3
          cases rk
          have rx3 := rx.mono le3
          cases rx3 with
          | ref r =>
            cases rh3.at r e0 with
            | lst hl q =>
              rename_i vs
              have le4 : Le X.K ρ3 H3 ρ3 (upd H3 _ (.lst (vs.set j v))) := Le.write hl trivial
              exact ⟨_, _, _, _, rfl, rfl, hl, by rw [q.length]; exact ej, w3.nxI le4 (rh3.write r e0 rfl rfl hl trivial (.lst upd_same ((q.set _ (rv.mono (le2.trans le3))).mono le4))) (((hst.mono le).mono le2).mono (le3.trans le4))⟩
      · exact w3.elim
    · exact w3.elim⟩
theorem any_keys {κ : Type} [DecidableEq κ] {k : κ} : ∀ {kvs : List (κ × V)} {kds : List (κ × D)}, kvs.map (·.1) = kds.map (·.1) → (kvs.any fun kv => decide (kv.1 = k)) = kds.any fun kv => decide (kv.1 = k)
  | [], [], _ => rfl
  | [], _ :: _, e => by cases e
  | _ :: _, [], e => by cases e
  | p :: kvs, q :: kds, e => by
    have e1 : p.1 = q.1 := (List.cons.inj e).1
    rw [List.any_cons, List.any_cons, any_keys (List.cons.inj e).2, e1]
theorem put_of {κ : Type} [DecidableEq κ] {K mg ρ H} {k : κ} {v : V} {d : D} (rv : RV K mg ρ H v d) {kvs : List (κ × V)} {kds : List (κ × D)} (e : kvs.map (·.1) = kds.map (·.1)) (r : RVs K mg ρ H (kvs.map (·.2)) (kds.map (·.2))) :
    (putK kvs k v).map (·.1) = (putD kds k d).map (·.1) ∧ RVs K mg ρ H ((putK kvs k v).map (·.2)) ((putD kds k d).map (·.2)) := by
  have ha := any_keys (k := k) e
  unfold putK putD
  rw [ha]
  split
  · clear ha
    rename_i hany
    clear hany
    induction kvs generalizing kds with
    | nil => cases kds with
      | nil => exact ⟨rfl, .nil⟩
      | cons _ _ => cases e
    | cons p kvs ih => cases kds with
      | nil => cases e
      | cons q kds =>
        have e1 : p.1 = q.1 := (List.cons.inj e).1
        cases r with
        | cons r1 t =>
          obtain ⟨i1, i2⟩ := ih (List.cons.inj e).2 t
          by_cases hq : q.1 = k
          · refine ⟨?_, ?_⟩
            · simp only [List.map_cons, e1, hq, if_true]; rw [i1]
            · simp only [List.map_cons, e1, hq, if_true]; exact .cons rv i2
          · refine ⟨?_, ?_⟩
            · simp only [List.map_cons, e1, hq, if_false]; rw [i1]
            · simp only [List.map_cons, e1, hq, if_false]; exact .cons r1 i2
  · refine ⟨?_, ?_⟩
    · rw [List.map_append, List.map_append, e]; rfl
    · rw [List.map_append, List.map_append]
      exact r.append (.cons rv .nil)
theorem same_len {κ : Type} {kvs : List (κ × V)} {kds : List (κ × D)} (e : kvs.map (·.1) = kds.map (·.1)) : kvs.length = kds.length := by
  have := congrArg List.length e
  simpa using this
theorem s_putD (hu : X.A.units + 1 < cLine) (ho : PM X W o mo) (hi : PM X W i mi) (hv : PM X W e mv) (hs : swapsWith e (some (.Subscript o i pos')) pos.line X.env = pure false := by rfl) :
    PSM X W (.Assign [.Subscript o i pos'] e pos) (sPut dPutD mo mi mv) :=
  ⟨PSimp (ps_dput hu ho.pe hi.pe hv.pe hs) fun E σ H ⟨ρ, sg, h, hst, rh, w⟩ => TM.goS hst rh w fun ρ1 H1 h1 v d le rh1 rv w1 => TM.goS (hst.mono le) rh1 w1 fun ρ2 H2 h2 x dx le2 rh2 rx w2 => TM.goS ((hst.mono le).mono le2) rh2 w2 fun ρ3 H3 h3 k dk le3 rh3 rk w3 => by
    unfold dPutD at w3
    split at w3
    · rename_i n
      split at w3
      · rename_i ob e0
        cases es : storeD ob dk d with
        | none => rw [es] at w3; exact w3.elim
        | some u =>
          rw [es] at w3
          have rx3 := rx.mono le3
          cases rx3 with
          | ref r =>
            have ro := rh3.at r e0
            unfold storeD at es
            split at es
            · split at es
              · rename_i kds _ _ _ key ek
                split at es
                · rename_i hz
                  cases es
                  cases ro with
                  | @dk kvs _ hl ke q =>
                    have le4 : Le X.K ρ3 H3 ρ3 (upd H3 _ (.dK (putK kvs key v))) := Le.write hl trivial
                    obtain ⟨p1, p2⟩ := put_of (k := key) (rv.mono (le2.trans le3)) ke q
                    refine ⟨_, _, rfl, ?_, w3.nxI le4 (rh3.write r e0 rfl rfl hl trivial (.dk upd_same p1 (p2.mono le4))) (((hst.mono le).mono le2).mono (le3.trans le4))⟩
                    rw [key_of rk ek]
                    exact DPut.k hl (by rw [same_len ke]; exact hz)
                · cases es
              · cases es
            · split at es
              · rename_i kds _ _ _ key ek
                split at es
                · rename_i hz
                  cases es
                  cases ro with
                  | @dt kvs _ hl ke q =>
                    have le4 : Le X.K ρ3 H3 ρ3 (upd H3 _ (.dT (putK kvs key v))) := Le.write hl trivial
                    obtain ⟨p1, p2⟩ := put_of (k := key) (rv.mono (le2.trans le3)) ke q
                    obtain ⟨b, e2, e3⟩ := keyT_of rk ek
                    refine ⟨_, _, rfl, ?_, w3.nxI le4 (rh3.write r e0 rfl rfl hl trivial (.dt upd_same p1 (p2.mono le4))) (((hst.mono le).mono le2).mono (le3.trans le4))⟩
                    rw [e2]
                    exact DPut.t hl e3 (by rw [same_len ke]; exact hz)
                · cases es
              · cases es
            · cases es
      · exact w3.elim
    · exact w3.elim⟩
/-! d[k], k in d, {} -/
theorem q_dget {a b : Expr} {ma mb : Sg → Mh → R D} (hu : X.A.units + 1 < cLine) (ha : PM X W a ma) (hb : PM X W b mb) (hs : NoSl b := by intro _ _; rfl) : PM X W (.Subscript a b pos) (m2 dGet ma mb) :=
  ⟨PEimp (pe_dget hu ha.pe hb.pe hs) fun σ H Q ⟨ρ, sg, h, hst, rh, w⟩ => TM.go hst rh w fun ρ1 H1 h1 v d le rh1 rv w1 => TM.go (hst.mono le) rh1 w1 fun ρ2 H2 h2 v2 d2 le2 rh2 rv2 w2 => by
    unfold dGet at w2
    split at w2
    · split at w2
      · rename_i ob e0
        split at w2
        · rename_i d' ed
          have r := rv.mono le2
          cases r with
          | ref r =>
            obtain ⟨r', g, z⟩ := look_of (rh2.at r e0) rv2 ed
            obtain ⟨v', hv, rz⟩ := rk_some z
            subst hv
            exact ⟨_, v', rfl, g, w2.okI Le.refl rh2 rz⟩
        · exact w2.elim
      · exact w2.elim
    · exact w2.elim⟩
def dDIn (neg : Bool) (k x : D) (h : Mh) : R D := match x with
  | .ref n => match h[n]? with
    | some o => match lookD o k with
      | some r => .ok (.bl (if neg then !r.isSome else r.isSome)) h
      | none => .bad
    | none => .bad
  | _ => .bad
theorem dDIn_of {neg : Bool} {σ : L2.St} {ρ : Ren} {H : Hp} {h : Mh} {Q : VK} {v1 v2 : V} {d1 d2 : D} (rh : RHp X.K X.mg ρ H h) (r1 : RV X.K X.mg ρ H v1 d1) (r2 : RV X.K X.mg ρ H v2 d2) (w : WV X.K X.mg W σ Q ρ H (dDIn neg d1 d2 h)) :
    ∃ a o, v2 = .ref a ∧ DGet H a v1 o ∧ Q (.bl (if neg then !o.isSome else o.isSome)) H := by
  unfold dDIn at w
  split at w
  · split at w
    · rename_i ob e0
      split at w
      · rename_i r ed
        cases r2 with
        | ref r2 =>
          obtain ⟨r', g, z⟩ := look_of (rh.at r2 e0) r1 ed
          refine ⟨_, r', rfl, g, ?_⟩
          rw [rk_isSome z]
          exact w.okI Le.refl rh (.bl _)
      · exact w.elim
    · exact w.elim
  · exact w.elim
theorem q_din {a b : Expr} {ma mb : Sg → Mh → R D} (hu : X.A.units + 1 < cLine) (ha : PM X W a ma) (hb : PM X W b mb) (h1 : behindInMarks .In b = false := by with_unfolding_all rfl) : PM X W (.Compare a [.In] [b] pos) (m2 (dDIn false) ma mb) :=
  ⟨PEimp (pe_cmp (pc_din hu ha.pe hb.pe) h1) fun σ H Q ⟨ρ, sg, h, hst, rh, w⟩ => TM.go hst rh w fun ρ1 H1 h1 v d le rh1 rv w1 => TM.go (hst.mono le) rh1 w1 fun ρ2 H2 h2 v2 d2 le2 rh2 rv2 w2 => dDIn_of rh2 (rv.mono le2) rv2 w2⟩
theorem q_dnotin {a b : Expr} {ma mb : Sg → Mh → R D} (hu : X.A.units + 1 < cLine) (ha : PM X W a ma) (hb : PM X W b mb) (h1 : behindInMarks .NotIn b = false := by with_unfolding_all rfl) : PM X W (.Compare a [.NotIn] [b] pos) (m2 (dDIn true) ma mb) :=
  ⟨PEimp (pe_cmp (pc_dnotin hu ha.pe hb.pe) h1) fun σ H Q ⟨ρ, sg, h, hst, rh, w⟩ => TM.go hst rh w fun ρ1 H1 h1 v d le rh1 rv w1 => TM.go (hst.mono le) rh1 w1 fun ρ2 H2 h2 v2 d2 le2 rh2 rv2 w2 => dDIn_of rh2 (rv.mono le2) rv2 w2⟩
theorem tB_of {m : Sg → Mh → R D} {t : TE} (j : ∀ σ H Q, TM X.K X.mg W m σ H Q → t σ H Q) {σ : L2.St} {H : Hp} {Q : Bool → Hp → Prop} (w : TMb X.K X.mg W (mTest m) σ H Q) : tB t σ H Q := tTest_of j w
theorem t_din {a b : Expr} {ma mb : Sg → Mh → R D} (hu : X.A.units + 1 < cLine) (ha : PM X W a ma) (hb : PM X W b mb) (h1 : behindInMarks .In b = false := by with_unfolding_all rfl) : PB X W (.Compare a [.In] [b] pos) (mTest (m2 (dDIn false) ma mb)) :=
  ⟨PTimp (pt_cmp (pc_din hu ha.pe hb.pe) h1) fun σ H Q w => tB_of (fun σ H Q ⟨ρ, sg, h, hst, rh, w⟩ => TM.go hst rh w fun ρ1 H1 h1 v d le rh1 rv w1 => TM.go (hst.mono le) rh1 w1 fun ρ2 H2 h2 v2 d2 le2 rh2 rv2 w2 => dDIn_of rh2 (rv.mono le2) rv2 w2) w⟩
theorem t_dnotin {a b : Expr} {ma mb : Sg → Mh → R D} (hu : X.A.units + 1 < cLine) (ha : PM X W a ma) (hb : PM X W b mb) (h1 : behindInMarks .NotIn b = false := by with_unfolding_all rfl) : PB X W (.Compare a [.NotIn] [b] pos) (mTest (m2 (dDIn true) ma mb)) :=
  ⟨PTimp (pt_cmp (pc_dnotin hu ha.pe hb.pe) h1) fun σ H Q w => tB_of (fun σ H Q ⟨ρ, sg, h, hst, rh, w⟩ => TM.go hst rh w fun ρ1 H1 h1 v d le rh1 rv w1 => TM.go (hst.mono le) rh1 w1 fun ρ2 H2 h2 v2 d2 le2 rh2 rv2 w2 => dDIn_of rh2 (rv.mono le2) rv2 w2) w⟩
def mDNew : Sg → Mh → R D := fun _ h => .ok (.ref h.length) (h ++ [.dk []])
def mDNewT : Sg → Mh → R D := fun _ h => .ok (.ref h.length) (h ++ [.dt []])
theorem q_dnewT : PM X W (.Dict [] [] pos) mDNewT := ⟨PEimp pe_dnewT fun σ H Q ⟨ρ, sg, h, hst, rh, w⟩ => fun p hp => w.alloc rh hp (.dt upd_same rfl .nil)⟩
theorem q_dnew : PM X W (.Dict [] [] pos) mDNew := ⟨PEimp pe_dnewK fun σ H Q ⟨ρ, sg, h, hst, rh, w⟩ => fun p hp => w.alloc rh hp (.dk upd_same rfl .nil)⟩
end
end Mo

namespace Mo
open PySem PySem.Spec PyProof.Rows L2
section
variable {X : Cx} {W : WX}
/-! ### built-ins -/
def dLen (ds : List D) (h : Mh) : R D := match ds with
  | [.str z] => if z.length ≤ sizeLine then .ok (.int (z.length : Nat)) h else .bad
  | [.tup xs] => .ok (.int (xs.length : Nat)) h
  | [.kt xs] => .ok (.int (xs.length : Nat)) h
  | [.ref n] => match h[n]? with
    | some (.lst xs) => .ok (.int (xs.length : Nat)) h
    | some (.fls xs) => .ok (.int (xs.length : Nat)) h
    | some (.dk kvs) => .ok (.int (kvs.length : Nat)) h
    | some (.dt kvs) => .ok (.int (kvs.length : Nat)) h
    | _ => .bad
  | _ => .bad
def rLen2 (K : PySem.W.Frag) : List V → Hp → VK → Prop := fun xs H Q => ((∃ x n, xs = [x] ∧ LenV K x H n ∧ Q (.int n) H) ∨ ∃ a kvs, xs = [V.ref a] ∧ H a = some (.dK kvs) ∧ Q (.int kvs.length) H) ∨ rLenT xs H Q
theorem call_len2 : CallR X (.builtin "len") (rLen2 X.K) := CallRor (CallRor call_len call_lenD) call_len_dT
theorem sem_len : SemL X (rLen2 X.K) dLen := by
  intro W σ ρ H h Q vs ds rh rvs w
  unfold dLen at w
  split at w
  · split at w
    · rename_i hz
      cases rvs with
      | cons r t =>
        cases t; cases r
        exact .inl <| .inl ⟨_, _, rfl, ⟨hz, rfl⟩, w.okI Le.refl rh (.int _)⟩
    · exact w.elim
  · cases rvs with
    | cons r t =>
      cases t
      cases r with
      | tup t q => exact .inl <| .inl ⟨_, _, rfl, .inr ⟨_, SqT.of t, q.length.symm⟩, w.okI Le.refl rh (.int _)⟩
  · cases rvs with
    | cons r t =>
      cases t
      cases r with
      | kt t q => exact .inl <| .inl ⟨_, _, rfl, .inr ⟨_, t, q.length.symm⟩, w.okI Le.refl rh (.int _)⟩
  · cases rvs with
    | cons r t =>
      cases t
      cases r with
      | ref r =>
        split at w
        · rename_i e0
          cases rh.at r e0 with
          | lst h1 q => exact .inl <| .inl ⟨_, _, rfl, .inl ⟨_, SqL.of h1, q.length.symm⟩, w.okI Le.refl rh (.int _)⟩
        · rename_i e0
          cases rh.at r e0 with
          | fls h1 q => exact .inl <| .inl ⟨_, _, rfl, .inl ⟨_, h1.sq, q.length.symm⟩, w.okI Le.refl rh (.int _)⟩
        · rename_i e0
          cases rh.at r e0 with
          | dk h1 ke q =>
            refine .inl <| .inr ⟨_, _, rfl, h1, ?_⟩
            rw [same_len ke]
            exact w.okI Le.refl rh (.int _)
        · rename_i e0
          cases rh.at r e0 with
          | dt h1 ke q =>
            refine .inr ⟨_, _, rfl, h1, ?_⟩
            rw [same_len ke]
            exact w.okI Le.refl rh (.int _)
        · exact w.elim
  · exact w.elim
def dInt (ds : List D) (h : Mh) : R D := match ds with
  | [.int i] => .ok (.int i) h
  | [.bl b] => .ok (.int (if b = true then 1 else 0)) h
  | [.str z] => match PySem.intText? z with
    | some n => if z.length ≤ 640 then .ok (.int n) h else .bad
    | none => .bad
  | _ => .bad
def rInt : List V → Hp → VK → Prop := fun xs H Q => ((∃ i, xs = [V.int i] ∧ Q (V.int i) H) ∨ ∃ k, xs = [V.bl k] ∧ Q (V.int (if k = true then 1 else 0)) H) ∨ ∃ a n, xs = [.str a] ∧ PySem.intText? a = some n ∧ a.length ≤ 640 ∧ Q (.int n) H
theorem call_int2 : CallR X (.type "int") rInt := CallRor call_int1 call_int_str
theorem sem_int : SemL X rInt dInt := by
  intro W σ ρ H h Q vs ds rh rvs w
  unfold dInt at w
  split at w
  · cases rvs with
    | cons r t => cases t; cases r; exact .inl (.inl ⟨_, rfl, w.okI Le.refl rh (.int _)⟩)
  · cases rvs with
    | cons r t => cases t; cases r; exact .inl (.inr ⟨_, rfl, w.okI Le.refl rh (.int _)⟩)
  · split at w
    · split at w
      · cases rvs with
        | cons r t => cases t; cases r; exact .inr ⟨_, _, rfl, by assumption, by assumption, w.okI Le.refl rh (.int _)⟩
      · exact w.elim
    · exact w.elim
  · exact w.elim
def dStr (ds : List D) (h : Mh) : R D := match ds with
  | [.int i] => if i.natAbs.log2 < 1920 then .ok (.str (Str.ofString (toString i))) h else .bad
  | [.str z] => .ok (.str z) h
  | _ => .bad
def rStr : List V → Hp → VK → Prop := fun xs H Q => (∃ i, xs = [V.int i] ∧ Nat.log2 (Int.natAbs i) < 1920 ∧ Q (V.str (Str.ofString (toString i))) H) ∨ ∃ a, xs = [.str a] ∧ Q (.str a) H
theorem call_str2 : CallR X (.type "str") rStr := CallRor call_str_int SkE.call_str_str
theorem sem_str : SemL X rStr dStr := by
  intro W σ ρ H h Q vs ds rh rvs w
  unfold dStr at w
  split at w
  · split at w
    · cases rvs with
      | cons r t => cases t; cases r; exact .inl ⟨_, rfl, by assumption, w.okI Le.refl rh (.str _)⟩
    · exact w.elim
  · cases rvs with
    | cons r t => cases t; cases r; exact .inr ⟨_, rfl, w.okI Le.refl rh (.str _)⟩
  · exact w.elim
/-- isinstance, built-in types -/
def tyD (d : D) (h : Mh) : Option String := match d with
  | .non => some "NoneType"
  | .bl _ => some "bool"
  | .int _ => some "int"
  | .str _ => some "str"
  | .tup _ => some "tuple"
  | .kt _ => some "tuple"
  | .ref n => match h[n]? with
    | some (.lst _) => some "list"
    | some (.fls _) => some "list"
    | some (.dk _) => some "dict"
    | _ => none
  | _ => none
theorem tyD_of {K mg ρ H h} {v : V} {d : D} {t : String} (rh : RHp K mg ρ H h) (r : RV K mg ρ H v d) (e : tyD d h = some t) : TyX K H v (.type t) := by
  have kT : ∀ {a : Addr} {vs : List V}, SqT K H a vs → TyX K H (.ref a) (.type "tuple") := fun {a vs} t => by
    rcases t with (t | ⟨o, t⟩) | ⟨o, its, n, t, c, _⟩
    · exact .base (.tup t)
    · exact .fTuple t
    · exact .kTuple t c
  cases r with
  | non => cases e; exact .base .non
  | bl b => cases e; exact .base (.bl b)
  | int b => cases e; exact .base (.int b)
  | str b => cases e; exact .base (.str b)
  | ty b => cases e
  | glo b => cases e
  | tup t q => cases e; exact kT (SqT.of t)
  | kt t q => cases e; exact kT t
  | ref r =>
    simp only [tyD] at e
    split at e
    · rename_i e0
      cases e
      cases rh.at r e0 with
      | lst h1 _ => exact .base (.lst h1)
    · rename_i e0
      cases e
      cases rh.at r e0 with
      | fls h1 _ =>
        rcases h1 with ⟨o, h1⟩ | ⟨o, its, n, h1, c, _⟩
        · exact .base (.frz h1)
        · exact .kList h1 c
    · rename_i e0
      cases e
      cases rh.at r e0 with
      | dk h1 _ _ => exact .base (.dK h1)
    · cases e
def isiB (t T : String) : Bool := t == T || (t == "bool" && T == "int")
def knT (t : String) : Bool := t == "NoneType" || t == "bool" || t == "int" || t == "str" || t == "tuple" || t == "list" || t == "dict"
theorem knT_of {t : String} (h : knT t = true) : t = "NoneType" ∨ t = "bool" ∨ t = "int" ∨ t = "str" ∨ t = "tuple" ∨ t = "list" ∨ t = "dict" := by
  unfold knT at h
  simp only [Bool.or_eq_true, beq_iff_eq] at h
  rcases h with (((((h | h) | h) | h) | h) | h) | h <;> simp [h]
theorem kit_all : ∀ t ∈ ["NoneType", "bool", "int", "str", "tuple", "list", "dict"], ∀ T ∈ ["NoneType", "bool", "int", "str", "tuple", "list", "dict"], kitB t T = some (isiB t T) := by decide +kernel
theorem kit_kn {K : PySem.W.Frag} {t T : String} (h : knT t = true) (h' : knT T = true) : PySem.W.kitOne K (.type t) (.type T) = some (isiB t T) := kit_ty (kit_all t (by rcases knT_of h with h | h | h | h | h | h | h <;> simp [h]) T (by rcases knT_of h' with h | h | h | h | h | h | h <;> simp [h]))
theorem tyD_kn {d : D} {h : Mh} {t : String} (e : tyD d h = some t) : knT t = true := by
  unfold tyD at e
  split at e <;> first
    | (cases e; done)
    | (cases e; rfl)
    | (split at e <;> first | (cases e; rfl) | cases e)
def dIsi1 (ds : List D) (h : Mh) : R D := match ds with
  | [x, .ty T] => match tyD x h with
    | some t => if knT T = true then .ok (.bl (isiB t T)) h else .bad
    | none => .bad
  | _ => .bad
theorem sem_isi1 : SemL X (rIsi X.K) dIsi1 := by
  intro W σ ρ H h Q vs ds rh rvs w
  unfold dIsi1 at w
  split at w
  · split at w
    · rename_i t e
      split at w
      · rename_i hk
        cases rvs with
        | cons r tl => cases tl with
          | cons r2 tl =>
            cases tl; cases r2
            exact ⟨_, _, _, _, _, rfl, .ty _, tyD_of rh r e, kit_kn (tyD_kn e) hk, w.okI Le.refl rh (.bl _)⟩
      · exact w.elim
    · exact w.elim
  · exact w.elim
def dIsi2 (T U : String) (x : D) (h : Mh) : R D := match tyD x h with
  | some t => .ok (.bl (isiB t T || isiB t U)) h
  | none => .bad
/-- list(..) -/
def dList (ds : List D) (h : Mh) : R D := match ds with
  | [.tup xs] => .ok (.ref h.length) (h ++ [.lst xs])
  | [.ref n] => match lstOf h n with
    | some xs => .ok (.ref h.length) (h ++ [.lst xs])
    | none => .bad
  | _ => .bad
theorem sem_list : SemL X (fun xs H Q => ∃ p ys, xs = [V.ref p] ∧ (SqL X.K H p ys ∨ SqT X.K H p ys) ∧ ∀ (l : Addr), H l = none → Q (V.ref l) (upd H l (HO.lst ys))) dList := by
  intro W σ ρ H h Q vs ds rh rvs w
  unfold dList at w
  split at w
  · cases rvs with
    | cons r t =>
      cases t
      cases r with
      | tup t q => exact ⟨_, _, rfl, .inr (SqT.of t), fun p hp => w.alloc rh hp (RO.newList hp q)⟩
  · split at w
    · rename_i e0
      cases rvs with
      | cons r t =>
        cases t
        cases r with
        | ref r =>
          obtain ⟨vs, s1, q⟩ := (lstOf_at e0).sq rh r
          exact ⟨_, _, rfl, .inl s1, fun p hp => w.alloc rh hp (RO.newList hp q)⟩
    · exact w.elim
  · exact w.elim
/-- all(..), any(..) of a list of bools -/
def boolsOf : List D → Option (List Bool)
  | [] => some []
  | .bl b :: r => (boolsOf r).map (b :: ·)
  | _ :: _ => none
theorem boolsOf_eq : ∀ {ds : List D} {bs : List Bool}, boolsOf ds = some bs → ds = bs.map D.bl
  | [], bs, e => by cases e; rfl
  | .bl b :: r, bs, e => by
    unfold boolsOf at e
    obtain ⟨cs, e1, e2⟩ := Option.map_eq_some_iff.mp e
    subst e2
    rw [boolsOf_eq e1]; rfl
  | .non :: _, _, e => by cases e
  | .int _ :: _, _, e => by cases e
  | .str _ :: _, _, e => by cases e
  | .tup _ :: _, _, e => by cases e
  | .kt _ :: _, _, e => by cases e
  | .ref _ :: _, _, e => by cases e
  | .ty _ :: _, _, e => by cases e
  | .glo _ :: _, _, e => by cases e
def dAll (f : List Bool → Bool) (ds : List D) (h : Mh) : R D := match ds with
  | [.ref n] => match lstOf h n with
    | some xs => match boolsOf xs with
      | some bs => .ok (.bl (f bs)) h
      | none => .bad
    | none => .bad
  | _ => .bad
theorem sem_all : SemL X (rAll X.K) (dAll fun bs => bs.all id) := by
  intro W σ ρ H h Q vs ds rh rvs w
  unfold dAll at w
  split at w
  · split at w
    · rename_i e0
      split at w
      · rename_i bs eb
        cases rvs with
        | cons r t =>
          cases t
          cases r with
          | ref r =>
            obtain ⟨vs, s1, q⟩ := (lstOf_at e0).sq rh r
            rw [boolsOf_eq eb] at q
            rw [q.bools] at s1
            exact ⟨_, bs, rfl, s1, w.okI Le.refl rh (.bl _)⟩
      · exact w.elim
    · exact w.elim
  · exact w.elim
theorem sem_any : SemL X (rAny X.K) (dAll fun bs => bs.any id) := by
  intro W σ ρ H h Q vs ds rh rvs w
  unfold dAll at w
  split at w
  · split at w
    · rename_i e0
      split at w
      · rename_i bs eb
        cases rvs with
        | cons r t =>
          cases t
          cases r with
          | ref r =>
            obtain ⟨vs, s1, q⟩ := (lstOf_at e0).sq rh r
            rw [boolsOf_eq eb] at q
            rw [q.bools] at s1
            exact ⟨_, bs, rfl, s1, w.okI Le.refl rh (.bl _)⟩
      · exact w.elim
    · exact w.elim
  · exact w.elim
section
variable {p pos : Pos} {e : Expr} {es : List Expr} {ml : Sg → Mh → R (List D)} {a b c : Expr} {ma mb : Sg → Mh → R D}
theorem q_len (hm : X.mg "len" = none) (ha : PL X W [e] ml) (hg : Gl X "len" := by rfl) (he : starEach [e] X.env = (false, eval e X.env) :: starEach [] X.env := by rfl) : PM X W (.Call (.Name "len" p) [e] [] pos) (mBi dLen ml) := q_bi call_len2 sem_len hm ha PySem.boot_len hg (by decide) (by decide) he rfl
theorem q_intc (hm : X.mg "int" = none) (ha : PL X W [e] ml) (hg : Gl X "int" := by rfl) (he : starEach [e] X.env = (false, eval e X.env) :: starEach [] X.env := by rfl) : PM X W (.Call (.Name "int" p) [e] [] pos) (mBi dInt ml) := q_ty call_int2 sem_int hm ha (by decide +kernel) hg (by decide) (by decide) he rfl
theorem q_strc (hm : X.mg "str" = none) (ha : PL X W [e] ml) (hg : Gl X "str" := by rfl) (he : starEach [e] X.env = (false, eval e X.env) :: starEach [] X.env := by rfl) : PM X W (.Call (.Name "str" p) [e] [] pos) (mBi dStr ml) := q_ty call_str2 sem_str hm ha (by decide +kernel) hg (by decide) (by decide) he rfl
theorem q_listc (hm : X.mg "list" = none) (ha : PL X W [e] ml) (hg : Gl X "list" := by rfl) (he : starEach [e] X.env = (false, eval e X.env) :: starEach [] X.env := by rfl) : PM X W (.Call (.Name "list" p) [e] [] pos) (mBi dList ml) := q_ty call_list_of sem_list hm ha (by decide +kernel) hg (by decide) (by decide) he rfl
theorem q_all (hc : X.calm = true) (hm : X.mg "all" = none) (ha : PL X W [e] ml) (hg : Gl X "all" := by rfl) (he : starEach [e] X.env = (false, eval e X.env) :: starEach [] X.env := by rfl) : PM X W (.Call (.Name "all" p) [e] [] pos) (mBi (dAll fun bs => bs.all id) ml) := q_bi (cr_all hc) sem_all hm ha (by decide +kernel) hg (by decide) (by decide) he rfl
/-- isinstance(e, T) -/
theorem q_tyname {n : Str} {T : String} (hm : X.mg n = none) (hv : bootBuiltins n = some (.type T)) (hg : Gl X n := by rfl) (hn : n ≠ "__name__" := by decide) (hd : (n == ("__debug__" : Str)) = false := by decide) : PM X W (.Name n pos) (mLit (.ty T)) := q_lit (pe_bltn (v := .ty T) hg hm hv rfl hn hd) fun _ _ => .ty T
theorem q_isi {n : Str} {T : String} {p2 : Pos} (hm : X.mg "isinstance" = none) (ha : PM X W a ma) (hmn : X.mg n = none) (hv : bootBuiltins n = some (.type T)) (hk : knT T = true := by decide) (hg : Gl X "isinstance" := by rfl) (hgn : Gl X n := by rfl) (hn : n ≠ "__name__" := by decide) (hd : (n == ("__debug__" : Str)) = false := by decide)
    (he : starEach [a, .Name n p2] X.env = (false, eval a X.env) :: starEach [.Name n p2] X.env := by rfl) (he2 : starEach [.Name n p2] X.env = (false, eval (.Name n p2) X.env) :: starEach [] X.env := by rfl) (hpl : (backTo pos (starEach [.Name n p2] X.env)).any (·.1) = false := by rfl) :
    PM X W (.Call (.Name "isinstance" p) [a, .Name n p2] [] pos) (mBi dIsi1 (mCons ma (mCons (mLit (.ty T)) mNil))) := q_bi call_isi sem_isi1 hm (l_cons ha (l_cons (q_tyname hmn hv hgn hn hd) l_nil he2) he) (by decide +kernel) hg (by decide) (by decide) he hpl
theorem q_isi2 {n n' : Str} {T T' : String} {p2 p3 p4 : Pos} {k : Nat} (hm : X.mg "isinstance" = none) (ha : PM X W a ma) (hmn : X.mg n = none) (hv : bootBuiltins n = some (.type T)) (hmn' : X.mg n' = none) (hv' : bootBuiltins n' = some (.type T')) (hk : knT T = true := by decide) (hk' : knT T' = true := by decide)
    (hg : Gl X "isinstance" := by rfl) (hgn : Gl X n := by rfl) (hgn' : Gl X n' := by rfl) (hn : n ≠ "__name__" := by decide) (hd : (n == ("__debug__" : Str)) = false := by decide) (hn' : n' ≠ "__name__" := by decide) (hd' : (n' == ("__debug__" : Str)) = false := by decide)
    (he : starEach [a, .Tuple [.Name n p2, .Name n' p3] k p4] X.env = (false, eval a X.env) :: starEach [.Tuple [.Name n p2, .Name n' p3] k p4] X.env := by rfl) (he2 : starEach [.Tuple [.Name n p2, .Name n' p3] k p4] X.env = (false, eval (.Tuple [.Name n p2, .Name n' p3] k p4) X.env) :: starEach [] X.env := by rfl)
    (he3 : starEach [.Name n p2, .Name n' p3] X.env = (false, eval (.Name n p2) X.env) :: starEach [.Name n' p3] X.env := by rfl) (he4 : starEach [.Name n' p3] X.env = (false, eval (.Name n' p3) X.env) :: starEach [] X.env := by rfl)
    (hpl : (backTo pos (starEach [.Tuple [.Name n p2, .Name n' p3] k p4] X.env)).any (·.1) = false := by rfl) : PM X W (.Call (.Name "isinstance" p) [a, .Tuple [.Name n p2, .Name n' p3] k p4] [] pos) (m1 (dIsi2 T T') ma) :=
  ⟨PEimp (pe_callB call_isiT hg hm (by decide +kernel) (pa_cons ha.pe (pa_cons (pe_tup (pa_cons (pe_bltn (v := .ty T) hgn hmn hv rfl hn hd) (pa_cons (pe_bltn (v := .ty T') hgn' hmn' hv' rfl hn' hd') pa_nil he4) he3)) pa_nil he2) he) (by decide) (by decide) he hpl) fun σ H Q ⟨ρ, sg, h, hs, rh, w⟩ =>
    TM.go hs rh w fun ρ1 H1 h1 v d le rh1 rv w1 => by
      unfold dIsi2 at w1
      split at w1
      · rename_i t e
        refine ⟨(by show 2 ≤ sizeLine; decide), fun p hp => ?_⟩
        have le2 : Le X.K ρ1 H1 ρ1 (upd H1 p (.tup [.ty T, .ty T'])) := Le.new hp
        refine ⟨_, _, _, _, _, _, rfl, upd_same, .cons (.ty T) (.cons (.ty T') .nil), tyD_of (rh1.made hp) (rv.mono le2) e, ?_, w1.okI le2 (rh1.made hp) (.bl _)⟩
        refine kitAny_cons (kit_kn (tyD_kn e) hk) (fun e1 => ?_) (fun e1 => by rw [e1]; rfl)
        rw [e1, Bool.false_or]
        exact kitAny_cons (kit_kn (tyD_kn e) hk') (fun e2 => by rw [e2]; exact kitAny_nil) (fun e2 => e2)
      · exact w1.elim⟩
end
end
end Mo

namespace Mo
open PySem PySem.Spec PyProof.Rows L2
section
variable {X : Cx} {W : WX} {o e : Expr} {es : List Expr} {mo ma : Sg → Mh → R D} {ml : Sg → Mh → R (List D)} {apos pos : Pos}
/-! ### methods of built-in types -/
def isTy (T : String) (d : D) (h : Mh) : Bool := match d with
  | .str _ => T == "str"
  | .ref n => match h[n]? with
    | some (.lst _) => T == "list"
    | some (.fls _) => T == "list"
    | some (.dk _) => T == "dict"
    | _ => false
  | _ => false
theorem isTy_of {K mg ρ H h} {T : String} {v : V} {d : D} (rh : RHp K mg ρ H h) (r : RV K mg ρ H v d) (e : isTy T d h = true) : tyV K T v H := by
  unfold isTy at e
  split at e
  · cases r; exact (by simpa using e : T = "str")
  · cases r with
    | ref r =>
      split at e
      · rename_i e0
        cases rh.at r e0 with
        | lst h1 _ => exact .inl ⟨by simpa using e, _, SqL.of h1⟩
      · rename_i e0
        cases rh.at r e0 with
        | fls h1 _ => exact .inl ⟨by simpa using e, _, h1.sq⟩
      · rename_i e0
        cases rh.at r e0 with
        | dk h1 _ _ => exact .inr (.inr (.inl ⟨by simpa using e, .inl ⟨_, h1⟩⟩))
      · cases e
  · cases e
def mMt (T : String) (f : D → List D → Mh → R D) (mo : Sg → Mh → R D) (ml : Sg → Mh → R (List D)) : Sg → Mh → R D := fun sg h => (mo sg h).bind fun x h1 => if isTy T x h1 = true then (ml sg h1).bind fun ds h2 => f x ds h2 else .bad
def SemMt (X : Cx) (r : V → List V → Hp → VK → Prop) (f : D → List D → Mh → R D) : Prop := ∀ (W : WX) (σ : L2.St) (ρ : Ren) (H : Hp) (h : Mh) (Q : VK) (v : V) (d : D) (vs : List V) (ds : List D), RHp X.K X.mg ρ H h → RV X.K X.mg ρ H v d → RVs X.K X.mg ρ H vs ds → WV X.K X.mg W σ Q ρ H (f d ds h) → r v vs H Q
theorem q_bm {name : Str} {T id : String} {r : V → List V → Hp → VK → Prop} {f : D → List D → Mh → R D} (pa : PlainAttrs T) (slot : Slot T name id) (hty : typeOf (.builtin id) = pure (.type "method_descriptor")) (hm : MtR X id r) (s : SemMt X r f) (ho : PM X W o mo) (ha : PL X W (e :: es) ml)
    (hbase : attributeBase o name X.env (eval o X.env) = eval o X.env := by rfl)
    (hfew : ((backTo pos (starEach (e :: es) X.env)).all (fun x => !x.1) && (backToKw pos (keywordEach [] X.env)).all (fun x => x.1.isSome)
      && decide ((e :: es).length + ([] : List Keyword).length + (if ([] : List Keyword).isEmpty then 0 else 1) < 30)) = true := by rfl)
    (hline : (apos.endLine == pos.line) = true := by rfl) (hs : starEach (e :: es) X.env = (false, eval e X.env) :: starEach es X.env := by rfl) (hplain : (backTo pos (starEach es X.env)).any (·.1) = false := by rfl) :
    PM X W (.Call (.Attribute o name apos) (e :: es) [] pos) (mMt T f mo ml) :=
  ⟨PEimp (pe_bm pa slot hty hm ho.pe ha.pa hbase hfew hline hs hplain) fun σ H Q ⟨ρ, sg, h, hst, rh, w⟩ => TM.go hst rh w fun ρ1 H1 h1 v d le rh1 rv w1 => by
    split at w1
    · rename_i hT
      exact ⟨isTy_of rh1 rv hT, TMl.go (hst.mono le) rh1 w1 fun ρ2 H2 h2 vs ds le2 rh2 rvs w2 => s W σ ρ2 H2 h2 Q v d vs ds rh2 (rv.mono le2) rvs w2⟩
    · exact w1.elim⟩
theorem q_bm0 {name : Str} {T id : String} {r : V → List V → Hp → VK → Prop} {f : D → List D → Mh → R D} (pa : PlainAttrs T) (slot : Slot T name id) (hty : typeOf (.builtin id) = pure (.type "method_descriptor")) (hm : MtR X id r) (s : SemMt X r f) (ho : PM X W o mo)
    (hbase : attributeBase o name X.env (eval o X.env) = eval o X.env := by rfl) (hline : (apos.endLine == pos.line) = true := by rfl) : PM X W (.Call (.Attribute o name apos) [] [] pos) (mMt T f mo mNil) :=
  ⟨PEimp (pe_bm0 pa slot hty hm ho.pe hbase hline) fun σ H Q ⟨ρ, sg, h, hst, rh, w⟩ => TM.go hst rh w fun ρ1 H1 h1 v d le rh1 rv w1 => by
    split at w1
    · rename_i hT
      exact ⟨isTy_of rh1 rv hT, s W σ ρ1 H1 h1 Q v d [] [] rh1 rv .nil w1⟩
    · exact w1.elim⟩
/-- a list is changed -/
theorem WG.wr {K mg W σ Q ρ H h} {n : Nat} {a : Addr} {vs ws : List V} {xs ys : List D} {d : D} {v : V} (w : WV K mg W σ Q ρ H (.ok d (h.set n (.lst ys)))) (rh : RHp K mg ρ H h) (r : ρ[n]? = some a) (e : h[n]? = some (.lst xs)) (hl : H a = some (.lst vs)) (q : RVs K mg ρ H ws ys) (rv : RV K mg ρ H v d) : Q v (upd H a (.lst ws)) :=
  have le : Le K ρ H ρ (upd H a (.lst ws)) := Le.write hl trivial
  w.okI le (rh.write r e rfl rfl hl trivial (.lst upd_same (q.mono le))) (rv.mono le)
def dAppend (x : D) (ds : List D) (h : Mh) : R D := match x, ds with
  | .ref n, [y] => match h[n]? with
    | some (.lst xs) => if xs.length < sizeLine then .ok .non (h.set n (.lst (xs ++ [y]))) else .bad
    | _ => .bad
  | _, _ => .bad
theorem sem_append : SemMt X rAppend dAppend := by
  intro W σ ρ H h Q v d vs ds rh r rvs w
  unfold dAppend at w
  split at w
  · split at w
    · rename_i xs e0
      split at w
      · rename_i hz
        cases rvs with
        | cons ry t =>
          cases t
          cases r with
          | ref r =>
            cases rh.at r e0 with
            | lst hl q => exact ⟨_, _, _, rfl, rfl, hl, by rw [q.length]; exact hz, w.wr rh r e0 hl (q.append (.cons ry .nil)) .non⟩
      · exact w.elim
    · exact w.elim
  · exact w.elim
def dReverse (x : D) (ds : List D) (h : Mh) : R D := match x, ds with
  | .ref n, [] => match h[n]? with
    | some (.lst xs) => .ok .non (h.set n (.lst xs.reverse))
    | _ => .bad
  | _, _ => .bad
theorem sem_reverse : SemMt X rReverse dReverse := by
  intro W σ ρ H h Q v d vs ds rh r rvs w
  unfold dReverse at w
  split at w
  · split at w
    · rename_i xs e0
      cases rvs
      cases r with
      | ref r =>
        cases rh.at r e0 with
        | lst hl q => exact ⟨_, _, rfl, rfl, hl, w.wr rh r e0 hl q.reverse .non⟩
    · exact w.elim
  · exact w.elim
def dPopAt (x : D) (ds : List D) (h : Mh) : R D := match x, ds with
  | .ref n, [.int i] => match h[n]? with
    | some (.lst xs) => if -(2 ^ 63) ≤ i ∧ i < 2 ^ 63 then match seqIndex? i xs.length with
      | some k => match xs[k]? with
        | some y => .ok y (h.set n (.lst (xs.eraseIdx k)))
        | none => .bad
      | none => .bad else .bad
    | _ => .bad
  | _, _ => .bad
theorem sem_popAt : SemMt X rPopAt dPopAt := by
  intro W σ ρ H h Q v d vs ds rh r rvs w
  unfold dPopAt at w
  split at w
  · split at w
    · rename_i xs e0
      split at w
      · rename_i hz
        split at w
        · rename_i k ek
          split at w
          · rename_i y ey
            cases rvs with
            | cons ry t =>
              cases t; cases ry
              cases r with
              | ref r =>
                cases rh.at r e0 with
                | lst hl q =>
                  obtain ⟨v, ev, rv⟩ := q.get ey
                  exact ⟨_, _, _, k, v, rfl, rfl, hl, hz.1, hz.2, by rw [q.length]; exact ek, ev, w.wr rh r e0 hl (q.eraseIdx k) rv⟩
          · exact w.elim
        · exact w.elim
      · exact w.elim
    · exact w.elim
  · exact w.elim
theorem RVs.dropLast {K mg ρ H} {vs : List V} {ds : List D} (r : RVs K mg ρ H vs ds) : RVs K mg ρ H vs.dropLast ds.dropLast := by
  rw [List.dropLast_eq_take, List.dropLast_eq_take, r.length]
  exact r.take _
def dPop (x : D) (ds : List D) (h : Mh) : R D := match x, ds with
  | .ref n, [] => match h[n]? with
    | some (.lst xs) => match xs[xs.length - 1]? with
      | some y => .ok y (h.set n (.lst xs.dropLast))
      | none => .bad
    | _ => .bad
  | _, _ => .bad
theorem sem_pop : SemMt X rPop dPop := by
  intro W σ ρ H h Q v d vs ds rh r rvs w
  unfold dPop at w
  split at w
  · split at w
    · rename_i xs e0
      split at w
      · rename_i y ey
        cases rvs
        cases r with
        | ref r =>
          cases rh.at r e0 with
          | lst hl q =>
            obtain ⟨v, ev, rv⟩ := q.get ey
            exact ⟨_, _, v, rfl, rfl, hl, by rw [q.length]; exact ev, w.wr rh r e0 hl q.dropLast rv⟩
      · exact w.elim
    · exact w.elim
  · exact w.elim
def strsOf : List D → Option (List Str)
  | [] => some []
  | .str b :: r => (strsOf r).map (b :: ·)
  | _ :: _ => none
theorem strsOf_eq : ∀ {ds : List D} {bs : List Str}, strsOf ds = some bs → ds = bs.map D.str
  | [], bs, e => by cases e; rfl
  | .str b :: r, bs, e => by
    unfold strsOf at e
    obtain ⟨cs, e1, e2⟩ := Option.map_eq_some_iff.mp e
    subst e2
    rw [strsOf_eq e1]; rfl
  | .non :: _, _, e => by cases e
  | .int _ :: _, _, e => by cases e
  | .bl _ :: _, _, e => by cases e
  | .tup _ :: _, _, e => by cases e
  | .kt _ :: _, _, e => by cases e
  | .ref _ :: _, _, e => by cases e
  | .ty _ :: _, _, e => by cases e
  | .glo _ :: _, _, e => by cases e
def dJoin (x : D) (ds : List D) (h : Mh) : R D := match x, ds with
  | .str a, [.ref n] => match lstOf h n with
    | some xs => match strsOf xs with
      | some ys => if (ys.map (·.length)).sum + ys.length * a.length ≤ 16777216 then .ok (.str (Txt.join a ys)) h else .bad
      | none => .bad
    | none => .bad
  | _, _ => .bad
def rJoin (K : PySem.W.Frag) : V → List V → Hp → VK → Prop := fun x xs H Q => ∃ a p, ∃ ys : List Str, x = .str a ∧ xs = [.ref p] ∧ (SqL K H p (ys.map V.str) ∨ SqT K H p (ys.map V.str)) ∧ (ys.map (·.length)).sum + ys.length * a.length ≤ 16777216 ∧ Q (.str (Txt.join a ys)) H
theorem sem_join : SemMt X (rJoin X.K) dJoin := by
  intro W σ ρ H h Q v d vs ds rh r rvs w
  unfold dJoin at w
  split at w
  · split at w
    · rename_i xs e0
      split at w
      · rename_i ys es
        split at w
        · rename_i hz
          cases r
          cases rvs with
          | cons ry t =>
            cases t
            cases ry with
            | ref ry =>
              obtain ⟨vs, s1, q⟩ := (lstOf_at e0).sq rh ry
              rw [strsOf_eq es] at q
              rw [q.strs] at s1
              exact ⟨_, _, ys, rfl, rfl, .inl s1, hz, w.okI Le.refl rh (.str _)⟩
        · exact w.elim
      · exact w.elim
    · exact w.elim
  · exact w.elim
end
section
variable {X : Cx} {W : WX} {o a : Expr} {mo ma : Sg → Mh → R D} {apos pos : Pos}
theorem q_append (ho : PM X W o mo) (ha : PM X W a ma) (hbase : attributeBase o "append" X.env (eval o X.env) = eval o X.env := by rfl) (hline : (apos.endLine == pos.line) = true := by rfl) (hs : starEach [a] X.env = (false, eval a X.env) :: starEach [] X.env := by rfl)
    (hfew : ((backTo pos (starEach [a] X.env)).all (fun x => !x.1) && (backToKw pos (keywordEach [] X.env)).all (fun x => x.1.isSome)
      && decide ([a].length + ([] : List Keyword).length + (if ([] : List Keyword).isEmpty then 0 else 1) < 30)) = true := by rfl) :
    PM X W (.Call (.Attribute o "append" apos) [a] [] pos) (mMt "list" dAppend mo (mCons ma mNil)) := q_bm PySem.F.plainAttrs_list PySem.F.slot_list_append PySem.F.type_list_append mt_append sem_append ho (l_cons ha l_nil hs) hbase hfew hline hs rfl
theorem q_popAt (ho : PM X W o mo) (ha : PM X W a ma) (hbase : attributeBase o "pop" X.env (eval o X.env) = eval o X.env := by rfl) (hline : (apos.endLine == pos.line) = true := by rfl) (hs : starEach [a] X.env = (false, eval a X.env) :: starEach [] X.env := by rfl)
    (hfew : ((backTo pos (starEach [a] X.env)).all (fun x => !x.1) && (backToKw pos (keywordEach [] X.env)).all (fun x => x.1.isSome)
      && decide ([a].length + ([] : List Keyword).length + (if ([] : List Keyword).isEmpty then 0 else 1) < 30)) = true := by rfl) :
    PM X W (.Call (.Attribute o "pop" apos) [a] [] pos) (mMt "list" dPopAt mo (mCons ma mNil)) := q_bm PySem.F.plainAttrs_list PySem.F.slot_list_pop PySem.F.type_list_pop mt_popAt sem_popAt ho (l_cons ha l_nil hs) hbase hfew hline hs rfl
theorem q_join (ho : PM X W o mo) (ha : PM X W a ma) (hbase : attributeBase o "join" X.env (eval o X.env) = eval o X.env := by rfl) (hline : (apos.endLine == pos.line) = true := by rfl) (hs : starEach [a] X.env = (false, eval a X.env) :: starEach [] X.env := by rfl)
    (hfew : ((backTo pos (starEach [a] X.env)).all (fun x => !x.1) && (backToKw pos (keywordEach [] X.env)).all (fun x => x.1.isSome)
      && decide ([a].length + ([] : List Keyword).length + (if ([] : List Keyword).isEmpty then 0 else 1) < 30)) = true := by rfl) :
    PM X W (.Call (.Attribute o "join" apos) [a] [] pos) (mMt "str" dJoin mo (mCons ma mNil)) := q_bm PySem.F.plainAttrs_str PySem.F.slot_str_join PySem.F.type_str_join mt_join sem_join ho (l_cons ha l_nil hs) hbase hfew hline hs rfl
theorem q_pop0 (ho : PM X W o mo) (hbase : attributeBase o "pop" X.env (eval o X.env) = eval o X.env := by rfl) (hline : (apos.endLine == pos.line) = true := by rfl) : PM X W (.Call (.Attribute o "pop" apos) [] [] pos) (mMt "list" dPop mo mNil) := q_bm0 PySem.F.plainAttrs_list PySem.F.slot_list_pop PySem.F.type_list_pop mt_pop sem_pop ho hbase hline
theorem q_reverse (ho : PM X W o mo) (hbase : attributeBase o "reverse" X.env (eval o X.env) = eval o X.env := by rfl) (hline : (apos.endLine == pos.line) = true := by rfl) : PM X W (.Call (.Attribute o "reverse" apos) [] [] pos) (mMt "list" dReverse mo mNil) := q_bm0 PySem.F.plainAttrs_list PySem.F.slot_list_reverse PySem.F.type_list_reverse mt_reverse sem_reverse ho hbase hline
end
end Mo

namespace Mo
open PySem PySem.Spec PyProof.Rows L2
/-! ### texts in order -/
theorem lt_irr : ∀ a : List Nat, ltCps a a = false
  | [] => rfl
  | x :: a => by simp [ltCps, lt_irr a]
theorem ge_trans : ∀ a b c : List Nat, ltCps b a = false → ltCps c b = false → ltCps c a = false
  | [], _, c, _, _ => by cases c <;> rfl
  | x :: a, [], _, h, _ => by cases h
  | x :: a, y :: b, [], _, h => by cases h
  | x :: a, y :: b, z :: c, h1, h2 => by
    simp only [ltCps, Bool.or_eq_false_iff, decide_eq_false_iff_not, Bool.and_eq_false_imp, beq_iff_eq] at h1 h2 ⊢
    refine ⟨by omega, fun e => ?_⟩
    subst e
    have e1 : y = z := by omega
    subst e1
    exact ge_trans a b c (h1.2 rfl) (h2.2 rfl)
theorem ge_anti : ∀ a b : List Nat, ltCps b a = false → ltCps a b = false → a = b
  | [], [], _, _ => rfl
  | [], _ :: _, _, h => by cases h
  | _ :: _, [], h, _ => by cases h
  | x :: a, y :: b, h1, h2 => by
    simp only [ltCps, Bool.or_eq_false_iff, decide_eq_false_iff_not, Bool.and_eq_false_imp, beq_iff_eq] at h1 h2
    have e1 : x = y := by omega
    subst e1
    rw [ge_anti a b (h1.2 rfl) (h2.2 rfl)]
theorem ge_total : ∀ a b : List Nat, ltCps b a = false ∨ ltCps a b = false
  | [], b => .inl (by cases b <;> rfl)
  | _ :: _, [] => .inr rfl
  | x :: a, y :: b => by
    simp only [ltCps, Bool.or_eq_false_iff, decide_eq_false_iff_not, Bool.and_eq_false_imp, beq_iff_eq]
    by_cases h : x = y
    · subst h
      rcases ge_total a b with h | h
      · exact .inl ⟨by omega, fun _ => h⟩
      · exact .inr ⟨by omega, fun _ => h⟩
    · by_cases h' : x < y
      · exact .inl ⟨by omega, fun e => absurd e.symm h⟩
      · exact .inr ⟨by omega, fun e => absurd e h⟩
def leS (a b : Str) : Bool := !ltCps b.cps.toList a.cps.toList
theorem leS_iff {a b : Str} : leS a b = true ↔ ltCps b.cps.toList a.cps.toList = false := by unfold leS; simp
def sortS (ks : List Str) : List Str := ks.mergeSort leS
theorem rising_all : ∀ (l : List Str) (p : Str), risingS p l = true → ∀ x ∈ l, leS p x = true
  | [], _, _, _, h => by cases h
  | y :: l, p, h, x, hx => by
    unfold risingS at h
    rw [Bool.and_eq_true] at h
    have h1 : leS p y = true := h.1
    rcases List.mem_cons.mp hx with rfl | hx
    · exact h1
    · have h2 := rising_all l y h.2 x hx
      rw [leS_iff] at h1 h2 ⊢
      exact ge_trans _ _ _ h1 h2
theorem rising_pair : ∀ (l : List Str) (p : Str), risingS p l = true → (p :: l).Pairwise fun a b => leS a b = true
  | [], p, _ => List.pairwise_singleton _ _
  | y :: l, p, h => by
    refine List.pairwise_cons.mpr ⟨rising_all _ _ h, ?_⟩
    unfold risingS at h
    rw [Bool.and_eq_true] at h
    exact rising_pair l y h.2
theorem sorted_pair (l : List Str) (h : sortedS l = true) : l.Pairwise fun a b => leS a b = true := by
  cases l with
  | nil => exact List.Pairwise.nil
  | cons x r => exact rising_pair r x h
theorem sortS_uniq {ys ks : List Str} (p : ys.Perm ks) (s : sortedS ys = true) : ys = sortS ks := by
  refine List.Perm.eq_of_pairwise (le := fun a b => leS a b = true) (fun a b _ _ h1 h2 => ?_) (sorted_pair ys s) ?_ (p.trans (List.mergeSort_perm ks leS).symm)
  · rw [leS_iff] at h1 h2
    cases a; cases b
    congr 1
    exact Array.toList_inj.mp (ge_anti _ _ h1 h2)
  · exact List.pairwise_mergeSort (fun a b c h1 h2 => by rw [leS_iff] at h1 h2 ⊢; exact ge_trans _ _ _ h1 h2) (fun a b => by
      rw [Bool.or_eq_true, leS_iff, leS_iff]
      exact ge_total _ _) ks
def keysS : List (Key × D) → Option (List Str)
  | [] => some []
  | (.inr x, _) :: r => (keysS r).map (x :: ·)
  | (.inl _, _) :: _ => none
theorem keysS_eq : ∀ {kds : List (Key × D)} {ks : List Str}, keysS kds = some ks → kds.map (·.1) = ks.map Sum.inr
  | [], ks, e => by cases e; rfl
  | (.inr x, d) :: r, ks, e => by
    unfold keysS at e
    obtain ⟨cs, e1, e2⟩ := Option.map_eq_some_iff.mp e
    subst e2
    rw [List.map_cons, keysS_eq e1]; rfl
  | (.inl x, d) :: r, ks, e => by cases e
def dSortedD (ds : List D) (h : Mh) : R D := match ds with
  | [.ref n] => match h[n]? with
    | some (.dk kvs) => match keysS kvs with
      | some ks => if ks.length < 64 then .ok (.ref h.length) (h ++ [.lst ((sortS ks).map D.str)]) else .bad
      | none => .bad
    | _ => .bad
  | _ => .bad
section
variable {X : Cx} {W : WX} {e : Expr} {ml : Sg → Mh → R (List D)} {p pos : Pos}
theorem sem_sortedD : SemL X (fun xs H Q => ∃ (a : Addr) (kvs : List (Key × V)) (ks : List Str), xs = [.ref a] ∧ Rd H a (.dK kvs) ∧ kvs.map (·.1) = ks.map Sum.inr ∧ ks.length < 64 ∧ ∀ ys p, ys.Perm ks → sortedS ys = true → H p = none → Q (.ref p) (upd H p (.lst (ys.map V.str)))) dSortedD := by
  intro W σ ρ H h Q vs ds rh rvs w
  unfold dSortedD at w
  split at w
  · split at w
    · rename_i e0
      split at w
      · rename_i ks ek
        split at w
        · rename_i hz
          cases rvs with
          | cons r t =>
            cases t
            cases r with
            | ref r =>
              cases rh.at r e0 with
              | @dk kvs _ hl ke q =>
                refine ⟨_, kvs, ks, rfl, .inl hl, ke.trans (keysS_eq ek), hz, fun ys p hp hs hn => ?_⟩
                rw [sortS_uniq hp hs]
                exact w.alloc rh hn (RO.newList hn (RVs.ofStrs _))
        · exact w.elim
      · exact w.elim
    · exact w.elim
  · exact w.elim
theorem q_sortedD (hc : X.calm = true) (hm : X.mg "sorted" = none) (ha : PL X W [e] ml) (hg : Gl X "sorted" := by rfl) (he : starEach [e] X.env = (false, eval e X.env) :: starEach [] X.env := by rfl) : PM X W (.Call (.Name "sorted" p) [e] [] pos) (mBi dSortedD ml) := q_bi (call_sortedD hc) sem_sortedD hm ha (by decide +kernel) hg (by decide) (by decide) he rfl
end
/-! ### three at once -/
def sPar3 (i j l : Nat) (ml : Sg → Mh → R (List D)) : Sg → Mh → RS := fun sg h => (ml sg h).th sg fun ds h1 => match ds with
  | [p, q, r] => .nx (((sg.set i (some p)).set j (some q)).set l (some r)) h1
  | _ => .bad
section
variable {X : Cx} {W : WX} {a b c : Expr} {pos : Pos}
theorem s_par3 (i j l : Nat) {x y z : Str} {px py pz pt pt2 : Pos} {kt k2} {ml : Sg → Mh → R (List D)} (hN : X.N.Nodup) (ha : PL X W [a, b, c] ml) (hc : X.calm = true := by rfl) (hi : X.N[i]? = some x := by rfl) (hj : X.N[j]? = some y := by rfl) (hl : X.N[l]? = some z := by rfl) (hij : i ≠ j := by decide) (hil : i ≠ l := by decide) (hjl : j ≠ l := by decide)
    (hx : X.env.scope.names.lookup x = some .local := by rfl) (hy : X.env.scope.names.lookup y = some .local := by rfl) (hz : X.env.scope.names.lookup z = some .local := by rfl)
    (hw : swappedStores [.Tuple [.Name x px, .Name y py, .Name z pz] kt pt] (.Tuple [a, b, c] k2 pt2) X.env = pure (some [x, y, z]) := by rfl)
    (hs : swapsWithSole [.Tuple [.Name x px, .Name y py, .Name z pz] kt pt] (.Tuple [a, b, c] k2 pt2) pos.line X.env = pure false := by rfl) : PSM X W (.Assign [.Tuple [.Name x px, .Name y py, .Name z pz] kt pt] (.Tuple [a, b, c] k2 pt2) pos) (sPar3 i j l ml) :=
  ⟨PSimp (ps_par3 hc hN hi hj hl hij hil hjl hx hy hz ha.pa hw hs) fun E σ H ⟨ρ, sg, h, hs, rh, w⟩ => TMl.goS hs rh w fun ρ1 H1 h1 vs ds le rh1 rvs w1 => by
    split at w1
    · cases rvs with
      | cons r1 t => cases t with
        | cons r2 t => cases t with
          | cons r3 t =>
            cases t
            exact ⟨_, _, _, rfl, w1.nxI Le.refl rh1 ((((hs.mono le).set i r1).set j r2).set l r3)⟩
    · exact w1.elim⟩
/-! ### calls by keywords alone, in the parameters' order -/
def KwB (K : PySem.W.Frag) (fd : FuncData) (ps : List Str) : Prop := ∀ (s : Shared) (us : List Value), K.In s.heap → us.length = ps.length → BindsTo s fd ⟨[], ps.zip us⟩ (ps.zip us)
theorem Fun_kwb {K : PySem.W.Frag} {x qual : Str} {st : Stmt} {f : Addr} {fd : FuncData} {ps : List Str} (F : Fun K x qual st f fd)
    (h : ∀ (kV doc pm : Value) (an : Option Addr) (cdv ct : Value) (us : List Value), us.length = ps.length → bindArgs (PySem.W.fnOf x qual (defArgs st) (defBody st) (defScope st) .none kV doc pm an cdv ct) ⟨[], ps.zip us⟩ = pure (ps.zip us)) : KwB K fd ps := by
  obtain ⟨oc, od, kV, doc, pm, an, cdv, ct, osl, rfl, lk, hcd⟩ := F.ex
  exact fun s us _ hl => .of_eq (h kV doc pm an cdv ct us hl)
structure PKM (X : Cx) (W : WX) (kws : List Keyword) (m : Sg → Mh → R (List D)) : Prop where
  pk : PK X kws (TMl X.K X.mg W m)
theorem PKimp {X : Cx} {e : List Keyword} {t t' : TA} (h : PK X e t) (i : ∀ σ H Q, t' σ H Q → t σ H Q) : PK X e t' := ⟨fun pos pins s σ H Q I hw => h.run pos pins s σ H Q I (i _ _ _ hw)⟩
theorem k_nil : PKM X W [] mNil := ⟨PKimp pk_nil fun σ H Q ⟨ρ, sg, h, hs, rh, w⟩ => w.okI Le.refl rh .nil⟩
theorem k_cons {e : Expr} {kws : List Keyword} {nm : Option Str} {kpos : Pos} {m : Sg → Mh → R D} {r : Sg → Mh → R (List D)} (he : PM X W e m) (hr : PKM X W kws r) : PKM X W (⟨nm, e, kpos⟩ :: kws) (mCons m r) :=
  ⟨PKimp (pk_cons he.pe hr.pk) fun σ H Q ⟨ρ, sg, h, hs, rh, w⟩ => TM.go hs rh w fun ρ1 H1 h1 v d le rh1 rv w1 => TMl.go (hs.mono le) rh1 w1 fun ρ2 H2 h2 vs ds le2 rh2 rvs w2 => w2.okI Le.refl rh2 (.cons (rv.mono le2) rvs)⟩
variable {k np : Nat} {f : Addr} {fd : FuncData} {ps : List Str} {fm : FM} {x : Str} {p : Pos} {kws : List Keyword} {ml : Sg → Mh → R (List D)}
theorem q_callK (F : FnOk X.prog X.w X.K X.mg X.base (L2.CX X.prog X.w) k f fd ps (spM X.K X.mg np fm)) (hr : Room k X.A) (tk : Takes X W) (hm : X.mg x = some (.ref f)) (hk : PySem.W.keepIn X.K (.ref f) = true) (hb : KwB X.K fd ps) (ha : PKM X W kws ml)
    (hall : (backToKw pos (keywordEach kws X.env)).all (·.1.isSome) = true := by rfl) (hks : (backToKw pos (keywordEach kws X.env)).filterMap (·.1) = ps := by rfl) (hg : Gl X x := by rfl) (hdb : (x == ("__debug__" : Str)) = false := by decide)
    (hpl : ((backTo pos (starEach [] X.env)).any (·.1) || (backToKw pos (keywordEach kws X.env)).any (·.1.isNone)) = false := by rfl) : PM X W (.Call (.Name x p) [] kws pos) (mCall np fm ml []) := by
  refine ⟨⟨fun pins s σ H Q I h => ?_⟩⟩
  refine wpAny_Call_Name_kw (ld_glob I hg hm ?_ hdb)
  refine PySem.W.callWith_KW0 (h₀ := X.base) I.ok.mod.kin hk hall ?_ hpl
  obtain ⟨ρ, sg, h, hs, rh, w⟩ := h
  refine thn (ha.pk.run pos pins s σ H (fun vs H1 => spM X.K X.mg np fm vs H1 Q (WE W σ)) I (TMl.go hs rh w fun ρ1 H1 h1 vs ds le rh1 rvs w1 => by
    split at w1
    · rename_i hl
      rw [List.append_nil] at hl w1
      exact ⟨by rw [rvs.length]; exact hl, ρ1, _, h1, rvs, rh1, w1.wx fun _ _ _ z => z⟩
    · exact w1.elim)) fun us s2 ⟨vs, H2, I2, r, q2⟩ => ⟨I2.kIn, ?_⟩
  rw [hks]
  have hl : us.length = ps.length := by rw [← r.length]; exact F.len _ _ _ _ q2
  refine wpAny_call (codeAny_mono (F.run X.A X.stack s2 H2 ⟨[], ps.zip us⟩ us vs Q (WE W σ) hr I2.env0 (hb s2 us I2.kIn hl) r q2) fun r s' hq => ?_)
  cases r with
  | error e => exact passAt tk σ pins H2 s2 e s' I2 hq
  | ok fl =>
    cases fl with
    | ret u => exact I2.after hq
    | next => exact False.elim hq
    | brk => exact False.elim hq
    | cont => exact False.elim hq
end
theorem bt_int : bootBuiltins "int" = some (.type "int") := by decide +kernel
theorem bt_str : bootBuiltins "str" = some (.type "str") := by decide +kernel
theorem bt_bool : bootBuiltins "bool" = some (.type "bool") := by decide +kernel
theorem bt_list : bootBuiltins "list" = some (.type "list") := by decide +kernel
theorem bt_tuple : bootBuiltins "tuple" = some (.type "tuple") := by decide +kernel
theorem bt_dict : bootBuiltins "dict" = some (.type "dict") := by decide +kernel
/-! ### dict displays -/
def mPNil : Sg → Mh → R (List (D × D)) := fun _ h => .ok [] h
def mPCons (a b : Sg → Mh → R D) (r : Sg → Mh → R (List (D × D))) : Sg → Mh → R (List (D × D)) := fun sg h => (a sg h).bind fun x h1 => (b sg h1).bind fun y h2 => (r sg h2).bind fun ps h3 => .ok ((x, y) :: ps) h3
def keyPs : List (D × D) → Option (List (Key × D))
  | [] => some []
  | (k, d) :: r => match keyD k, keyPs r with
    | some k, some r => some ((k, d) :: r)
    | _, _ => none
def mergeD (kvs more : List (Key × D)) : List (Key × D) := more.foldl (fun acc kv => putD acc kv.1 kv.2) kvs
def mDisp (r : Sg → Mh → R (List (D × D))) : Sg → Mh → R D := fun sg h => (r sg (h ++ [.dk []])).bind fun ps h2 => match h2[h.length]?, keyPs ps with
  | some (.dk []), some kvs => if kvs.length ≤ 15 then .ok (.ref h.length) (h2.set h.length (.dk (mergeD [] kvs))) else .bad
  | _, _ => .bad
inductive RPs (K : PySem.W.Frag) (mg : Str → Option Value) (ρ : Ren) (H : Hp) : List (V × V) → List (D × D) → Prop
  | nil : RPs K mg ρ H [] []
  | cons {a b : V} {x y : D} {vs : List (V × V)} {ds : List (D × D)} : RV K mg ρ H a x → RV K mg ρ H b y → RPs K mg ρ H vs ds → RPs K mg ρ H ((a, b) :: vs) ((x, y) :: ds)
theorem RPs.mono {K mg ρ H ρ' H'} (le : Le K ρ H ρ' H') : ∀ {vs : List (V × V)} {ds : List (D × D)}, RPs K mg ρ H vs ds → RPs K mg ρ' H' vs ds
  | _, _, .nil => .nil
  | _, _, .cons a b t => .cons (a.mono le) (b.mono le) (RPs.mono le t)
structure PPM (X : Cx) (W : WX) (pos : Pos) (keys : List (Option Expr)) (values : List Expr) (m : Sg → Mh → R (List (D × D))) : Prop where
  ex : ∃ trs : List (TE × TE), PPs X pos keys values trs ∧ ∀ σ H Q, (∃ ρ sg h, RSt X.K X.mg ρ H σ sg ∧ RHp X.K X.mg ρ H h ∧ WG X.K X.mg (RPs X.K X.mg) W σ Q ρ H (m sg h)) → tPairs trs σ H Q
section
variable {X : Cx} {W : WX} {pos : Pos} {keys : List (Option Expr)} {values : List Expr} {mr : Sg → Mh → R (List (D × D))}
theorem d_nil : PPM X W pos [] [] mPNil := ⟨[], pps_nil, fun σ H Q ⟨ρ, sg, h, hs, rh, w⟩ => w.okI Le.refl rh .nil⟩
theorem d_cons {a b : Expr} {ma mb : Sg → Mh → R D} (ha : PM X W a ma) (hb : PM X W b mb) (hr : PPM X W pos keys values mr) : PPM X W pos (some a :: keys) (b :: values) (mPCons ma mb mr) := by
  obtain ⟨trs, h1, h2⟩ := hr.ex
  refine ⟨_, pps_cons ha.pe hb.pe h1, fun σ H Q ⟨ρ, sg, h, hs, rh, w⟩ => ?_⟩
  refine TM.go hs rh w fun ρ1 H1 hh1 v d le rh1 rv w1 => TM.go (hs.mono le) rh1 w1 fun ρ2 H2 hh2 v2 d2 le2 rh2 rv2 w2 => h2 σ H2 _ ⟨ρ2, sg, hh2, (hs.mono le).mono le2, rh2, w2.cut fun ρ3 H3 hh3 vs ds le3 rh3 rps w3 => ?_⟩
  exact w3.okI Le.refl rh3 (.cons (rv.mono (le2.trans le3)) (rv2.mono le3) rps)
theorem keyPs_of {K mg ρ H} : ∀ {vs : List (V × V)} {ds : List (D × D)} {kds : List (Key × D)}, RPs K mg ρ H vs ds → keyPs ds = some kds → ∃ kvs : List (Key × V), vs = kvs.map (fun kv => (kV kv.1, kv.2)) ∧ kvs.map (·.1) = kds.map (·.1) ∧ RVs K mg ρ H (kvs.map (·.2)) (kds.map (·.2)) ∧ kvs.length = kds.length
  | _, _, _, .nil, e => by cases e; exact ⟨[], rfl, rfl, .nil, rfl⟩
  | _, _, _, .cons ra rb t, e => by
    unfold keyPs at e
    split at e
    · rename_i k r e1 e2
      cases e
      obtain ⟨kvs, i1, i2, i3, i4⟩ := keyPs_of t e2
      refine ⟨(k, _) :: kvs, ?_, ?_, .cons rb i3, congrArg (· + 1) i4⟩
      · rw [key_of ra e1, i1]; rfl
      · rw [List.map_cons, List.map_cons, i2]
    · cases e
theorem merge_of {K mg ρ H} : ∀ {more : List (Key × V)} {moreD : List (Key × D)} {kvs : List (Key × V)} {kds : List (Key × D)}, more.map (·.1) = moreD.map (·.1) → RVs K mg ρ H (more.map (·.2)) (moreD.map (·.2)) → kvs.map (·.1) = kds.map (·.1) → RVs K mg ρ H (kvs.map (·.2)) (kds.map (·.2)) →
    (mergeK kvs more).map (·.1) = (mergeD kds moreD).map (·.1) ∧ RVs K mg ρ H ((mergeK kvs more).map (·.2)) ((mergeD kds moreD).map (·.2))
  | [], [], _, _, _, _, e, r => ⟨e, r⟩
  | [], _ :: _, _, _, e, _, _, _ => by cases e
  | _ :: _, [], _, _, e, _, _, _ => by cases e
  | p :: more, q :: moreD, kvs, kds, e, r, e', r' => by
    have e1 : p.1 = q.1 := (List.cons.inj e).1
    cases r with
    | cons r1 t =>
      obtain ⟨p1, p2⟩ := put_of (k := q.1) r1 e' r'
      have := merge_of (List.cons.inj e).2 t p1 p2
      unfold mergeK mergeD at this ⊢
      rw [List.foldl_cons, List.foldl_cons, e1]
      exact this
theorem q_disp (h : PPM X W pos keys values mr) (hall : keys.all (·.isSome) = true := by rfl) (hl : keys.length = values.length := by rfl) (h0 : keys ≠ [] := by intro z; cases z) (h15 : keys.length ≤ 15 := by decide) : PM X W (.Dict keys values pos) (mDisp mr) := by
  obtain ⟨trs, h1, h2⟩ := h.ex
  refine ⟨PEimp (pe_disp h1 hall hl h0 h15) fun σ H Q ⟨ρ, sg, h, hs, rh, w⟩ => fun p hp => ?_⟩
  have rh1 : RHp X.K X.mg (ρ ++ [p]) (upd H p (.dK [])) (h ++ [.dk []]) := rh.grow hp (.dk upd_same rfl .nil)
  have le1 : Le X.K ρ H (ρ ++ [p]) (upd H p (.dK [])) := Le.grow hp
  have hn : (ρ ++ [p])[h.length]? = some p := rh.at_new
  refine h2 σ _ _ ⟨_, sg, _, hs.mono le1, rh1, (w.mono le1).cut fun ρ2 H2 hh2 vs ds le2 rh2 rps w2 => ?_⟩
  split at w2
  · rename_i kds e0 ek
    split at w2
    · rename_i hz
      have hn2 := le2.pre _ _ hn
      cases rh2.at hn2 e0 with
      | @dk kvs0 _ hl0 ke q =>
        have z : kvs0 = [] := by cases kvs0 with
          | nil => rfl
          | cons _ _ => cases ke
        subst z
        obtain ⟨kvs, i1, i2, i3, i4⟩ := keyPs_of rps ek
        obtain ⟨p1, p2⟩ := merge_of (kvs := []) (kds := []) i2 i3 rfl .nil
        have le4 : Le X.K ρ2 H2 ρ2 (upd H2 p (.dK (mergeK [] kvs))) := Le.write hl0 trivial
        exact ⟨hl0, kvs, i1, by rw [i4]; exact hz, w2.okI le4 (rh2.write hn2 e0 rfl rfl hl0 trivial (.dk upd_same p1 (p2.mono le4))) (.ref (le4.pre _ _ hn2))⟩
    · exact w2.elim
  · exact w2.elim
end
end Mo

namespace Mo
open PySem PySem.Spec PyProof.Rows L2
/-! ### the end of a law -/
def spLaw (K : PySem.W.Frag) : Sp := fun vs H Q _ => ∃ (a : Addr) (ns : List Int), vs = [.ref a] ∧ FzL K H a (ns.map V.int) ∧ ns.length ≤ 63 ∧ ∀ H', Q (.bl true) H'
theorem law_of {P : Program} {w : World} {K : PySem.W.Frag} {mg : Str → Option Value} {base : Heap} {k : Nat} {f : Addr} {fd : FuncData} {x : Str} {fm : FM} (F : FnOk P w K mg base (L2.CX P w) k f fd [x] (spM K mg 1 fm))
    (ht : ∀ ns : List Int, ns.length ≤ 63 → ∃ h', fm [.ref 0] [.fls (ns.map D.int)] = .ok (.bl true) h') : FnOk P w K mg base (L2.CX P w) k f fd [x] (spLaw K) := by
  refine F.imp fun vs H Q E ⟨a, ns, e, hz, hl, q⟩ => ?_
  subst e
  refine ⟨rfl, [a], [.ref 0], [.fls (ns.map D.int)], .cons (.ref rfl) .nil, ⟨rfl, fun n b o e1 e2 => ?_, fun n m b o u e1 e2 e3 e4 m1 m2 => ?_⟩, ?_⟩
  · cases n with
    | zero => cases e1; cases e2; exact .fls hz (RVs.ofInts ns)
    | succ n => cases e1
  · cases n with
    | zero => cases e3; cases m1
    | succ n => cases e1
  · obtain ⟨h', e⟩ := ht ns hl
    rw [e]
    intro ρ' H' v le rh rv
    cases rv
    exact q H'
theorem fz_of {K : PySem.W.Frag} {H : Hp} {a : Addr} {xs : List V} (o : Only H) (h : SqL K H a xs) : FzL K H a xs := by
  rcases h with (h | ⟨u, h⟩) | h
  · rcases o a with z | ⟨o', ys, z⟩
    · rw [h] at z; cases z
    · rw [h] at z; cases z
  · exact .inl ⟨u, h⟩
  · exact .inr h
theorem cx_no {P : Program} {w : World} {H : Hp} {s : Shared} {e : Value} {s' : Shared} (h : L2.CX P w [] H s (fun _ _ _ => False) e s') : False := by
  obtain ⟨_, _, _, _, _, _, _, _, _, _, _, _, z⟩ := h
  exact z.elim
end Mo

namespace Mo
open PySem PySem.Spec PyProof.Rows L2
/-! ### running the functions: equations for simp -/
theorem th_nx {sg h f} : (RS.nx sg h).th f = f sg h := rfl
theorem th_rt {d h f} : (RS.rt d h).th f = .rt d h := rfl
theorem th_bad {f} : (RS.bad).th f = .bad := rfl
theorem th_bk {sg h f} : (RS.bk sg h).th f = .bk sg h := rfl
theorem th_ct {sg h f} : (RS.ct sg h).th f = .ct sg h := rfl
theorem end_rt {d h} : (RS.rt d h).end = .ok d h := rfl
theorem end_nx {sg h} : (RS.nx sg h).end = .ok .non h := rfl
theorem e_seq (m n sg h) : sSeq m n sg h = (m sg h).th n := rfl
theorem e_lit (d sg h) : mLit d sg h = .ok d h := rfl
theorem e_var (i sg h) : mVar i sg h = match sg[i]? with
  | some (some d) => .ok d h
  | _ => .bad := rfl
theorem e_m2 (f a b sg h) : m2 f a b sg h = (a sg h).bind fun x h1 => (b sg h1).bind fun y h2 => f x y h2 := rfl
theorem e_m1 (f a sg h) : m1 f a sg h = (a sg h).bind f := rfl
theorem e_test (m sg h) : mTest m sg h = (m sg h).bind fun d h1 => match d with
  | .bl b => .ok b h1
  | _ => .bad := rfl
theorem e_set (i m sg h) : sSet i m sg h = (m sg h).th sg fun d h1 => .nx (sg.set i (some d)) h1 := rfl
theorem e_ret (m sg h) : sRet m sg h = (m sg h).th sg fun d h1 => .rt d h1 := rfl
theorem e_if (c m n sg h) : sIf c m n sg h = (c sg h).th sg fun b h1 => if b = true then m sg h1 else n sg h1 := rfl
theorem e_next (sg h) : sNext sg h = .nx sg h := rfl
theorem e_nil (sg h) : mNil sg h = .ok [] h := rfl
theorem e_cons (m r sg h) : mCons m r sg h = (m sg h).bind fun d h1 => (r sg h1).bind fun ds h2 => .ok (d :: ds) h2 := rfl
theorem e_bi (f ml sg h) : mBi f ml sg h = (ml sg h).bind f := rfl
theorem e_put (f mo mi mv sg h) : sPut f mo mi mv sg h = (mv sg h).th sg fun v h1 => (mo sg h1).th sg fun x h2 => (mi sg h2).th sg fun k h3 => toRS sg (f x k v h3) := rfl
theorem e_call (np fm ml dds sg h) : mCall np fm ml dds sg h = (ml sg h).bind fun ds h1 => if (ds ++ dds).length = np then fm (ds ++ dds) h1 else .bad := rfl
theorem e_andT (m n sg h) : mAndT m n sg h = (m sg h).bind fun b h1 => if b = true then n sg h1 else .ok false h1 := rfl
theorem e_orT (m n sg h) : mOrT m n sg h = (m sg h).bind fun b h1 => if b = true then .ok true h1 else n sg h1 := rfl
theorem e_notT (m sg h) : mNotT m sg h = (m sg h).bind fun b h1 => .ok (!b) h1 := rfl
theorem e_tru (m sg h) : mTru m sg h = (m sg h).bind dTru := rfl
theorem e_ite (m p q sg h) : mIte m p q sg h = (m sg h).bind fun b h1 => if b = true then p sg h1 else q sg h1 := rfl
theorem e_and (m n sg h) : mAnd m n sg h = (m sg h).bind fun d h1 => (dTru d h1).bind fun b h2 => if b = true then n sg h2 else .ok d h2 := rfl
theorem e_or (m n sg h) : mOr m n sg h = (m sg h).bind fun d h1 => (dTru d h1).bind fun b h2 => if b = true then .ok d h2 else n sg h2 := rfl
theorem e_not (m sg h) : mNot m sg h = (m sg h).bind fun d h1 => (dTru d h1).bind fun b h2 => .ok (.bl (!b)) h2 := rfl
theorem e_tup (r sg h) : mTup r sg h = (r sg h).bind fun ds h1 => if ds.length ≤ sizeLine then .ok (.tup ds) h1 else .bad := rfl
theorem e_lst (r sg h) : mLst r sg h = (r sg h).bind fun ds h1 => if ds.length ≤ sizeLine then .ok (.ref h1.length) (h1 ++ [.lst ds]) else .bad := rfl
theorem e_expr (m sg h) : sExpr m sg h = (m sg h).th sg fun _ h1 => .nx sg h1 := rfl
theorem e_mt (T f mo ml sg h) : mMt T f mo ml sg h = (mo sg h).bind fun x h1 => if isTy T x h1 = true then (ml sg h1).bind fun ds h2 => f x ds h2 else .bad := rfl
theorem e_sl (m lo hi sg h) : mSl m lo hi sg h = (m sg h).bind fun x h1 => (lo sg h1).bind fun l h2 => (hi sg h2).bind fun u h3 => dSl x l u h3 := rfl
theorem e_part (m sg h) : mPart m sg h = (m sg h).bind fun d h1 => match d with
  | .int i => .ok (some i) h1
  | _ => .bad := rfl
theorem e_noP (sg h) : mNoP sg h = .ok none h := rfl
theorem e_chain (f g ma mb mc sg h) : mChain f g ma mb mc sg h = (ma sg h).bind fun x h1 => (mb sg h1).bind fun y h2 => (f x y h2).bind fun z h3 => match z with
  | .bl true => (mc sg h3).bind fun w h4 => g y w h4
  | .bl false => .ok (.bl false) h3
  | _ => .bad := rfl
theorem e_par (i j ml sg h) : sPar i j ml sg h = (ml sg h).th sg fun ds h1 => match ds with
  | [p, q] => .nx ((sg.set i (some p)).set j (some q)) h1
  | _ => .bad := rfl
theorem e_par3 (i j l ml sg h) : sPar3 i j l ml sg h = (ml sg h).th sg fun ds h1 => match ds with
  | [p, q, r] => .nx (((sg.set i (some p)).set j (some q)).set l (some r)) h1
  | _ => .bad := rfl
theorem e_asg (g m sg h) : sAsg g m sg h = (m sg h).th sg fun d h1 => match g d sg with
  | some sg' => .nx sg' h1
  | none => .bad := rfl
theorem e_for (mi g body sg h) : sFor mi g body sg h = (mi sg h).th sg fun s h1 => forL s g body s.items 0 sg h1 := rfl
theorem e_lc (mi g mt me vs sg h) : mLc mi g mt me vs sg h = (mi sg h).bind fun s h1 => lcL s g mt me (wipeD sg vs) h1.length s.items 0 (h1 ++ [.lst []]) := rfl
theorem e_iter (m sg h) : mIter m sg h = (m sg h).bind dIter := rfl
theorem e_range1 (m sg h) : mRange1 m sg h = (m sg h).bind fun d h1 => match d with
  | .int j => if -(2 ^ 62) ≤ j ∧ j < 2 ^ 62 then .ok (srcR 0 j.toNat) h1 else .bad
  | _ => .bad := rfl
theorem e_zip (ml sg h) : mZip ml sg h = (ml sg h).bind dZip := rfl
theorem e_dnew (sg h) : mDNew sg h = .ok (.ref h.length) (h ++ [.dk []]) := rfl
theorem e_yes (sg h) : mYes sg h = .ok true h := rfl
theorem e_run (n ms ds h) : runF n ms ds h = (ms (startD n ds) h).end := rfl
theorem b_ok {α β : Type} {a : α} {h : Mh} {f : α → Mh → R β} : (R.ok a h).bind f = f a h := rfl
theorem b_bad {α β : Type} {f : α → Mh → R β} : (R.bad : R α).bind f = .bad := rfl
theorem t_ok {α : Type} {a : α} {h : Mh} {sg : Sg} {f : α → Mh → RS} : (R.ok a h).th sg f = f a h := rfl
theorem t_bad {α : Type} {sg : Sg} {f : α → Mh → RS} : (R.bad : R α).th sg f = .bad := rfl
theorem n_ok {α : Type} {a : α} {h : Mh} : (R.ok a h).nox = .ok a h := rfl
theorem line_le : (1000 : Nat) ≤ sizeLine := by decide
theorem toRS_some {sg h} : toRS sg (some h) = .nx sg h := rfl
@[simp] theorem i0 {g x y h} : dI0 g (.int x) (.int y) h = .ok (g x y) h := rfl
@[simp] theorem iI {c g x y h} : dII c g (.int x) (.int y) h = if c x y = true then .ok (g x y) h else .bad := rfl
theorem b_ite {α β : Type} {c : Prop} [Decidable c] {a b : R α} {f : α → Mh → R β} : (if c then a else b).bind f = if c then a.bind f else b.bind f := by split <;> rfl
theorem t_ite' {α : Type} {c : Prop} [Decidable c] {a b : R α} {sg : Sg} {f : α → Mh → RS} : (if c then a else b).th sg f = if c then a.th sg f else b.th sg f := by split <;> rfl
theorem th_ite {c : Prop} [Decidable c] {a b : RS} {f : Sg → Mh → RS} : (if c then a else b).th f = if c then a.th f else b.th f := by split <;> rfl
theorem end_ite {c : Prop} [Decidable c] {a b : RS} : (if c then a else b).end = if c then a.end else b.end := by split <;> rfl
@[simp] theorem add_ii {x y h} : dAdd (.int x) (.int y) h = .ok (.int (x + y)) h := rfl
@[simp] theorem sub_ii {x y h} : dSub (.int x) (.int y) h = .ok (.int (x - y)) h := rfl
@[simp] theorem band_ii {x y h} : dBand (.int x) (.int y) h = .ok (.int (Builtin.bitAnd x y)) h := rfl
@[simp] theorem bor_ii {x y h} : dBor (.int x) (.int y) h = .ok (.int (Builtin.bitOr x y)) h := rfl
@[simp] theorem bxor_ii {x y h} : dBxor (.int x) (.int y) h = .ok (.int (Builtin.bitXor x y)) h := rfl
theorem mul_ii {x y h} (c : cMul x y = true) : dMul (.int x) (.int y) h = .ok (.int (x * y)) h := if_pos c
theorem cMul_r {x y : Int} (h1 : -(2 ^ 64) < y) (h2 : y < 2 ^ 64) : cMul x y = true := decide_eq_true (.inr ⟨h1, h2⟩)
theorem cMul_l {x y : Int} (h1 : -(2 ^ 64) < x) (h2 : x < 2 ^ 64) : cMul x y = true := decide_eq_true (.inl ⟨h1, h2⟩)
theorem mod_ii {x y h} (c : 0 < y) : dMod (.int x) (.int y) h = .ok (.int (x % y)) h := if_pos (decide_eq_true c)
theorem fdiv_ii {x y h} (c : 0 < y) (d : y < 18446744073709551616) : dFdiv (.int x) (.int y) h = .ok (.int (x / y)) h := if_pos (decide_eq_true ⟨c, d⟩)
theorem pow_ii {x y h} (c : 0 ≤ y) (d : y ≤ 1000000) (e : x.natAbs < 2 ^ 100) : dPow (.int x) (.int y) h = .ok (.int (x ^ y.toNat)) h := if_pos (decide_eq_true ⟨c, d, e⟩)
theorem shl_ii {x y h} (c : 0 ≤ y) (d : y ≤ 1000000) (e : x.natAbs < 2 ^ 64) : dShl (.int x) (.int y) h = .ok (.int (x * 2 ^ y.toNat)) h := if_pos (decide_eq_true ⟨c, d, e⟩)
@[simp] theorem int_i {x h} : dInt [.int x] h = .ok (.int x) h := rfl
@[simp] theorem lt_ii {x y h} : dLt (.int x) (.int y) h = .ok (.bl (decide (x < y))) h := rfl
@[simp] theorem le_ii {x y h} : dLe (.int x) (.int y) h = .ok (.bl (decide (x ≤ y))) h := rfl
@[simp] theorem gt_ii {x y h} : dGt (.int x) (.int y) h = .ok (.bl (decide (y < x))) h := rfl
@[simp] theorem ge_ii {x y h} : dGe (.int x) (.int y) h = .ok (.bl (decide (y ≤ x))) h := rfl
@[simp] theorem eq_ii {x y h} : dE false (.int x) (.int y) h = .ok (.bl (decide (x = y))) h := rfl
@[simp] theorem ne_ii {x y h} : dE true (.int x) (.int y) h = .ok (.bl (!decide (x = y))) h := rfl
@[simp] theorem eq_ss {x y h} : dE false (.str x) (.str y) h = .ok (.bl (decide (x = y))) h := rfl
@[simp] theorem ne_ss {x y h} : dE true (.str x) (.str y) h = .ok (.bl (!decide (x = y))) h := rfl
@[simp] theorem eq_bb {x y h} : dE false (.bl x) (.bl y) h = .ok (.bl (decide (x = y))) h := rfl
@[simp] theorem ne_bb {x y h} : dE true (.bl x) (.bl y) h = .ok (.bl (!decide (x = y))) h := rfl
@[simp] theorem tru_b {b h} : dTru (.bl b) h = .ok b h := rfl
@[simp] theorem neg_i {x h} : dNeg (.int x) h = .ok (.int (-x)) h := rfl
@[simp] theorem ix_tup {ds : List D} {i : Int} {h} : dIx (.tup ds) (.int i) h = match atI ds i with
  | some d => .ok d h
  | none => .bad := rfl
theorem ix_lst {n : Nat} {ds : List D} {i : Int} {h : Mh} (e : h[n]? = some (.lst ds)) : dIx (.ref n) (.int i) h = match atI ds i with
  | some d => .ok d h
  | none => .bad := by simp only [dIx, e] <;> rfl
theorem len_lst {n : Nat} {ds : List D} {h : Mh} (e : h[n]? = some (.lst ds)) : dLen [.ref n] h = .ok (.int (ds.length : Nat)) h := by simp only [dLen, e]
theorem putL_at {n : Nat} {ds : List D} {i : Int} {v : D} {h : Mh} {j : Nat} (e : h[n]? = some (.lst ds)) (q : ixN ds.length i = some j) : dPutL (.ref n) (.int i) v h = some (h.set n (.lst (ds.set j v))) := by simp only [dPutL, e, q, Option.map_some]
theorem atI_of {ds : List D} {i : Int} {j : Nat} {d : D} (e : i = (j : Int)) (q : ds[j]? = some d) : atI ds i = some d := by rw [e]; exact atI_nat q
theorem set_at {h : Mh} {n : Nat} {o : MO} (l : n < h.length) : (h.set n o)[n]? = some o := List.getElem?_set_self l
theorem set_off {h : Mh} {n m : Nat} {o : MO} (l : n ≠ m) : (h.set n o)[m]? = h[m]? := List.getElem?_set_ne l
end Mo

namespace Mo
open PySem PySem.Spec PyProof.Rows L2
/-! ### what holds behind a run -/
structure Tg {β : Type} (x : β) : Type where
inductive R.wp {α : Type} (r : R α) (P : α → Mh → Prop) (_z : Tg P := ⟨⟩) : Prop
  | mk (a : α) (h : Mh) (e : r = .ok a h) (p : P a h) : R.wp r P _z
inductive RS.wp (r : RS) (N : Sg → Mh → Prop) (T : D → Mh → Prop) (_z : Tg N := ⟨⟩) (_y : Tg T := ⟨⟩) : Prop
  | nx (sg : Sg) (h : Mh) (e : r = .nx sg h) (p : N sg h) : RS.wp r N T _z _y
  | rt (d : D) (h : Mh) (e : r = .rt d h) (p : T d h) : RS.wp r N T _z _y
@[simp] theorem wp_ok {α : Type} {a : α} {h : Mh} {P : α → Mh → Prop} {z} : (R.ok a h).wp P z = P a h := propext ⟨fun w => (match w with | .mk _ _ rfl p => p), fun p => ⟨_, _, rfl, p⟩⟩
@[simp] theorem wp_bad {α : Type} {P : α → Mh → Prop} {z} : (R.bad : R α).wp P z = False := propext ⟨fun w => (match w with | .mk _ _ e _ => nomatch e), False.elim⟩
@[simp] theorem wp_exc {α : Type} {c fs h} {P : α → Mh → Prop} {z} : (R.exc c fs h : R α).wp P z = False := propext ⟨fun w => (match w with | .mk _ _ e _ => nomatch e), False.elim⟩
@[simp] theorem wp_nx {sg h N T z y} : (RS.nx sg h).wp N T z y = N sg h := propext ⟨fun w => (match w with
  | .nx _ _ rfl p => p
  | .rt _ _ e _ => nomatch e), fun p => RS.wp.nx _ _ rfl p⟩
@[simp] theorem wp_rt {d h N T z y} : (RS.rt d h).wp N T z y = T d h := propext ⟨fun w => (match w with
  | .nx _ _ e _ => nomatch e
  | .rt _ _ rfl p => p), fun p => RS.wp.rt _ _ rfl p⟩
theorem wps_no {r : RS} {N T z y} (h1 : ∀ sg h, r ≠ .nx sg h) (h2 : ∀ d h, r ≠ .rt d h) : r.wp N T z y = False := propext ⟨fun w => (match w with
  | .nx _ _ e _ => h1 _ _ e
  | .rt _ _ e _ => h2 _ _ e), False.elim⟩
@[simp] theorem wp_sbad {N T z y} : (RS.bad).wp N T z y = False := wps_no (fun _ _ e => by cases e) (fun _ _ e => by cases e)
@[simp] theorem wp_sbk {sg h N T z y} : (RS.bk sg h).wp N T z y = False := wps_no (fun _ _ e => by cases e) (fun _ _ e => by cases e)
@[simp] theorem wp_sct {sg h N T z y} : (RS.ct sg h).wp N T z y = False := wps_no (fun _ _ e => by cases e) (fun _ _ e => by cases e)
@[simp] theorem wp_sexc {c fs sg h N T z y} : (RS.exc c fs sg h).wp N T z y = False := wps_no (fun _ _ e => by cases e) (fun _ _ e => by cases e)
@[simp ↓] theorem wp_bind {α β : Type} {r : R α} {f : α → Mh → R β} {P : β → Mh → Prop} {z} : (r.bind f).wp P z = r.wp fun a h => (f a h).wp P := by
  cases r with
  | ok a h => rw [wp_ok]; rfl
  | exc c fs h => rw [wp_exc]; exact wp_exc
  | bad => rw [wp_bad]; exact wp_bad
@[simp ↓] theorem wp_th {α : Type} {r : R α} {sg : Sg} {f : α → Mh → RS} {N T z y} : (r.th sg f).wp N T z y = r.wp fun a h => (f a h).wp N T := by
  cases r with
  | ok a h => rw [wp_ok]; rfl
  | exc c fs h => rw [wp_exc]; exact wp_sexc
  | bad => rw [wp_bad]; exact wp_sbad
@[simp ↓] theorem wp_ths {r : RS} {f : Sg → Mh → RS} {N T z y} : (r.th f).wp N T z y = r.wp (fun sg h => (f sg h).wp N T) T := by
  cases r with
  | nx sg h => rw [wp_nx]; rfl
  | rt d h => rw [wp_rt]; exact wp_rt
  | bk sg h => rw [wp_sbk]; exact wp_sbk
  | ct sg h => rw [wp_sct]; exact wp_sct
  | exc c fs sg h => rw [wp_sexc]; exact wp_sexc
  | bad => rw [wp_sbad]; exact wp_sbad
@[simp ↓] theorem wp_end {r : RS} {P z} : r.end.wp P z = r.wp (fun _ h => P .non h) P := by
  cases r with
  | nx sg h => rw [wp_nx]; exact wp_ok
  | rt d h => rw [wp_rt]; exact wp_ok
  | bk sg h => rw [wp_sbk]; exact wp_bad
  | ct sg h => rw [wp_sct]; exact wp_bad
  | exc c fs sg h => rw [wp_sexc]; exact wp_exc
  | bad => rw [wp_sbad]; exact wp_bad
@[simp ↓] theorem wp_nox {α : Type} {r : R α} {P : α → Mh → Prop} {z} : r.nox.wp P z = r.wp P := by
  cases r with
  | ok a h => rfl
  | exc c fs h => rw [wp_exc]; exact wp_bad
  | bad => rfl
@[simp] theorem wp_ite {α : Type} {c : Prop} [Decidable c] {a b : R α} {P : α → Mh → Prop} {z} : (if c then a else b).wp P z = if c then a.wp P else b.wp P := by split <;> rfl
@[simp] theorem wps_ite {c : Prop} [Decidable c] {a b : RS} {N T z y} : (if c then a else b).wp N T z y = if c then a.wp N T else b.wp N T := by split <;> rfl
@[simp] theorem wp_oite {c : Prop} [Decidable c] {o : Option Mh} {N : Mh → Prop} : (match (if c then o else none) with
  | some h => N h
  | none => False) = if c then (match o with
  | some h => N h
  | none => False) else False := by by_cases hc : c <;> simp [hc]
theorem R.wp.mono {α : Type} {r : R α} {P Q : α → Mh → Prop} {z z'} (w : r.wp P z) (k : ∀ a h, P a h → Q a h) : r.wp Q z' := by
  cases w with
  | mk a h e p => exact .mk a h e (k a h p)
theorem RS.wp.mono {r : RS} {N N' T T' z y z' y'} (w : r.wp N T z y) (k : ∀ sg h, N sg h → N' sg h) (l : ∀ d h, T d h → T' d h) : r.wp N' T' z' y' := by
  cases w with
  | nx sg h e p => exact .nx sg h e (k _ _ p)
  | rt d h e p => exact .rt d h e (l _ _ p)
theorem R.wp.out {α : Type} {r : R α} {P : α → Mh → Prop} {z} (w : r.wp P z) : ∃ a h, r = .ok a h ∧ P a h := by
  cases w with
  | mk a h e p => exact ⟨a, h, e, p⟩
theorem wp_of {α : Type} {r : R α} {a : α} {h : Mh} {P : α → Mh → Prop} {z} (e : r = .ok a h) (p : P a h) : r.wp P z := .mk a h e p
structure LenC (n : Nat) : Prop where
  r : n < sizeLine
structure LenE (n : Nat) : Prop where
  r : n ≤ sizeLine
@[simp] theorem lenC {n : Nat} (h : n < 1000) : LenC n := ⟨Nat.lt_of_lt_of_le h line_le⟩
@[simp] theorem lenE {n : Nat} (h : n ≤ 1000) : LenE n := ⟨Nat.le_trans h line_le⟩
/-! the constructs -/
@[simp ↓] theorem w_seq {m n sg h} {N : Sg → Mh → Prop} {T : D → Mh → Prop} {z : Tg N} {y : Tg T} : RS.wp (sSeq m n sg h) N T z y = RS.wp ((m sg h).th n) N T := rfl
@[simp ↓] theorem w_lit {d sg h} {P} {z : Tg P} : R.wp (mLit d sg h) P z = R.wp (.ok d h) P := rfl
@[simp ↓] theorem w_var {i sg h} {P} {z : Tg P} : R.wp (mVar i sg h) P z = R.wp (match sg[i]? with
  | some (some d) => .ok d h
  | _ => .bad) P := rfl
@[simp ↓] theorem w_m2 {f a b sg h} {P} {z : Tg P} : R.wp (m2 f a b sg h) P z = R.wp ((a sg h).bind fun x h1 => (b sg h1).bind fun y h2 => f x y h2) P := rfl
@[simp ↓] theorem w_m1 {f a sg h} {P} {z : Tg P} : R.wp (m1 f a sg h) P z = R.wp ((a sg h).bind f) P := rfl
@[simp ↓] theorem w_test {m sg h} {P} {z : Tg P} : R.wp (mTest m sg h) P z = R.wp ((m sg h).bind fun d h1 => match d with
  | .bl b => .ok b h1
  | _ => .bad) P := rfl
@[simp ↓] theorem w_set {i m sg h} {N : Sg → Mh → Prop} {T : D → Mh → Prop} {z : Tg N} {y : Tg T} : RS.wp (sSet i m sg h) N T z y = RS.wp ((m sg h).th sg fun d h1 => .nx (sg.set i (some d)) h1) N T := rfl
@[simp ↓] theorem w_ret {m sg h} {N : Sg → Mh → Prop} {T : D → Mh → Prop} {z : Tg N} {y : Tg T} : RS.wp (sRet m sg h) N T z y = RS.wp ((m sg h).th sg fun d h1 => .rt d h1) N T := rfl
@[simp ↓] theorem w_if {c m n sg h} {N : Sg → Mh → Prop} {T : D → Mh → Prop} {z : Tg N} {y : Tg T} : RS.wp (sIf c m n sg h) N T z y = RS.wp ((c sg h).th sg fun b h1 => if b = true then m sg h1 else n sg h1) N T := rfl
@[simp ↓] theorem w_next {sg h} {N : Sg → Mh → Prop} {T : D → Mh → Prop} {z : Tg N} {y : Tg T} : RS.wp (sNext sg h) N T z y = RS.wp (.nx sg h) N T := rfl
@[simp ↓] theorem w_nil {sg h} {P} {z : Tg P} : R.wp (mNil sg h) P z = R.wp (.ok [] h) P := rfl
@[simp ↓] theorem w_cons {m r sg h} {P} {z : Tg P} : R.wp (mCons m r sg h) P z = R.wp ((m sg h).bind fun d h1 => (r sg h1).bind fun ds h2 => .ok (d :: ds) h2) P := rfl
@[simp ↓] theorem w_bi {f ml sg h} {P} {z : Tg P} : R.wp (mBi f ml sg h) P z = R.wp ((ml sg h).bind f) P := rfl
@[simp ↓] theorem w_put {f mo mi mv sg h} {N : Sg → Mh → Prop} {T : D → Mh → Prop} {z : Tg N} {y : Tg T} : RS.wp (sPut f mo mi mv sg h) N T z y = RS.wp ((mv sg h).th sg fun v h1 => (mo sg h1).th sg fun x h2 => (mi sg h2).th sg fun k h3 => toRS sg (f x k v h3)) N T := rfl
@[simp ↓] theorem w_call {np fm ml dds sg h} {P} {z : Tg P} : R.wp (mCall np fm ml dds sg h) P z = R.wp ((ml sg h).bind fun ds h1 => if (ds ++ dds).length = np then fm (ds ++ dds) h1 else .bad) P := rfl
@[simp ↓] theorem w_andT {m n sg h} {P} {z : Tg P} : R.wp (mAndT m n sg h) P z = R.wp ((m sg h).bind fun b h1 => if b = true then n sg h1 else .ok false h1) P := rfl
@[simp ↓] theorem w_orT {m n sg h} {P} {z : Tg P} : R.wp (mOrT m n sg h) P z = R.wp ((m sg h).bind fun b h1 => if b = true then .ok true h1 else n sg h1) P := rfl
@[simp ↓] theorem w_notT {m sg h} {P} {z : Tg P} : R.wp (mNotT m sg h) P z = R.wp ((m sg h).bind fun b h1 => .ok (!b) h1) P := rfl
@[simp ↓] theorem w_tru {m sg h} {P} {z : Tg P} : R.wp (mTru m sg h) P z = R.wp ((m sg h).bind dTru) P := rfl
@[simp ↓] theorem w_ite {m p q sg h} {P} {z : Tg P} : R.wp (mIte m p q sg h) P z = R.wp ((m sg h).bind fun b h1 => if b = true then p sg h1 else q sg h1) P := rfl
@[simp ↓] theorem w_and {m n sg h} {P} {z : Tg P} : R.wp (mAnd m n sg h) P z = R.wp ((m sg h).bind fun d h1 => (dTru d h1).bind fun b h2 => if b = true then n sg h2 else .ok d h2) P := rfl
@[simp ↓] theorem w_or {m n sg h} {P} {z : Tg P} : R.wp (mOr m n sg h) P z = R.wp ((m sg h).bind fun d h1 => (dTru d h1).bind fun b h2 => if b = true then .ok d h2 else n sg h2) P := rfl
@[simp ↓] theorem w_not {m sg h} {P} {z : Tg P} : R.wp (mNot m sg h) P z = R.wp ((m sg h).bind fun d h1 => (dTru d h1).bind fun b h2 => .ok (.bl (!b)) h2) P := rfl
open Classical in
@[simp ↓] theorem w_tup {r sg h} {P} {z : Tg P} : R.wp (mTup r sg h) P z = R.wp (r sg h) fun ds h1 => if LenE ds.length then P (.tup ds) h1 else False := by
  rw [e_tup, wp_bind]
  cases r sg h with
  | ok ds h1 =>
    by_cases c : LenE ds.length
    · simp only [wp_ok, if_pos c, if_pos c.r]
    · simp only [wp_ok, if_neg c, if_neg (fun z => c ⟨z⟩), wp_bad]
  | exc c fs h1 => rw [wp_exc, wp_exc]
  | bad => rw [wp_bad, wp_bad]
open Classical in
@[simp ↓] theorem w_lst {r sg h} {P} {z : Tg P} : R.wp (mLst r sg h) P z = R.wp (r sg h) fun ds h1 => if LenE ds.length then P (.ref h1.length) (h1 ++ [.lst ds]) else False := by
  rw [e_lst, wp_bind]
  cases r sg h with
  | ok ds h1 =>
    by_cases c : LenE ds.length
    · simp only [wp_ok, if_pos c, if_pos c.r]
    · simp only [wp_ok, if_neg c, if_neg (fun z => c ⟨z⟩), wp_bad]
  | exc c fs h1 => rw [wp_exc, wp_exc]
  | bad => rw [wp_bad, wp_bad]
@[simp ↓] theorem w_expr {m sg h} {N : Sg → Mh → Prop} {T : D → Mh → Prop} {z : Tg N} {y : Tg T} : RS.wp (sExpr m sg h) N T z y = RS.wp ((m sg h).th sg fun _ h1 => .nx sg h1) N T := rfl
@[simp ↓] theorem w_mt {T f mo ml sg h} {P} {z : Tg P} : R.wp (mMt T f mo ml sg h) P z = R.wp ((mo sg h).bind fun x h1 => if isTy T x h1 = true then (ml sg h1).bind fun ds h2 => f x ds h2 else .bad) P := rfl
@[simp ↓] theorem w_sl {m lo hi sg h} {P} {z : Tg P} : R.wp (mSl m lo hi sg h) P z = R.wp ((m sg h).bind fun x h1 => (lo sg h1).bind fun l h2 => (hi sg h2).bind fun u h3 => dSl x l u h3) P := rfl
@[simp ↓] theorem w_part {m sg h} {P} {z : Tg P} : R.wp (mPart m sg h) P z = R.wp ((m sg h).bind fun d h1 => match d with
  | .int i => .ok (some i) h1
  | _ => .bad) P := rfl
@[simp ↓] theorem w_noP {sg h} {P} {z : Tg P} : R.wp (mNoP sg h) P z = R.wp (.ok none h) P := rfl
@[simp ↓] theorem w_chain {f g ma mb mc sg h} {P} {z : Tg P} : R.wp (mChain f g ma mb mc sg h) P z = R.wp ((ma sg h).bind fun x h1 => (mb sg h1).bind fun y h2 => (f x y h2).bind fun z h3 => match z with
  | .bl true => (mc sg h3).bind fun w h4 => g y w h4
  | .bl false => .ok (.bl false) h3
  | _ => .bad) P := rfl
@[simp ↓] theorem w_par {i j ml sg h} {N : Sg → Mh → Prop} {T : D → Mh → Prop} {z : Tg N} {y : Tg T} : RS.wp (sPar i j ml sg h) N T z y = RS.wp ((ml sg h).th sg fun ds h1 => match ds with
  | [p, q] => .nx ((sg.set i (some p)).set j (some q)) h1
  | _ => .bad) N T := rfl
@[simp ↓] theorem w_par3 {i j l ml sg h} {N : Sg → Mh → Prop} {T : D → Mh → Prop} {z : Tg N} {y : Tg T} : RS.wp (sPar3 i j l ml sg h) N T z y = RS.wp ((ml sg h).th sg fun ds h1 => match ds with
  | [p, q, r] => .nx (((sg.set i (some p)).set j (some q)).set l (some r)) h1
  | _ => .bad) N T := rfl
@[simp ↓] theorem w_asg {g m sg h} {N : Sg → Mh → Prop} {T : D → Mh → Prop} {z : Tg N} {y : Tg T} : RS.wp (sAsg g m sg h) N T z y = RS.wp ((m sg h).th sg fun d h1 => match g d sg with
  | some sg' => .nx sg' h1
  | none => .bad) N T := rfl
@[simp ↓] theorem w_for {mi g body sg h} {N : Sg → Mh → Prop} {T : D → Mh → Prop} {z : Tg N} {y : Tg T} : RS.wp (sFor mi g body sg h) N T z y = RS.wp ((mi sg h).th sg fun s h1 => forL s g body s.items 0 sg h1) N T := rfl
@[simp ↓] theorem w_lc {mi g mt me vs sg h} {P} {z : Tg P} : R.wp (mLc mi g mt me vs sg h) P z = R.wp ((mi sg h).bind fun s h1 => lcL s g mt me (wipeD sg vs) h1.length s.items 0 (h1 ++ [.lst []])) P := rfl
@[simp ↓] theorem w_iter {m sg h} {P} {z : Tg P} : R.wp (mIter m sg h) P z = R.wp ((m sg h).bind dIter) P := rfl
structure InR (j : Int) : Prop where
  r : -(2 ^ 62) ≤ j ∧ j < 2 ^ 62
theorem inR_of {j : Int} (a : -1000000000 ≤ j) (b : j ≤ 1000000000) : InR j := ⟨by omega⟩
open Classical in
@[simp ↓] theorem w_range1 {m : Sg → Mh → R D} {sg : Sg} {h : Mh} {P} {z : Tg P} : R.wp (mRange1 m sg h) P z = R.wp (m sg h) fun d h1 => match d with
  | .int j => if InR j then P (srcR 0 j.toNat) h1 else False
  | _ => False := by
  rw [e_range1, wp_bind]
  cases m sg h with
  | ok d h1 =>
    rw [wp_ok, wp_ok]
    cases d with
    | int j =>
      dsimp only
      by_cases c : InR j
      · rw [if_pos c, if_pos c.r, wp_ok]
      · rw [if_neg c, if_neg (fun z => c ⟨z⟩), wp_bad]
    | _ => exact wp_bad
  | exc c fs h1 => rw [wp_exc, wp_exc]
  | bad => rw [wp_bad, wp_bad]
@[simp ↓] theorem w_zip {ml sg h} {P} {z : Tg P} : R.wp (mZip ml sg h) P z = R.wp ((ml sg h).bind dZip) P := rfl
@[simp ↓] theorem w_dnew {sg h} {P} {z : Tg P} : R.wp (mDNew sg h) P z = R.wp (.ok (.ref h.length) (h ++ [.dk []])) P := rfl
@[simp ↓] theorem w_yes {sg h} {P} {z : Tg P} : R.wp (mYes sg h) P z = R.wp (.ok true h) P := rfl
@[simp ↓] theorem w_run {n ms ds h P} {z : Tg P} : R.wp (runF n ms ds h) P z = RS.wp (ms (startD n ds) h) (fun _ h => P .non h) P := wp_end
@[simp ↓] theorem w_toRS {sg : Sg} {o : Option Mh} {N T} {z : Tg N} {y : Tg T} : RS.wp (toRS sg o) N T z y = match o with
  | some h => N sg h
  | none => False := by
  cases o with
  | some h => exact wp_nx
  | none => exact wp_sbad
/-! ### loops -/
theorem for_wp {s : Src} {g : D → Sg → Option Sg} {body : Sg → Mh → RS} {N : Sg → Mh → Prop} {T : D → Mh → Prop} (I : Nat → Sg → Mh → Prop)
    (step : ∀ j x sg h, s.items[j]? = some x → I j sg h → s.at' j x h ∧ ∃ sg1, g x sg = some sg1 ∧ (body sg1 h).wp (I (j + 1)) T)
    (fin : ∀ sg h, I s.items.length sg h → s.fin s.items.length h ∧ N sg h) :
    ∀ (k i : Nat) (sg : Sg) (h : Mh), k + i = s.items.length → I i sg h → (forL s g body (s.items.drop i) i sg h).wp N T
  | 0, i, sg, h, e, hi => by
    have e : i = s.items.length := by omega
    subst e
    rw [List.drop_length]
    unfold forL
    obtain ⟨f, n⟩ := fin sg h hi
    rw [if_pos f, wp_nx]
    exact n
  | k + 1, i, sg, h, e, hi => by
    have l : i < s.items.length := by omega
    rw [List.drop_eq_getElem_cons l]
    obtain ⟨a, sg1, e1, w⟩ := step i _ sg h (List.getElem?_eq_getElem l) hi
    unfold forL
    rw [if_pos a, e1]
    show RS.wp (match body sg1 h with
      | .nx sg' h' => forL s g body _ (i + 1) sg' h'
      | .ct sg' h' => forL s g body _ (i + 1) sg' h'
      | .bk sg' h' => .nx sg' h'
      | r => r) N T
    cases w with
    | nx sg' h' e p => rw [e]; exact for_wp I step fin k (i + 1) _ _ (by omega) p
    | rt d h' e p => rw [e]; exact .rt _ _ rfl p
theorem loop {s : Src} {g : D → Sg → Option Sg} {body : Sg → Mh → RS} {N : Sg → Mh → Prop} {T : D → Mh → Prop} {z y} {sg : Sg} {h : Mh} {items : List D} (I : Nat → Sg → Mh → Prop) (h0 : I 0 sg h)
    (step : ∀ j x sg h, items[j]? = some x → I j sg h → s.at' j x h ∧ ∃ sg1, g x sg = some sg1 ∧ (body sg1 h).wp (I (j + 1)) T)
    (fin : ∀ sg h, I items.length sg h → s.fin items.length h ∧ N sg h) (hi : items = s.items := by simp) : (forL s g body items 0 sg h).wp N T z y := by
  subst hi
  exact for_wp I step fin s.items.length 0 sg h rfl h0
theorem lc_wp {s : Src} {g : D → Sg → Option Sg} {mt : Sg → Mh → R Bool} {me : Sg → Mh → R D} {sg : Sg} {n : Nat} {P : D → Mh → Prop} (I : Nat → List D → Mh → Prop)
    (step : ∀ j x acc h, s.items[j]? = some x → I j acc h → h[n]? = some (.lst acc) → s.at' j x h ∧ ∃ sg1, g x sg = some sg1 ∧ (mt sg1 h).wp fun b h1 => if b = true then (me sg1 h1).wp fun y h2 => h2[n]? = some (.lst acc) ∧ acc.length < sizeLine ∧ I (j + 1) (acc ++ [y]) (h2.set n (.lst (acc ++ [y]))) else h1[n]? = some (.lst acc) ∧ I (j + 1) acc h1)
    (fin : ∀ acc h, I s.items.length acc h → h[n]? = some (.lst acc) → s.fin s.items.length h ∧ P (.ref n) h) :
    ∀ (k i : Nat) (acc : List D) (h : Mh), k + i = s.items.length → I i acc h → h[n]? = some (.lst acc) → (lcL s g mt me sg n (s.items.drop i) i h).wp P
  | 0, i, acc, h, e, hi, hn => by
    have e : i = s.items.length := by omega
    subst e
    rw [List.drop_length]
    unfold lcL
    obtain ⟨f, p⟩ := fin acc h hi hn
    rw [if_pos f, wp_ok]
    exact p
  | k + 1, i, acc, h, e, hi, hn => by
    have l : i < s.items.length := by omega
    rw [List.drop_eq_getElem_cons l]
    obtain ⟨a, sg1, e1, w⟩ := step i _ acc h (List.getElem?_eq_getElem l) hi hn
    unfold lcL
    rw [if_pos a, e1]
    show R.wp ((mt sg1 h).nox.bind _) P
    rw [wp_bind, wp_nox]
    refine w.mono fun b h1 w1 => ?_
    cases b with
    | false =>
      rw [if_neg (by simp)] at w1 ⊢
      exact lc_wp I step fin k (i + 1) acc h1 (by omega) w1.2 w1.1
    | true =>
      rw [if_pos rfl] at w1 ⊢
      rw [wp_bind, wp_nox]
      refine w1.mono fun y h2 ⟨q1, q2, q3⟩ => ?_
      simp only [q1]
      rw [if_pos q2]
      have l2 : n < h2.length := (List.getElem?_eq_some_iff.mp q1).1
      exact lc_wp I step fin k (i + 1) _ _ (by omega) q3 (List.getElem?_set_self l2)
/-! ### frames -/
structure Ex (h h' : Mh) : Prop where
  len : h.length ≤ h'.length
  old : ∀ n, n < h.length → h'[n]? = h[n]?
theorem Ex.rfl {h : Mh} : Ex h h := ⟨Nat.le_refl _, fun _ _ => by rfl⟩
theorem Ex.trans {h h' h'' : Mh} (a : Ex h h') (b : Ex h' h'') : Ex h h'' := ⟨Nat.le_trans a.len b.len, fun n l => (b.old n (Nat.lt_of_lt_of_le l a.len)).trans (a.old n l)⟩
theorem lt_of {h : Mh} {n : Nat} {o : MO} (e : h[n]? = some o) : n < h.length := (List.getElem?_eq_some_iff.mp e).1
theorem Ex.get {h h' : Mh} (a : Ex h h') {n : Nat} {o : MO} (e : h[n]? = some o) : h'[n]? = some o := (a.old n (lt_of e)).trans e
theorem Ex.app {h t : Mh} : Ex h (h ++ t) := ⟨by simp, fun n l => List.getElem?_append_left l⟩
theorem Ex.put {h h' : Mh} {n : Nat} {o : MO} (a : Ex h h') (l : h.length ≤ n) : Ex h (h'.set n o) := ⟨by simpa using a.len, fun m lm => (List.getElem?_set_ne (by omega)).trans (a.old m lm)⟩
structure Gr (b : Nat) (h h' : Mh) : Prop where
  len : h.length ≤ h'.length
  old : ∀ n, n < h.length → n ≠ b → h'[n]? = h[n]?
theorem Gr.rfl {b : Nat} {h : Mh} : Gr b h h := ⟨Nat.le_refl _, fun _ _ _ => by rfl⟩
theorem Gr.trans {b : Nat} {h h' h'' : Mh} (a : Gr b h h') (c : Gr b h' h'') : Gr b h h'' := ⟨Nat.le_trans a.len c.len, fun n l z => (c.old n (Nat.lt_of_lt_of_le l a.len) z).trans (a.old n l z)⟩
theorem Ex.gr {b : Nat} {h h' : Mh} (a : Ex h h') : Gr b h h' := ⟨a.len, fun n l _ => a.old n l⟩
theorem Gr.get {b : Nat} {h h' : Mh} (a : Gr b h h') {n : Nat} {o : MO} (z : n ≠ b) (e : h[n]? = some o) : h'[n]? = some o := (a.old n (lt_of e) z).trans e
theorem Gr.app {b : Nat} {h t : Mh} : Gr b h (h ++ t) := Ex.app.gr
theorem Gr.put {b : Nat} {h h' : Mh} {n : Nat} {o : MO} (a : Gr b h h') (l : h.length ≤ n ∨ n = b) : Gr b h (h'.set n o) := ⟨by simpa using a.len, fun m lm z => (List.getElem?_set_ne (by omega)).trans (a.old m lm z)⟩
theorem at_end {h : Mh} {o : MO} : (h ++ [o])[h.length]? = some o := by simp
/-- a comprehension that changes nothing else -/
theorem lc_pure {s : Src} {g : D → Sg → Option Sg} {mt : Sg → Mh → R Bool} {me : Sg → Mh → R D} {sg : Sg} {h : Mh} (p : D → Bool) (F : D → D) {items : List D} (hl : items.length ≤ sizeLine)
    (hx : ∀ j x acc, items[j]? = some x → s.at' j x (h ++ [.lst acc]) ∧ ∃ sg1, g x sg = some sg1 ∧ mt sg1 (h ++ [.lst acc]) = .ok (p x) (h ++ [.lst acc]) ∧ (p x = true → me sg1 (h ++ [.lst acc]) = .ok (F x) (h ++ [.lst acc])))
    (fin : ∀ acc, s.fin items.length (h ++ [.lst acc])) (hi : items = s.items := by simp) : lcL s g mt me sg h.length items 0 (h ++ [.lst []]) = .ok (.ref h.length) (h ++ [.lst ((items.filter p).map F)]) := by
  subst hi
  have key : (lcL s g mt me sg h.length (s.items.drop 0) 0 (h ++ [.lst []])).wp fun d h' => d = .ref h.length ∧ h' = h ++ [.lst ((s.items.filter p).map F)] := by
    refine lc_wp (fun j acc h' => acc = ((s.items.take j).filter p).map F ∧ h' = h ++ [.lst acc]) (fun j x acc h' e ⟨ea, eh⟩ hn => ?_) (fun acc h' ⟨ea, eh⟩ hn => ?_) s.items.length 0 [] _ (by simp) (by simp) at_end
    · subst eh
      obtain ⟨a, sg1, e1, e2, e3⟩ := hx j x acc e
      have lj : j < s.items.length := (List.getElem?_eq_some_iff.mp e).1
      have tk : s.items.take (j + 1) = s.items.take j ++ [x] := by rw [List.take_add_one, e]; rfl
      refine ⟨a, sg1, e1, wp_of e2 ?_⟩
      cases hp : p x with
      | false => rw [if_neg (by simp)]; exact ⟨hn, by rw [tk, List.filter_append, List.map_append, ← ea]; simp [hp], by rfl⟩
      | true =>
        rw [if_pos rfl]
        refine wp_of (e3 hp) ⟨hn, ?_, ?_, ?_⟩
        · rw [ea]
          have := List.length_filter_le p (s.items.take j)
          have : (s.items.take j).length ≤ j := by simp; omega
          rw [List.length_map]; omega
        · rw [tk, List.filter_append, List.map_append, ← ea]; simp [hp]
        · rw [List.set_append_right _ _ (Nat.le_refl _)]; simp
    · exact ⟨by rw [eh]; exact fin acc, by rfl, by rw [eh, ea, List.take_length]⟩
  obtain ⟨d, h', e, rfl, rfl⟩ := key.out
  exact e
theorem lc_map {s : Src} {g : D → Sg → Option Sg} {me : Sg → Mh → R D} {sg : Sg} {h : Mh} (F : D → D) {items : List D} (hl : items.length ≤ sizeLine)
    (hx : ∀ j x acc, items[j]? = some x → s.at' j x (h ++ [.lst acc]) ∧ ∃ sg1, g x sg = some sg1 ∧ me sg1 (h ++ [.lst acc]) = .ok (F x) (h ++ [.lst acc]))
    (fin : ∀ acc, s.fin items.length (h ++ [.lst acc])) (hi : items = s.items := by simp) : lcL s g mYes me sg h.length items 0 (h ++ [.lst []]) = .ok (.ref h.length) (h ++ [.lst (items.map F)]) := by
  have := lc_pure (mt := mYes) (fun _ => true) F hl (fun j x acc e => ⟨(hx j x acc e).1, (hx j x acc e).2.choose, (hx j x acc e).2.choose_spec.1, by rfl, fun _ => (hx j x acc e).2.choose_spec.2⟩) fin hi
  rw [List.filter_eq_self.mpr (fun _ _ => by rfl)] at this
  exact this
/-! ### arithmetic under its conditions -/
structure ModC (y : Int) : Prop where
  r : 0 < y
structure FdC (y : Int) : Prop where
  r : 0 < y ∧ y < 18446744073709551616
structure MulC (x y : Int) : Prop where
  r : (-18446744073709551616 < y ∧ y < 18446744073709551616) ∨ (-18446744073709551616 < x ∧ x < 18446744073709551616)
structure PowC (x y : Int) : Prop where
  r : 0 ≤ y ∧ y ≤ 1000000 ∧ x.natAbs < 1267650600228229401496703205376
structure ShlC (x y : Int) : Prop where
  r : 0 ≤ y ∧ y ≤ 1000000 ∧ x.natAbs < 18446744073709551616
@[simp] theorem modC {y : Int} (h : 0 < y) : ModC y := ⟨h⟩
@[simp] theorem fdC {y : Int} (h : 0 < y) (h' : y < 18446744073709551616) : FdC y := ⟨h, h'⟩
@[simp] theorem mulC_r {x y : Int} (h : -18446744073709551616 < y) (h' : y < 18446744073709551616) : MulC x y := ⟨.inl ⟨h, h'⟩⟩
@[simp] theorem mulC_l {x y : Int} (h : -18446744073709551616 < x) (h' : x < 18446744073709551616) : MulC x y := ⟨.inr ⟨h, h'⟩⟩
@[simp] theorem powC {x y : Int} (h : 0 ≤ y) (h' : y ≤ 1000000) (h'' : x.natAbs < 1267650600228229401496703205376) : PowC x y := ⟨h, h', h''⟩
@[simp] theorem shlC {x y : Int} (h : 0 ≤ y) (h' : y ≤ 1000000) (h'' : x.natAbs < 18446744073709551616) : ShlC x y := ⟨h, h', h''⟩
open Classical in
@[simp] theorem mod_if {x y h} : dMod (.int x) (.int y) h = if ModC y then .ok (.int (x % y)) h else .bad := by
  by_cases c : ModC y
  · rw [mod_ii c.r, if_pos c]
  · rw [if_neg c]; exact if_neg (by simpa using fun z => c ⟨z⟩)
open Classical in
@[simp] theorem fdiv_if {x y h} : dFdiv (.int x) (.int y) h = if FdC y then .ok (.int (x / y)) h else .bad := by
  by_cases c : FdC y
  · rw [fdiv_ii c.r.1 c.r.2, if_pos c]
  · rw [if_neg c]; exact if_neg (fun z => c ⟨of_decide_eq_true z⟩)
open Classical in
@[simp] theorem mul_if {x y h} : dMul (.int x) (.int y) h = if MulC x y then .ok (.int (x * y)) h else .bad := by
  by_cases c : MulC x y
  · rw [if_pos c]
    rcases c.r with c | c
    · exact mul_ii (cMul_r c.1 c.2)
    · exact mul_ii (cMul_l c.1 c.2)
  · rw [if_neg c]; exact if_neg (fun z => c ⟨by simp only [cMul, decide_eq_true_eq] at z; omega⟩)
open Classical in
@[simp] theorem pow_if {x y h} : dPow (.int x) (.int y) h = if PowC x y then .ok (.int (x ^ y.toNat)) h else .bad := by
  by_cases c : PowC x y
  · rw [if_pos c]; exact pow_ii c.r.1 c.r.2.1 c.r.2.2
  · rw [if_neg c]; exact if_neg (fun z => c ⟨by simp only [cPowW, decide_eq_true_eq] at z; omega⟩)
open Classical in
@[simp] theorem shl_if {x y h} : dShl (.int x) (.int y) h = if ShlC x y then .ok (.int (x * 2 ^ y.toNat)) h else .bad := by
  by_cases c : ShlC x y
  · rw [if_pos c]; exact shl_ii c.r.1 c.r.2.1 c.r.2.2
  · rw [if_neg c]; exact if_neg (fun z => c ⟨by simp only [cPow, decide_eq_true_eq] at z; omega⟩)
/-! ### lookups -/
@[simp] theorem l_ix {n : Nat} {i : Int} {h : Mh} : dIx (.ref n) (.int i) h = match h[n]? with
    | some (.lst ds) => match atI ds i with
      | some d => .ok d h
      | none => .bad
    | some (.fls ds) => match atI ds i with
      | some d => .ok d h
      | none => .bad
    | _ => .bad := rfl
@[simp] theorem l_len {n : Nat} {h : Mh} : dLen [.ref n] h = match h[n]? with
    | some (.lst xs) => .ok (.int (xs.length : Nat)) h
    | some (.fls xs) => .ok (.int (xs.length : Nat)) h
    | some (.dk kvs) => .ok (.int (kvs.length : Nat)) h
    | some (.dt kvs) => .ok (.int (kvs.length : Nat)) h
    | _ => .bad := rfl
@[simp] theorem l_get {n : Nat} {k : D} {h : Mh} : dGet (.ref n) k h = match h[n]? with
    | some o => match lookD o k with
      | some (some d) => .ok d h
      | _ => .bad
    | none => .bad := rfl
@[simp] theorem l_din {n : Nat} {k : D} {h : Mh} {neg : Bool} : dDIn neg k (.ref n) h = match h[n]? with
    | some o => match lookD o k with
      | some r => .ok (.bl (if neg then !r.isSome else r.isSome)) h
      | none => .bad
    | none => .bad := rfl
@[simp] theorem look_dk {kvs : List (Key × D)} {k : D} : lookD (.dk kvs) k = (keyD k).map (valD kvs) := rfl
@[simp] theorem look_zk {kvs : List (Key × D)} {k : D} : lookD (.zk kvs) k = (keyD k).map (valD kvs) := rfl
@[simp] theorem look_dt {kvs : List (List Key × D)} {k : D} : lookD (.dt kvs) k = (keyT k).map (valD kvs) := rfl
@[simp] theorem look_zt {kvs : List (List Key × D)} {k : D} : lookD (.zt kvs) k = (keyT k).map (valD kvs) := rfl
@[simp] theorem l_putL {n : Nat} {z : Int} {v : D} {h : Mh} : dPutL (.ref n) (.int z) v h = match h[n]? with
    | some (.lst xs) => (ixN xs.length z).map fun j => h.set n (.lst (xs.set j v))
    | _ => none := rfl
@[simp] theorem l_putD {n : Nat} {k v : D} {h : Mh} : dPutD (.ref n) k v h = match h[n]? with
    | some o => (storeD o k v).map fun u => h.set n u
    | none => none := rfl
open Classical in
@[simp] theorem store_dk {kvs : List (Key × D)} {k v : D} : storeD (.dk kvs) k v = match keyD k with
    | some key => if LenC kvs.length then some (.dk (putD kvs key v)) else none
    | none => none := by
  unfold storeD
  dsimp only
  cases keyD k with
  | none => rfl
  | some key =>
    dsimp only
    by_cases c : LenC kvs.length
    · rw [if_pos c, if_pos c.r]
    · rw [if_neg c, if_neg (fun z => c ⟨z⟩)]
open Classical in
@[simp] theorem store_dt {kvs : List (List Key × D)} {k v : D} : storeD (.dt kvs) k v = match keyT k with
    | some key => if LenC kvs.length then some (.dt (putD kvs key v)) else none
    | none => none := by
  unfold storeD
  dsimp only
  cases keyT k with
  | none => rfl
  | some key =>
    dsimp only
    by_cases c : LenC kvs.length
    · rw [if_pos c, if_pos c.r]
    · rw [if_neg c, if_neg (fun z => c ⟨z⟩)]
@[simp] theorem l_iter {n : Nat} {h : Mh} : dIter (.ref n) h = match h[n]? with
    | some (.lst ds) => .ok (srcL n ds) h
    | some (.fls ds) => .ok (srcL n ds) h
    | some (.zk kvs) => .ok (srcT (kvs.map fun kv => dKey kv.1)) h
    | some (.zt kvs) => .ok (srcT (kvs.map fun kv => .tup (kv.1.map dKey))) h
    | _ => .bad := rfl
open Classical in
@[simp] theorem l_app {n : Nat} {y : D} {h : Mh} : dAppend (.ref n) [y] h = match h[n]? with
    | some (.lst xs) => if LenC xs.length then .ok .non (h.set n (.lst (xs ++ [y]))) else .bad
    | _ => .bad := by
  unfold dAppend
  dsimp only
  cases h[n]? with
  | none => rfl
  | some o =>
    cases o with
    | lst xs =>
      dsimp only
      by_cases c : LenC xs.length
      · rw [if_pos c, if_pos c.r]
      · rw [if_neg c, if_neg (fun z => c ⟨z⟩)]
    | _ => rfl
open Classical in
@[simp] theorem l_lenS {x : Str} {h : Mh} : dLen [.str x] h = if LenE x.length then .ok (.int (x.length : Nat)) h else .bad := by
  by_cases c : LenE x.length
  · rw [if_pos c]; exact if_pos c.r
  · rw [if_neg c]; exact if_neg fun z => c ⟨z⟩
open Classical in
@[simp] theorem l_ixS {x : Str} {i : Int} {h : Mh} : dIx (.str x) (.int i) h = if LenE x.length then match atI x.cps.toList i with
    | some c => .ok (.str ⟨#[c]⟩) h
    | none => .bad else .bad := by
  by_cases c : LenE x.length
  · rw [if_pos c]; exact if_pos c.r
  · rw [if_neg c]; exact if_neg fun z => c ⟨z⟩
open Classical in
@[simp] theorem l_slS {x : Str} {lo hi : Option Int} {h : Mh} : dSl (.str x) lo hi h = if LenE x.length then .ok (.str (cutS x lo hi)) h else .bad := by
  by_cases c : LenE x.length
  · rw [if_pos c]; exact if_pos c.r
  · rw [if_neg c]; exact if_neg fun z => c ⟨z⟩
@[simp] theorem l_isTy {T : String} {n : Nat} {h : Mh} : isTy T (.ref n) h = match h[n]? with
    | some (.lst _) => T == "list"
    | some (.fls _) => T == "list"
    | some (.dk _) => T == "dict"
    | _ => false := rfl
@[simp] theorem key_s {x : Str} : keyD (.str x) = some (.inr x) := rfl
@[simp] theorem l_sl {n : Nat} {lo hi : Option Int} {h : Mh} : dSl (.ref n) lo hi h = match h[n]? with
    | some (.lst ds) => .ok (.ref h.length) (h ++ [.lst (cutD ds lo hi)])
    | some (.fls ds) => .ok (.ref h.length) (h ++ [.lst (cutD ds lo hi)])
    | _ => .bad := rfl
@[simp] theorem l_zip {n m : Nat} {h : Mh} : dZip [.ref n, .ref m] h = match lstOf h n, lstOf h m with
    | some xs, some ys => .ok (srcZ n m xs ys) h
    | _, _ => .bad := rfl
@[simp] theorem l_lstOf {n : Nat} {h : Mh} : lstOf h n = match h[n]? with
    | some (.lst ds) => some ds
    | some (.fls ds) => some ds
    | _ => none := rfl
@[simp] theorem l_list {n : Nat} {h : Mh} : dList [.ref n] h = match lstOf h n with
    | some xs => .ok (.ref h.length) (h ++ [.lst xs])
    | none => .bad := rfl
@[simp] theorem srcL_items {n ds} : (srcL n ds).items = ds := rfl
@[simp] theorem srcT_items {ds} : (srcT ds).items = ds := rfl
@[simp] theorem srcT_at {ds i x h} : (srcT ds).at' i x h = True := rfl
@[simp] theorem srcT_fin {ds i h} : (srcT ds).fin i h = True := rfl
@[simp] theorem srcR_items {lo n} : (srcR lo n).items = (List.range n).map fun k : Nat => .int (lo + (k : Int)) := rfl
@[simp] theorem srcR_at {lo n i x h} : (srcR lo n).at' i x h = True := rfl
@[simp] theorem srcR_fin {lo n i h} : (srcR lo n).fin i h = True := rfl
@[simp] theorem g_nm {i d sg} : gNm i d sg = some (sg.set i (some d)) := rfl
@[simp] theorem g_two {i j : Nat} {a b : D} {sg : Sg} : gTp 2 (gsCons (gNm i) (gsCons (gNm j) gsNil)) (.tup [a, b]) sg = some ((sg.set i (some a)).set j (some b)) := rfl
@[simp] theorem g_three {i j k : Nat} {a b c : D} {sg : Sg} : gTp 3 (gsCons (gNm i) (gsCons (gNm j) (gsCons (gNm k) gsNil))) (.tup [a, b, c]) sg = some (((sg.set i (some a)).set j (some b)).set k (some c)) := rfl
theorem srcL_at {n ds i x h} (e : h[n]? = some (.lst ds)) (q : ds[i]? = some x) : (srcL n ds).at' i x h := ⟨ds, .inl e, q⟩
theorem srcL_fin {n ds h} (e : h[n]? = some (.lst ds)) : (srcL n ds).fin ds.length h := ⟨ds, .inl e, Nat.le_refl _⟩
end Mo

namespace Mo
open PySem PySem.Spec PyProof.Rows L2
section
variable {X : Cx} {W : WX} {a b c e f : Expr} {es : List Expr} {ma mb mc me mf : Sg → Mh → R D} {pos apos : Pos}
/-! ### d.get(k, x) -/
def isDk (d : D) (h : Mh) : Bool := match d with
  | .ref n => match h[n]? with
    | some (.dk _) => true
    | some (.dt _) => true
    | some (.zk _) => true
    | some (.zt _) => true
    | _ => false
  | _ => false
theorem isDk_of {K mg ρ H h} {v : V} {d : D} (rh : RHp K mg ρ H h) (r : RV K mg ρ H v d) (e : isDk d h = true) : ∃ a, v = .ref a ∧ IsD H a := by
  unfold isDk at e
  split at e
  · cases r with
    | ref r =>
      refine ⟨_, rfl, ?_⟩
      split at e
      · rename_i e0; cases rh.at r e0 with
        | dk h1 _ _ => exact .inl ⟨_, .inl h1⟩
      · rename_i e0; cases rh.at r e0 with
        | dt h1 _ _ => exact .inr ⟨_, .inl h1⟩
      · rename_i e0; cases rh.at r e0 with
        | zk h1 _ _ => exact .inl ⟨_, .inr ⟨_, h1⟩⟩
      · rename_i e0; cases rh.at r e0 with
        | zt h1 _ _ => exact .inr ⟨_, .inr ⟨_, h1⟩⟩
      · cases e
  · cases e
def dGetOr (x k z : D) (h : Mh) : R D := match x with
  | .ref n => match h[n]? with
    | some o => match lookD o k with
      | some (some d) => .ok d h
      | some none => .ok z h
      | none => .bad
    | none => .bad
  | _ => .bad
def mGet2 (ma me mf : Sg → Mh → R D) : Sg → Mh → R D := fun sg h => (ma sg h).bind fun x h1 => if isDk x h1 = true then (me sg h1).bind fun k h2 => (mf sg h2).bind fun z h3 => dGetOr x k z h3 else .bad
theorem q_get2 (hu : X.A.units + 1 < cLine) (ha : PM X W a ma) (he : PM X W e me) (hf : PM X W f mf) (m : M2 X a "get" apos e f pos := by exact ⟨rfl, rfl, rfl, rfl⟩) : PM X W (.Call (.Attribute a "get" apos) [e, f] [] pos) (mGet2 ma me mf) :=
  ⟨PEimp (pe_dget2 hu ha.pe he.pe hf.pe m) fun σ H Q ⟨ρ, sg, h, hst, rh, w⟩ => TM.go hst rh w fun ρ1 H1 h1 v d le rh1 rv w1 => by
    split at w1
    · rename_i hd
      obtain ⟨ad, ev, isd⟩ := isDk_of rh1 rv hd
      refine ⟨ad, ev, isd, TM.go (hst.mono le) rh1 w1 fun ρ2 H2 h2 v2 d2 le2 rh2 rv2 w2 => TM.go ((hst.mono le).mono le2) rh2 w2 fun ρ3 H3 h3 v3 d3 le3 rh3 rv3 w3 => ?_⟩
      unfold dGetOr at w3
      split at w3
      · have r := rv.mono (le2.trans le3)
        rw [ev] at r
        cases r with
        | ref r =>
          split at w3
          · rename_i o e0
            split at w3
            · rename_i d' ed
              obtain ⟨r', g, z⟩ := look_of (rh3.at r e0) (rv2.mono le3) ed
              obtain ⟨v', hv, rz⟩ := rk_some z
              subst hv
              exact ⟨_, g, w3.okI Le.refl rh3 rz⟩
            · rename_i ed
              obtain ⟨r', g, z⟩ := look_of (rh3.at r e0) (rv2.mono le3) ed
              cases z
              exact ⟨_, g, w3.okI Le.refl rh3 rv3⟩
            · exact w3.elim
          · exact w3.elim
      · exact w3.elim
    · exact w1.elim⟩
/-! ### a dict is locked while it is walked -/
def lockO : MO → Option MO
  | .dk kvs => some (.zk kvs)
  | .dt kvs => some (.zt kvs)
  | _ => none
def isZ : Option MO → Bool
  | some (.zk _) => true
  | some (.zt _) => true
  | _ => false
def mLk (at' : Sg → Mh → Option Nat) (m : Sg → Mh → R D) : Sg → Mh → R D := fun sg h => match at' sg h with
  | some n => match h[n]? with
    | some o => match lockO o with
      | some z => (m sg (h.set n z)).nox.bind fun d h' => if isZ h'[n]? = true then .ok d (h'.set n o) else .bad
      | none => .bad
    | none => .bad
  | none => .bad
def atVar (i : Nat) : Sg → Mh → Option Nat := fun sg _ => match sg[i]? with
  | some (some (.ref n)) => some n
  | _ => none
/-- what locking and unlocking do -/
theorem lock_at {K mg} {ρ : Ren} {H : Hp} {h : Mh} {n : Nat} {o z : MO} (rh : RHp K mg ρ H h) (e0 : h[n]? = some o) (ez : lockO o = some z) : ∃ (d : Addr) (u : HO), ρ[n]? = some d ∧ H d = some u ∧ Mut (some u) ∧ ∀ od, Le K ρ H ρ (upd H d (.frz od u)) ∧ RHp K mg ρ (upd H d (.frz od u)) (h.set n z) ∧
    ∀ ρ' H' h', Le K ρ (upd H d (.frz od u)) ρ' H' → RHp K mg ρ' H' h' → isZ h'[n]? = true → H' d = some (.frz od u) ∧ Lw K ρ' H' ρ' (upd H' d u) ∧ RHp K mg ρ' (upd H' d u) (h'.set n o) ∧ Le K ρ H ρ' (upd H' d u) := by
  have hl : n < ρ.length := by rw [rh.len]; exact (List.getElem?_eq_some_iff.mp e0).1
  obtain ⟨d, hd⟩ : ∃ d, ρ[n]? = some d := ⟨_, List.getElem?_eq_getElem hl⟩
  have ro := rh.at hd e0
  have fin : ∀ (u : HO) (od : Obj), H d = some u → notTup u → notTupW (.frz od u) → ∀ ρ' H' h', Le K ρ (upd H d (.frz od u)) ρ' H' → RHp K mg ρ' H' h' → isZ h'[n]? = true → o.mu = true → (RVsOk : (Lw K ρ H ρ' (upd H' d u) → RO K mg ρ' (upd H' d u) d o)) →
      H' d = some (.frz od u) ∧ Lw K ρ' H' ρ' (upd H' d u) ∧ RHp K mg ρ' (upd H' d u) (h'.set n o) ∧ Le K ρ H ρ' (upd H' d u) := by
    intro u od hu nt ntw ρ' H' h' le' rh' hz mo hro
    have f1 : H' d = some (.frz od u) := le'.frz d od u upd_same
    have lw1 : Lw K ρ' H' ρ' (upd H' d u) := Lw.write f1 ntw
    have lw0 : Lw K ρ H ρ (upd H d (.frz od u)) := Lw.write hu nt.w
    have lw : Lw K ρ H ρ' (upd H' d u) := ⟨fun m x q => le'.pre m x q, fun x vs q => lw1.tup x vs (le'.tup x vs (lw0.tup x vs q)), fun x vs q => lw1.tpl x vs (le'.tpl x vs (lw0.tpl x vs q))⟩
    obtain ⟨y, ey, my⟩ : ∃ y, h'[n]? = some y ∧ y.mu = true := by
      unfold isZ at hz
      split at hz
      · exact ⟨_, by assumption, rfl⟩
      · exact ⟨_, by assumption, rfl⟩
      · cases hz
    refine ⟨f1, lw1, rh'.write (le'.pre _ _ hd) ey my mo f1 ntw (hro lw), ⟨lw.pre, lw.tup, lw.tpl, fun x o1 u1 q => ?_⟩⟩
    have ne : x ≠ d := fun z => by rw [z, hu] at q; cases q; exact nt
    rw [upd_ne ne]
    exact le'.frz x o1 u1 (by rw [upd_ne ne]; exact q)
  cases o with
  | dk kds =>
    cases ez
    cases ro with
    | @dk kvs _ hd' ke q =>
      refine ⟨d, _, hd, hd', trivial, fun od => ?_⟩
      have le : Le K ρ H ρ (upd H d (.frz od (.dK kvs))) := Le.write hd' trivial
      exact ⟨le, rh.write hd e0 rfl rfl hd' trivial (.zk upd_same ke (q.mono le)), fun ρ' H' h' le' rh' hz => fin _ od hd' trivial trivial ρ' H' h' le' rh' hz rfl fun lw => .dk upd_same ke (q.monoW lw)⟩
  | dt kds =>
    cases ez
    cases ro with
    | @dt kvs _ hd' ke q =>
      refine ⟨d, _, hd, hd', trivial, fun od => ?_⟩
      have le : Le K ρ H ρ (upd H d (.frz od (.dT kvs))) := Le.write hd' trivial
      exact ⟨le, rh.write hd e0 rfl rfl hd' trivial (.zt upd_same ke (q.mono le)), fun ρ' H' h' le' rh' hz => fin _ od hd' trivial trivial ρ' H' h' le' rh' hz rfl fun lw => .dt upd_same ke (q.monoW lw)⟩
  | _ => cases ez
theorem RV.unW {K mg ρ H H'} {v : V} {d : D} (lw : Lw K ρ H ρ H') (r : RV K mg ρ H v d) : RV K mg ρ H' v d := r.monoW lw
theorem q_lk (at' : Sg → Mh → Option Nat) (ha : PM X W a ma) : PM X W a (mLk at' ma) := ⟨PEimp (pe_lock ha.pe) fun σ H Q ⟨ρ, sg, h, hs, rh, w⟩ => by
  unfold mLk at w
  split at w
  · split at w
    · rename_i o e0
      split at w
      · rename_i z ez
        obtain ⟨d, u, hd, hu, mu, key⟩ := lock_at rh e0 ez
        refine ⟨d, u, hu, mu, fun od => ?_⟩
        obtain ⟨le, rhz, k2⟩ := key od
        refine ⟨ρ, sg, _, hs.mono le, rhz, ?_⟩
        cases em : ma sg (h.set _ z) with
        | bad => rw [em] at w; exact w.elim
        | exc c fs h' => rw [em] at w; exact w.elim
        | ok x h' =>
          rw [em] at w
          show WG _ _ _ _ _ _ _ _ (R.ok x h')
          intro ρ' H' v le' rh' rv
          have w' : WG X.K X.mg (RV X.K X.mg) W σ Q ρ H (if isZ h'[_]? = true then R.ok x (h'.set _ o) else .bad) := w
          split at w'
          · rename_i hz
            obtain ⟨f1, lw1, rh2, le2⟩ := k2 ρ' H' h' le' rh' hz
            exact ⟨f1, w' ρ' _ v le2 rh2 (rv.monoW lw1)⟩
          · exact w'.elim
      · exact w.elim
    · exact w.elim
  · exact w.elim⟩
def sLk (at' : Sg → Mh → Option Nat) (m : Sg → Mh → RS) : Sg → Mh → RS := fun sg h => match at' sg h with
  | some n => match h[n]? with
    | some o => match lockO o with
      | some z => match m sg (h.set n z) with
        | .nx sg' h' => if isZ h'[n]? = true then .nx sg' (h'.set n o) else .bad
        | .rt d h' => if isZ h'[n]? = true then .rt d (h'.set n o) else .bad
        | .bk sg' h' => if isZ h'[n]? = true then .bk sg' (h'.set n o) else .bad
        | .ct sg' h' => if isZ h'[n]? = true then .ct sg' (h'.set n o) else .bad
        | _ => .bad
      | none => .bad
    | none => .bad
  | none => .bad
theorem RSt.monoW {K mg} {ρ ρ' : Ren} {H H' : Hp} {σ : L2.St} {sg : Sg} (lw : Lw K ρ H ρ' H') (r : RSt K mg ρ H σ sg) : RSt K mg ρ' H' σ sg := ⟨r.len, fun i d h => let ⟨v, e, q⟩ := r.val i d h; ⟨v, e, q.monoW lw⟩⟩
theorem s_lk (at' : Sg → Mh → Option Nat) {st : Stmt} {m : Sg → Mh → RS} (ha : PSM X W st m) : PSM X W st (sLk at' m) := ⟨PSimp (ps_lock ha.ps) fun E σ H ⟨ρ, sg, h, hs, rh, w⟩ => by
  unfold sLk at w
  split at w
  · split at w
    · rename_i o e0
      split at w
      · rename_i z ez
        obtain ⟨d, u, hd, hu, mu, key⟩ := lock_at rh e0 ez
        refine ⟨d, u, hu, mu, fun od => ?_⟩
        obtain ⟨le, rhz, k2⟩ := key od
        refine ⟨ρ, sg, _, hs.mono le, rhz, ?_⟩
        split at w <;> first
          | (rename_i em
             rw [em]
             split at w <;> first
               | (rename_i hz
                  intro ρ' H' v le' rh' rv
                  obtain ⟨f1, lw1, rh2, le2⟩ := k2 ρ' H' _ le' rh' hz
                  exact ⟨f1, w ρ' _ v le2 rh2 (rv.monoW lw1)⟩)
               | exact w.elim)
          | exact w.elim
      · exact w.elim
    · exact w.elim
  · exact w.elim⟩
/-! ### name op= e -/
def sAug (i : Nat) (f : D → D → Mh → R D) (m : Sg → Mh → R D) : Sg → Mh → RS := fun sg h => match sg[i]? with
  | some (some x) => (m sg h).th sg fun y h1 => (f x y h1).th sg fun z h2 => .nx (sg.set i (some z)) h2
  | _ => .bad
theorem s_aug (i : Nat) {x : Str} {op : Operator} {r : R2} {f : D → D → Mh → R D} {pos' : Pos} (ho : OpR X (inplaceOp op) r) (s : Sem2 X r f) (hN : X.N.Nodup) (ha : PM X W a ma) (hi : X.N[i]? = some x := by rfl) (hx : Loc X.env.scope x := by first | exact Or.inl rfl | exact Or.inr rfl)
    (hf : X.fn x = true ∨ X.env.scope.names.lookup x = some .local := by first | exact .inl rfl | exact .inr rfl) : PSM X W (.AugAssign (.Name x pos') op a pos) (sAug i f ma) :=
  ⟨PSimp (ps_aug (ti := r) hN hi hx ha.pe (fun pins s σ H x y v u Q I rx ry q => ho pins s σ H x y v u Q I rx ry q) hf) fun E σ H ⟨ρ, sg, h, hs, rh, w⟩ => by
    unfold sAug at w
    split at w
    · rename_i d0 e
      obtain ⟨v, e1, rv⟩ := hs.val i d0 e
      refine ⟨v, e1, TM.goS hs rh w fun ρ1 H1 h1 y d le rh1 ry w1 => ?_⟩
      refine s W σ ρ1 H1 h1 _ v y d0 d rh1 (rv.mono le) ry (WS.cutS (hs.mono le) w1 fun ρ2 H2 h2 z dz le2 rh2 rz w2 => ?_)
      exact w2.nxI Le.refl rh2 (((hs.mono le).mono le2).set i rz)
    · exact w.elim⟩
def dIAdd : D → D → Mh → R D
  | .int i, .int j, h => .ok (.int (i + j)) h
  | .str a, .str b, h => if a.length + b.length ≤ sizeLine then .ok (.str (a ++ b)) h else .bad
  | .ref n, .ref m, h => match h[n]?, h[m]? with
    | some (.lst a), some (.lst b) => if a.length + b.length ≤ sizeLine then .ok (.ref n) (h.set n (.lst (a ++ b))) else .bad
    | _, _ => .bad
  | _, _, _ => .bad
def rIAdd : R2 := fun x y H Q => rI0 (fun i j => .int (i + j)) x y H Q ∨ (∃ i j, x = V.str i ∧ y = V.str j ∧ i.length + j.length ≤ sizeLine ∧ Q (V.str (i ++ j)) H) ∨ rExt2 x y H Q
theorem iop_add3 : OpR X (inplaceOp .Add) rIAdd := OpRor iop_add (OpRor iop_add_str iop_ext)
theorem sem_iadd : Sem2 X rIAdd dIAdd := by
  intro W σ ρ H h Q v1 v2 d1 d2 rh r1 r2 w
  unfold dIAdd at w
  split at w
  · cases r1; cases r2; exact .inl ⟨_, _, rfl, rfl, w.okI Le.refl rh (.int _)⟩
  · split at w
    · rename_i hz
      cases r1; cases r2; exact .inr (.inl ⟨_, _, rfl, rfl, hz, w.okI Le.refl rh (.str _)⟩)
    · exact w.elim
  · split at w
    · split at w
      · rename_i e1 e2 hz
        cases r1 with
        | ref r1 =>
          cases r2 with
          | ref r2 =>
            cases rh.at r1 e1 with
            | lst h1 q1 =>
              cases rh.at r2 e2 with
              | lst h2 q2 =>
                have l1 := q1.length
                have l2 := q2.length
                exact .inr (.inr ⟨_, _, _, _, rfl, rfl, h1, h2, by omega, w.wr rh r1 e1 h1 (q1.append q2) (.ref r1)⟩)
      · exact w.elim
    · exact w.elim
  · exact w.elim
section
variable {x : Str} {pos' : Pos}
theorem s_iadd (i : Nat) (hN : X.N.Nodup) (ha : PM X W a ma) (hi : X.N[i]? = some x := by rfl) (hx : Loc X.env.scope x := by first | exact Or.inl rfl | exact Or.inr rfl) (hf : X.fn x = true ∨ X.env.scope.names.lookup x = some .local := by first | exact .inl rfl | exact .inr rfl) : PSM X W (.AugAssign (.Name x pos') .Add a pos) (sAug i dIAdd ma) := s_aug i iop_add3 sem_iadd hN ha hi hx hf
theorem s_isub (i : Nat) (hN : X.N.Nodup) (ha : PM X W a ma) (hi : X.N[i]? = some x := by rfl) (hx : Loc X.env.scope x := by first | exact Or.inl rfl | exact Or.inr rfl) (hf : X.fn x = true ∨ X.env.scope.names.lookup x = some .local := by first | exact .inl rfl | exact .inr rfl) : PSM X W (.AugAssign (.Name x pos') .Sub a pos) (sAug i dSub ma) := s_aug i iop_sub (sem_I0 fun _ _ _ _ => .int _) hN ha hi hx hf
theorem s_ixor (i : Nat) (hN : X.N.Nodup) (ha : PM X W a ma) (hi : X.N[i]? = some x := by rfl) (hx : Loc X.env.scope x := by first | exact Or.inl rfl | exact Or.inr rfl) (hf : X.fn x = true ∨ X.env.scope.names.lookup x = some .local := by first | exact .inl rfl | exact .inr rfl) : PSM X W (.AugAssign (.Name x pos') .BitXor a pos) (sAug i dBxor ma) := s_aug i iop_xor (sem_I0 fun _ _ _ _ => .int _) hN ha hi hx hf
theorem s_ior (i : Nat) (hN : X.N.Nodup) (ha : PM X W a ma) (hi : X.N[i]? = some x := by rfl) (hx : Loc X.env.scope x := by first | exact Or.inl rfl | exact Or.inr rfl) (hf : X.fn x = true ∨ X.env.scope.names.lookup x = some .local := by first | exact .inl rfl | exact .inr rfl) : PSM X W (.AugAssign (.Name x pos') .BitOr a pos) (sAug i dBor ma) := s_aug i iop_or (sem_I0 fun _ _ _ _ => .int _) hN ha hi hx hf
theorem s_iand (i : Nat) (hN : X.N.Nodup) (ha : PM X W a ma) (hi : X.N[i]? = some x := by rfl) (hx : Loc X.env.scope x := by first | exact Or.inl rfl | exact Or.inr rfl) (hf : X.fn x = true ∨ X.env.scope.names.lookup x = some .local := by first | exact .inl rfl | exact .inr rfl) : PSM X W (.AugAssign (.Name x pos') .BitAnd a pos) (sAug i dBand ma) := s_aug i iop_and (sem_I0 fun _ _ _ _ => .int _) hN ha hi hx hf
theorem s_imul (i : Nat) (hN : X.N.Nodup) (ha : PM X W a ma) (hi : X.N[i]? = some x := by rfl) (hx : Loc X.env.scope x := by first | exact Or.inl rfl | exact Or.inr rfl) (hf : X.fn x = true ∨ X.env.scope.names.lookup x = some .local := by first | exact .inl rfl | exact .inr rfl) : PSM X W (.AugAssign (.Name x pos') .Mult a pos) (sAug i (dII cMul fun i j => .int (i * j)) ma) := s_aug i iop_mul (sem_II (fun _ _ h => cMul_ok h) fun _ _ _ _ => .int _) hN ha hi hx hf
end
/-! ### *e among items -/
def itemsOf (d : D) (h : Mh) : Option (List D) := match d with
  | .tup ds => some ds
  | .kt ds => some ds
  | .ref n => lstOf h n
  | _ => none
theorem itemsOf_of {K mg ρ H h} {v : V} {d : D} {ds : List D} (rh : RHp K mg ρ H h) (r : RV K mg ρ H v d) (e : itemsOf d h = some ds) : ∃ p xs, v = .ref p ∧ (SqT K H p xs ∨ SqL K H p xs) ∧ RVs K mg ρ H xs ds := by
  cases r with
  | tup t q => cases e; exact ⟨_, _, rfl, .inl (SqT.of t), q⟩
  | kt t q => cases e; exact ⟨_, _, rfl, .inl t, q⟩
  | ref r =>
    obtain ⟨vs, s1, q⟩ := (lstOf_at e).sq rh r
    exact ⟨_, _, rfl, .inr s1, q⟩
  | _ => cases e
def mStar (m : Sg → Mh → R D) (r : Sg → Mh → R (List D)) : Sg → Mh → R (List D) := fun sg h => (m sg h).bind fun d h1 => match itemsOf d h1 with
  | some xs => (r sg h1).bind fun ds h2 => .ok (xs ++ ds) h2
  | none => .bad
theorem l_star {p : Pos} {m : Sg → Mh → R D} {r : Sg → Mh → R (List D)} (he : PM X W e m) (hr : PL X W es r) (hs : starEach (.Starred e p :: es) X.env = (true, eval e X.env) :: starEach es X.env := by rfl) : PL X W (.Starred e p :: es) (mStar m r) :=
  ⟨PAimp (StX.pa_star he.pe hr.pa hs) fun σ H Q ⟨ρ, sg, h, hs, rh, w⟩ => TM.go hs rh w fun ρ1 H1 h1 v d le rh1 rv w1 => by
    split at w1
    · rename_i xs ex
      obtain ⟨p, vs, rfl, sq, q⟩ := itemsOf_of rh1 rv ex
      exact ⟨p, vs, rfl, sq, TMl.go (hs.mono le) rh1 w1 fun ρ2 H2 h2 us ds le2 rh2 rus w2 => w2.okI Le.refl rh2 ((q.mono le2).append rus)⟩
    · exact w1.elim⟩
/-! ### tuple(e), sum(e), xs[::-1] -/
def dTuple (ds : List D) (h : Mh) : R D := match ds with
  | [.tup xs] => .ok (.tup xs) h
  | [.kt xs] => .ok (.kt xs) h
  | [.ref n] => match lstOf h n with
    | some xs => .ok (.tup xs) h
    | none => .bad
  | _ => .bad
theorem sem_tuple : SemL X (fun xs H Q => ∃ p ys, xs = [V.ref p] ∧ ((SqL X.K H p ys ∧ ∀ l, H l = none → Q (.ref l) (upd H l (.tup ys))) ∨ (SqT X.K H p ys ∧ Q (.ref p) H))) dTuple := by
  intro W σ ρ H h Q vs ds rh rvs w
  unfold dTuple at w
  split at w
  · cases rvs with
    | cons r t =>
      cases t
      cases r with
      | tup t q => exact ⟨_, _, rfl, .inr ⟨SqT.of t, w.okI Le.refl rh (.tup t q)⟩⟩
  · cases rvs with
    | cons r t =>
      cases t
      cases r with
      | kt t q => exact ⟨_, _, rfl, .inr ⟨t, w.okI Le.refl rh (.kt t q)⟩⟩
  · split at w
    · rename_i e0
      cases rvs with
      | cons r t =>
        cases t
        cases r with
        | ref r =>
          obtain ⟨vs, s1, q⟩ := (lstOf_at e0).sq rh r
          exact ⟨_, _, rfl, .inl ⟨s1, fun p hp => w.tuple rh hp q⟩⟩
    · exact w.elim
  · exact w.elim
end
end Mo

namespace Mo
open PySem PySem.Spec PyProof.Rows L2
section
variable {prog : Program} {w : World} {A : Around} {E : Value → Shared → Prop} {s : Shared} {l : Addr}
theorem sum_tup_raw {its : List Value} {ns : List Int} {Q : Value → Shared → Prop} (hh : A.handled = none) (hl : IsTup s.heap l its.toArray) (hi : IntsAre its ns)
    (h : ∀ h' tk t', (∀ b o, s.heap.get? b = some o → h'.get? b = some o) → Q (.int ns.sum t') { s with heap := h', toks := tk }) : wpAny (model prog w) A (call (.builtin "sum") [.ref l]) Q E s := by
  obtain ⟨xs, e⟩ := hi.allInts.items
  have hn : numsOf (intItems xs).toList = ns := by rw [← e]; exact hi.numsOf
  rw [nums_intItems] at hn
  rw [e] at hl
  have hl' : s.heap.IsTuple l (intItems xs) := hl
  have hlt : l < s.heap.objs.size := by obtain ⟨_, q, _⟩ := hl; exact Heap.lt_size q
  refine call_sum_walkG (wpAny_pyIter_tuple hl' ?_)
  refine ⟨_, _, _, _, _, _, numAt xs, rfl, Walks.tuple (A := A.in1) hh _ l (Nat.ne_of_lt hlt) (intItems xs), ⟨⟨_, Heap.get?_push_size _ rfl, rfl, rfl⟩, hl'.push _⟩, (fun b hb => ?_), (fun _ _ => intItems_at), fun h' tk t' hk => ?_⟩
  · show b < (s.heap.push _).objs.size
    rw [Heap.size_push]
    rcases List.mem_cons.mp hb with rfl | hb
    · exact Nat.lt_succ_self _
    · rcases List.mem_cons.mp hb with rfl | hb
      · exact Nat.lt_succ_of_lt hlt
      · cases hb
  · have := h h' tk t' (fun b o e => by
      refine hk b o (fun hm => ?_) (Heap.get?_push_of_some _ e)
      rcases List.mem_cons.mp hm with e1 | hm
      · exact absurd (e1 ▸ Heap.lt_size e) (Nat.lt_irrefl _)
      · cases hm)
    have e2 : preSum (numAt xs) (intItems xs).size = ns.sum := by
      rw [preSum_eq, List.take_of_length_le (by simp [intItems]), hn]
    rw [e2]
    exact this
end
section
variable {X : Cx} {W : WX} {a b c e f : Expr} {es : List Expr} {ma mb mc me mf : Sg → Mh → R D} {ml : Sg → Mh → R (List D)} {pos p apos : Pos}
def rSumT (K : PySem.W.Frag) : List V → Hp → VK → Prop := fun vs H Q => ∃ (a : Addr) (ns : List Int), vs = [V.ref a] ∧ SqT K H a (ns.map V.int) ∧ Q (.int ns.sum) H
theorem cr_sumT (hc : X.calm = true) : CallR X (.builtin "sum") (rSumT X.K) := by
  intro pins s σ H vs us Q I r h
  obtain ⟨a, ns, rfl, hs, q⟩ := h
  obtain ⟨its, rv, hl, _⟩ := I.tuple hs
  rw [Vals.ref1 r]
  exact sum_tup_raw (I.ok.hd hc) hl rv.ints fun h' tk t' hk => ⟨.int _, H, I.kept hk, ⟨_, rfl⟩, q⟩
def intsOf : List D → Option (List Int)
  | [] => some []
  | .int b :: r => (intsOf r).map (b :: ·)
  | _ :: _ => none
theorem intsOf_eq : ∀ {ds : List D} {bs : List Int}, intsOf ds = some bs → ds = bs.map D.int
  | [], bs, e => by cases e; rfl
  | .int b :: r, bs, e => by
    unfold intsOf at e
    obtain ⟨cs, e1, e2⟩ := Option.map_eq_some_iff.mp e
    subst e2
    rw [intsOf_eq e1]; rfl
  | .non :: _, _, e => by cases e
  | .bl _ :: _, _, e => by cases e
  | .str _ :: _, _, e => by cases e
  | .tup _ :: _, _, e => by cases e
  | .kt _ :: _, _, e => by cases e
  | .ref _ :: _, _, e => by cases e
  | .ty _ :: _, _, e => by cases e
  | .glo _ :: _, _, e => by cases e
def dSum (ds : List D) (h : Mh) : R D := match ds with
  | [d] => match itemsOf d h with
    | some xs => match intsOf xs with
      | some ns => .ok (.int ns.sum) h
      | none => .bad
    | none => .bad
  | _ => .bad
theorem sem_sum : SemL X (fun xs H Q => rSum X.K xs H Q ∨ rSumT X.K xs H Q) dSum := by
  intro W σ ρ H h Q vs ds rh rvs w
  unfold dSum at w
  split at w
  · split at w
    · rename_i xs ex
      split at w
      · rename_i ns en
        cases rvs with
        | cons r t =>
          cases t
          obtain ⟨p, ys, rfl, sq, q⟩ := itemsOf_of rh r ex
          rw [intsOf_eq en] at q
          rw [q.ints] at sq
          rcases sq with sq | sq
          · exact .inr ⟨p, ns, rfl, sq, w.okI Le.refl rh (.int _)⟩
          · exact .inl ⟨p, ns, rfl, sq, w.okI Le.refl rh (.int _)⟩
      · exact w.elim
    · exact w.elim
  · exact w.elim
theorem q_sum (hc : X.calm = true) (hm : X.mg "sum" = none) (ha : PL X W [e] ml) (hg : Gl X "sum" := by rfl) (he : starEach [e] X.env = (false, eval e X.env) :: starEach [] X.env := by rfl) : PM X W (.Call (.Name "sum" p) [e] [] pos) (mBi dSum ml) := q_bi (CallRor (cr_sum hc) (cr_sumT hc)) sem_sum hm ha (by decide +kernel) hg (by decide) (by decide) he rfl
theorem q_tuplec (hm : X.mg "tuple" = none) (ha : PL X W [e] ml) (hg : Gl X "tuple" := by rfl) (he : starEach [e] X.env = (false, eval e X.env) :: starEach [] X.env := by rfl) : PM X W (.Call (.Name "tuple" p) [e] [] pos) (mBi dTuple ml) := q_ty call_tuple_of sem_tuple hm ha (by decide +kernel) hg (by decide) (by decide) he rfl
/-! xs[::-1] -/
def dRev (d : D) (h : Mh) : R D := match d with
  | .ref n => match lstOf h n with
    | some xs => .ok (.ref h.length) (h ++ [.lst xs.reverse])
    | none => .bad
  | _ => .bad
theorem q_rev {k : Nat} {p1 p2 p3 : Pos} (ha : PM X W a ma) : PM X W (.Subscript a (.Slice none none (some (.UnaryOp .USub (.Constant (.int 1) k p1) p2)) p3) pos) (m1 dRev ma) :=
  ⟨PEimp (pe_revL ha.pe) fun σ H Q ⟨ρ, sg, h, hs, rh, w⟩ => TM.go hs rh w fun ρ1 H1 h1 v d le rh1 rv w1 => by
    unfold dRev at w1
    split at w1
    · split at w1
      · rename_i e0
        cases rv with
        | ref r =>
          obtain ⟨vs, s1, q⟩ := (lstOf_at e0).sq rh1 r
          exact ⟨_, _, rfl, s1, fun p hp => w1.alloc rh1 hp (RO.newList hp q.reverse)⟩
      · exact w1.elim
    · exact w1.elim⟩
end
end Mo
namespace Mo
open PySem PySem.Spec PyProof.Rows L2
def relabelS (scope sc : Scope) : Scope := { scope with names := scope.names.map fun (n, k) => if (k == .free && sc.kind == .function && sc.names.lookup n == some .cell) then (n, .cell) else (n, k) }
theorem blk_nest {N : List Str} {scope0 sc0 scope : Scope} {cl : List (Str × Addr)} {C : Addr} {env : Env} {own : List (Str × Nat)} (h : BlkOk N (relabelS scope0 sc0) scope own) (hs : env.scope = sc0 := by rfl) : BlkOk N (compEnvC scope0 cl C env).scope scope own := by
  subst hs; exact h
end Mo
namespace Mo
open PySem PySem.Spec PyProof.Rows L2
section
variable {X : Cx} {W : WX} {a : Expr} {ma : Sg → Mh → R D} {p pos : Pos}
def dIsi3 (T U Z : String) (x : D) (h : Mh) : R D := match tyD x h with
  | some t => .ok (.bl (isiB t T || (isiB t U || isiB t Z))) h
  | none => .bad
theorem q_isi3 {n n' n3 : Str} {T T' T3 : String} {p2 p3 p4 p5 : Pos} {k : Nat} (hm : X.mg "isinstance" = none) (ha : PM X W a ma) (hmn : X.mg n = none) (hv : bootBuiltins n = some (.type T)) (hmn' : X.mg n' = none) (hv' : bootBuiltins n' = some (.type T')) (hmn3 : X.mg n3 = none) (hv3 : bootBuiltins n3 = some (.type T3)) (hk : knT T = true := by decide) (hk' : knT T' = true := by decide) (hk3 : knT T3 = true := by decide)
    (hg : Gl X "isinstance" := by rfl) (hgn : Gl X n := by rfl) (hgn' : Gl X n' := by rfl) (hgn3 : Gl X n3 := by rfl) (hn : n ≠ "__name__" := by decide) (hd : (n == ("__debug__" : Str)) = false := by decide) (hn' : n' ≠ "__name__" := by decide) (hd' : (n' == ("__debug__" : Str)) = false := by decide) (hn3 : n3 ≠ "__name__" := by decide) (hd3 : (n3 == ("__debug__" : Str)) = false := by decide)
    (he : starEach [a, .Tuple [.Name n p2, .Name n' p3, .Name n3 p5] k p4] X.env = (false, eval a X.env) :: starEach [.Tuple [.Name n p2, .Name n' p3, .Name n3 p5] k p4] X.env := by rfl) (he2 : starEach [.Tuple [.Name n p2, .Name n' p3, .Name n3 p5] k p4] X.env = (false, eval (.Tuple [.Name n p2, .Name n' p3, .Name n3 p5] k p4) X.env) :: starEach [] X.env := by rfl)
    (he3 : starEach [.Name n p2, .Name n' p3, .Name n3 p5] X.env = (false, eval (.Name n p2) X.env) :: starEach [.Name n' p3, .Name n3 p5] X.env := by rfl) (he4 : starEach [.Name n' p3, .Name n3 p5] X.env = (false, eval (.Name n' p3) X.env) :: starEach [.Name n3 p5] X.env := by rfl) (he5 : starEach [.Name n3 p5] X.env = (false, eval (.Name n3 p5) X.env) :: starEach [] X.env := by rfl)
    (hpl : (backTo pos (starEach [.Tuple [.Name n p2, .Name n' p3, .Name n3 p5] k p4] X.env)).any (·.1) = false := by rfl) : PM X W (.Call (.Name "isinstance" p) [a, .Tuple [.Name n p2, .Name n' p3, .Name n3 p5] k p4] [] pos) (m1 (dIsi3 T T' T3) ma) :=
  ⟨PEimp (pe_callB call_isiT hg hm (by decide +kernel) (pa_cons ha.pe (pa_cons (pe_tup (pa_cons (pe_bltn (v := .ty T) hgn hmn hv rfl hn hd) (pa_cons (pe_bltn (v := .ty T') hgn' hmn' hv' rfl hn' hd') (pa_cons (pe_bltn (v := .ty T3) hgn3 hmn3 hv3 rfl hn3 hd3) pa_nil he5) he4) he3)) pa_nil he2) he) (by decide) (by decide) he hpl) fun σ H Q ⟨ρ, sg, h, hs, rh, w⟩ =>
    TM.go hs rh w fun ρ1 H1 h1 v d le rh1 rv w1 => by
      unfold dIsi3 at w1
      split at w1
      · rename_i t e
        refine ⟨(by show 3 ≤ sizeLine; decide), fun p hp => ?_⟩
        have le2 : Le X.K ρ1 H1 ρ1 (upd H1 p (.tup [.ty T, .ty T', .ty T3])) := Le.new hp
        refine ⟨_, _, _, _, _, _, rfl, upd_same, .cons (.ty T) (.cons (.ty T') (.cons (.ty T3) .nil)), tyD_of (rh1.made hp) (rv.mono le2) e, ?_, w1.okI le2 (rh1.made hp) (.bl _)⟩
        refine kitAny_cons (kit_kn (tyD_kn e) hk) (fun e1 => ?_) (fun e1 => by rw [e1]; rfl)
        rw [e1, Bool.false_or]
        refine kitAny_cons (kit_kn (tyD_kn e) hk') (fun e1 => ?_) (fun e1 => by rw [e1]; rfl)
        rw [e1, Bool.false_or]
        exact kitAny_cons (kit_kn (tyD_kn e) hk3) (fun e2 => by rw [e2]; exact kitAny_nil) (fun e2 => e2)
      · exact w1.elim⟩
end
end Mo

namespace Mo
open PySem PySem.Spec PyProof.Rows L2
/-! ### the further constructs, for simp -/
@[simp ↓] theorem w_dnewT {sg h} {P} {z : Tg P} : R.wp (mDNewT sg h) P z = R.wp (.ok (.ref h.length) (h ++ [.dt []])) P := rfl
@[simp ↓] theorem w_get2 {ma me mf sg h} {P} {z : Tg P} : R.wp (mGet2 ma me mf sg h) P z = R.wp ((ma sg h).bind fun x h1 => if isDk x h1 = true then (me sg h1).bind fun k h2 => (mf sg h2).bind fun z h3 => dGetOr x k z h3 else .bad) P := rfl
@[simp ↓] theorem w_lk {f m sg h} {P} {z : Tg P} : R.wp (mLk f m sg h) P z = R.wp (match f sg h with
  | some n => match h[n]? with
    | some o => match lockO o with
      | some z => (m sg (h.set n z)).nox.bind fun d h' => if isZ h'[n]? = true then .ok d (h'.set n o) else .bad
      | none => .bad
    | none => .bad
  | none => .bad) P := rfl
@[simp ↓] theorem w_aug {i f m sg h} {N : Sg → Mh → Prop} {T : D → Mh → Prop} {z : Tg N} {y : Tg T} : RS.wp (sAug i f m sg h) N T z y = RS.wp (match sg[i]? with
  | some (some x) => (m sg h).th sg fun y h1 => (f x y h1).th sg fun z h2 => .nx (sg.set i (some z)) h2
  | _ => .bad) N T := rfl
@[simp ↓] theorem w_star {m r sg h} {P} {z : Tg P} : R.wp (mStar m r sg h) P z = R.wp ((m sg h).bind fun d h1 => match itemsOf d h1 with
  | some xs => (r sg h1).bind fun ds h2 => .ok (xs ++ ds) h2
  | none => .bad) P := rfl
@[simp] theorem l_isDk {n : Nat} {h : Mh} : isDk (.ref n) h = match h[n]? with
    | some (.dk _) => true
    | some (.dt _) => true
    | some (.zk _) => true
    | some (.zt _) => true
    | _ => false := rfl
@[simp] theorem l_getOr {n : Nat} {k z : D} {h : Mh} : dGetOr (.ref n) k z h = match h[n]? with
    | some o => match lookD o k with
      | some (some d) => .ok d h
      | some none => .ok z h
      | none => .bad
    | none => .bad := rfl
@[simp] theorem l_itT {ds : List D} {h : Mh} : itemsOf (.tup ds) h = some ds := rfl
@[simp] theorem l_itR {n : Nat} {h : Mh} : itemsOf (.ref n) h = lstOf h n := rfl
@[simp] theorem l_tupT {ds : List D} {h : Mh} : dTuple [.tup ds] h = .ok (.tup ds) h := rfl
@[simp] theorem l_tupR {n : Nat} {h : Mh} : dTuple [.ref n] h = match lstOf h n with
    | some xs => .ok (.tup xs) h
    | none => .bad := rfl
@[simp] theorem l_rev {n : Nat} {h : Mh} : dRev (.ref n) h = match lstOf h n with
    | some xs => .ok (.ref h.length) (h ++ [.lst xs.reverse])
    | none => .bad := rfl
@[simp] theorem l_atVar {i : Nat} {sg : Sg} {h : Mh} : atVar i sg h = match sg[i]? with
  | some (some (.ref n)) => some n
  | _ => none := rfl
@[simp] theorem l_lockK {kvs : List (Key × D)} : lockO (.dk kvs) = some (.zk kvs) := rfl
@[simp] theorem l_lockT {kvs : List (List Key × D)} : lockO (.dt kvs) = some (.zt kvs) := rfl
@[simp] theorem l_isZK {kvs : List (Key × D)} : isZ (some (.zk kvs)) = true := rfl
@[simp] theorem l_isZT {kvs : List (List Key × D)} : isZ (some (.zt kvs)) = true := rfl
@[simp] theorem l_iterT {ds : List D} {h : Mh} : dIter (.tup ds) h = .ok (srcT ds) h := rfl
@[simp] theorem l_lenT {ds : List D} {h : Mh} : dLen [.tup ds] h = .ok (.int (ds.length : Nat)) h := rfl
@[simp] theorem l_listT {ds : List D} {h : Mh} : dList [.tup ds] h = .ok (.ref h.length) (h ++ [.lst ds]) := rfl
@[simp] theorem l_zipT {xs ys : List D} {h : Mh} : dZip [.tup xs, .tup ys] h = .ok (srcT (zipD xs ys)) h := rfl
@[simp] theorem shr_ii {x y h} : dShr (.int x) (.int y) h = if decide (0 ≤ y) = true then .ok (.int (x / 2 ^ y.toNat)) h else .bad := rfl
open Classical in
@[simp] theorem l_addT {a b : List D} {h : Mh} : dAdd (.tup a) (.tup b) h = if LenE (a.length + b.length) then .ok (.tup (a ++ b)) h else .bad := by
  by_cases c : LenE (a.length + b.length)
  · rw [if_pos c]; exact if_pos c.r
  · rw [if_neg c]; exact if_neg fun z => c ⟨z⟩
@[simp] theorem l_slT {ds : List D} {lo hi : Option Int} {h : Mh} : dSl (.tup ds) lo hi h = .ok (.tup (cutD ds lo hi)) h := rfl
open Classical in
@[simp] theorem l_addR {n m : Nat} {h : Mh} : dAdd (.ref n) (.ref m) h = match h[n]?, h[m]? with
    | some (.lst a), some (.lst b) => if LenE (a.length + b.length) then R.ok (D.ref h.length) (h ++ [MO.lst (a ++ b)]) else R.bad
    | _, _ => R.bad := by
  unfold dAdd
  dsimp only
  cases h[n]? with
  | none => rfl
  | some o =>
    cases h[m]? with
    | none => cases o <;> rfl
    | some p =>
      cases o <;> cases p <;> first
        | rfl
        | (rename_i a b
           dsimp only
           by_cases c : LenE (a.length + b.length)
           · rw [if_pos c, if_pos c.r]
           · rw [if_neg c, if_neg fun z => c ⟨z⟩])
end Mo

namespace Mo
open PySem PySem.Spec PyProof.Rows L2
/-! ### dicts -/
section
variable {κ : Type} [DecidableEq κ]
theorem valD_cons {p : κ × D} {r : List (κ × D)} {k : κ} : valD (p :: r) k = if p.1 = k then some p.2 else valD r k := by
  by_cases h : p.1 = k
  · rw [valD_pos h, if_pos h]
  · rw [valD_neg h, if_neg h]
theorem any_iff {kvs : List (κ × D)} {k : κ} : (kvs.any fun kv => decide (kv.1 = k)) = true ↔ k ∈ kvs.map (·.1) := by
  rw [List.any_eq_true]
  constructor
  · rintro ⟨p, hp, e⟩
    exact List.mem_map.mpr ⟨p, hp, of_decide_eq_true e⟩
  · intro h
    obtain ⟨p, hp, e⟩ := List.mem_map.mp h
    exact ⟨p, hp, decide_eq_true e⟩
theorem putD_fst_in {kvs : List (κ × D)} {k : κ} {v : D} (h : k ∈ kvs.map (·.1)) : (putD kvs k v).map (·.1) = kvs.map (·.1) := by
  unfold putD
  rw [if_pos (any_iff.mpr h), List.map_map]
  refine List.map_congr_left fun p _ => ?_
  simp only [Function.comp_apply]
  split <;> rfl
theorem putD_out {kvs : List (κ × D)} {k : κ} {v : D} (h : k ∉ kvs.map (·.1)) : putD kvs k v = kvs ++ [(k, v)] := by
  unfold putD
  rw [if_neg (fun z => h (any_iff.mp z))]
theorem putD_nodup {kvs : List (κ × D)} {k : κ} {v : D} (h : (kvs.map (·.1)).Nodup) : ((putD kvs k v).map (·.1)).Nodup := by
  by_cases hk : k ∈ kvs.map (·.1)
  · rw [putD_fst_in hk]; exact h
  · rw [putD_out hk, List.map_append, List.nodup_append]
    refine ⟨h, by simp, fun a ha b hb => ?_⟩
    have : b = k := by simpa using hb
    rw [this]
    intro e
    exact hk (e ▸ ha)
theorem putD_mem {kvs : List (κ × D)} {k k' : κ} {v : D} : k' ∈ (putD kvs k v).map (·.1) ↔ k' ∈ kvs.map (·.1) ∨ k' = k := by
  by_cases hk : k ∈ kvs.map (·.1)
  · rw [putD_fst_in hk]
    constructor
    · exact .inl
    · rintro (h | rfl) <;> assumption
  · rw [putD_out hk]; simp
theorem valD_none {kvs : List (κ × D)} {k : κ} : valD kvs k = none ↔ k ∉ kvs.map (·.1) := by
  induction kvs with
  | nil => simp [valD]
  | cons p r ih =>
    rw [valD_cons, List.map_cons, List.mem_cons]
    by_cases h : p.1 = k
    · rw [if_pos h]; simp [h]
    · rw [if_neg h, ih]
      constructor
      · intro z w; exact w.elim (fun e => h e.symm) z
      · intro z w; exact z (.inr w)
theorem valD_app {a b : List (κ × D)} {k : κ} (h : k ∉ a.map (·.1)) : valD (a ++ b) k = valD b k := by
  induction a with
  | nil => rfl
  | cons p r ih =>
    rw [List.map_cons, List.mem_cons, not_or] at h
    rw [List.cons_append, valD_cons, if_neg (fun e => h.1 e.symm), ih h.2]
theorem valD_app_l {a b : List (κ × D)} {k : κ} {d : D} (h : valD a k = some d) : valD (a ++ b) k = some d := by
  induction a with
  | nil => cases h
  | cons p r ih =>
    rw [List.cons_append, valD_cons]
    rw [valD_cons] at h
    split
    · rename_i e; rw [if_pos e] at h; exact h
    · rename_i e; rw [if_neg e] at h; exact ih h
theorem valD_putD {kvs : List (κ × D)} {k k' : κ} {v : D} : valD (putD kvs k v) k' = if k' = k then some v else valD kvs k' := by
  by_cases hk : k ∈ kvs.map (·.1)
  · unfold putD
    rw [if_pos (any_iff.mpr hk)]
    by_cases e : k' = k
    · subst e
      rw [if_pos rfl]
      induction kvs with
      | nil => cases hk
      | cons p r ih =>
        rw [List.map_cons, valD_cons]
        by_cases h : p.1 = k'
        · rw [if_pos h, if_pos h]
        · rw [if_neg h, if_neg h]
          exact ih ((List.mem_cons.mp hk).elim (fun z => absurd z.symm h) id)
    · rw [if_neg e]
      clear hk
      induction kvs with
      | nil => rfl
      | cons p r ih =>
        rw [List.map_cons, valD_cons, valD_cons, ih]
        by_cases h : p.1 = k
        · rw [if_pos h]
          have : ¬ p.1 = k' := fun z => e (z.symm.trans h)
          rw [if_neg this, if_neg this]
        · rw [if_neg h]
  · rw [putD_out hk]
    by_cases e : k' = k
    · subst e
      rw [if_pos rfl, valD_app hk, valD_cons, if_pos rfl]
    · rw [if_neg e]
      by_cases hk' : k' ∈ kvs.map (·.1)
      · cases h : valD kvs k' with
        | none => exact absurd hk' (valD_none.mp h)
        | some d => rw [valD_app_l h]
      · rw [valD_app hk', valD_cons, if_neg (fun z => e z.symm), valD_none.mpr hk']; rfl
theorem valD_at {kvs : List (κ × D)} (h : (kvs.map (·.1)).Nodup) {p : κ × D} (hp : p ∈ kvs) : valD kvs p.1 = some p.2 := by
  induction kvs with
  | nil => cases hp
  | cons q r ih =>
    rw [valD_cons]
    rw [List.map_cons, List.nodup_cons] at h
    rcases List.mem_cons.mp hp with rfl | hp
    · rw [if_pos rfl]
    · rw [if_neg fun (e : q.1 = p.1) => h.1 (by rw [e]; exact List.mem_map.mpr ⟨p, hp, rfl⟩)]
      exact ih h.2 hp
/-- as many, where one holds the other -/
theorem len_le {α : Type} [DecidableEq α] : ∀ {a b : List α}, a.Nodup → (∀ x ∈ a, x ∈ b) → a.length ≤ b.length
  | [], b, _, _ => Nat.zero_le _
  | x :: a, b, h, s => by
    rw [List.nodup_cons] at h
    have hx := s x (by simp)
    have ih := len_le (b := b.erase x) h.2 fun y hy => (List.mem_erase_of_ne (fun (e : y = x) => h.1 (by rw [← e]; exact hy))).mpr (s y (List.mem_cons_of_mem _ hy))
    rw [List.length_erase_of_mem hx] at ih
    have : 0 < b.length := List.length_pos_of_mem hx
    rw [List.length_cons]; omega
end
theorem keyTs_ints : ∀ l : List Int, keyTs (l.map D.int) = some (l.map Sum.inl)
  | [] => rfl
  | x :: l => by simp only [List.map_cons, keyTs, keyD, keyTs_ints l]
@[simp] theorem keyT_ints {l : List Int} : keyT (.tup (l.map D.int)) = some (l.map Sum.inl) := keyTs_ints l
theorem keyTs_keys : ∀ l : List Key, keyTs (l.map dKey) = some l
  | [] => rfl
  | .inl x :: l => by simp only [List.map_cons, keyTs, keyD, dKey, keyTs_keys l]
  | .inr x :: l => by simp only [List.map_cons, keyTs, keyD, dKey, keyTs_keys l]
@[simp] theorem keyT_keys {l : List Key} : keyT (.tup (l.map dKey)) = some l := keyTs_keys l
end Mo

namespace Mo
open PySem PySem.Spec PyProof.Rows L2
/-! ### instances of own classes -/
section
variable {X : Cx} {W : WX} {a o e v : Expr} {es : List Expr} {ma mo me mv : Sg → Mh → R D} {ml : Sg → Mh → R (List D)} {pos apos pos' : Pos} {C : Addr} {c f : Str}
def insAt (c : Str) (d : D) (h : Mh) : Option (Nat × List (Str × D)) := match d with
  | .ref n => match h[n]? with
    | some (.ins c' fs) => if c' = c then some (n, fs) else none
    | _ => none
  | _ => none
theorem lookF_of {K mg ρ H} {f : Str} : ∀ {fv : List (Str × V)} {fd : List (Str × D)}, fv.map (·.1) = fd.map (·.1) → RVs K mg ρ H (fv.map (·.2)) (fd.map (·.2)) → RK K mg ρ H (fv.lookup f) (fd.lookup f)
  | [], [], _, _ => .none
  | [], _ :: _, e, _ => by cases e
  | _ :: _, [], e, _ => by cases e
  | (p, v) :: fv, (q, d) :: fd, e, r => by
    have e1 : p = q := (List.cons.inj e).1
    subst e1
    cases r with
    | cons r t =>
      have ih := lookF_of (f := f) (List.cons.inj e).2 t
      by_cases h : f = p
      · subst h; simp only [List.lookup_cons, beq_self_eq_true]; exact .some r
      · have h' : (f == p) = false := by simpa using h
        simp only [List.lookup_cons, h']; exact ih
theorem insAt_of {K mg ρ H h} {v : V} {d : D} {n : Nat} {fs : List (Str × D)} (rh : RHp K mg ρ H h) (hg : mg c = some (.ref C)) (r : RV K mg ρ H v d) (e : insAt c d h = some (n, fs)) : ∃ (x : Addr) (dx : Addr) (fv : List (Str × V)), d = .ref n ∧ h[n]? = some (.ins c fs) ∧ ρ[n]? = some x ∧ v = .ref x ∧ H x = some (.ins C dx fv) ∧ fv.map (·.1) = fs.map (·.1) ∧ RVs K mg ρ H (fv.map (·.2)) (fs.map (·.2)) := by
  unfold insAt at e
  split at e
  · split at e
    · rename_i e0
      split at e
      · rename_i ec
        cases e
        subst ec
        cases r with
        | ref r =>
          cases rh.at r e0 with
          | ins g hx ke q =>
            rw [hg] at g; cases g
            exact ⟨_, _, _, rfl, e0, r, rfl, hx, ke, q⟩
      · cases e
    · cases e
  · cases e
def dFld (c f : Str) (d : D) (h : Mh) : R D := match insAt c d h with
  | some (_, fs) => match fs.lookup f with
    | some x => .ok x h
    | none => .bad
  | none => .bad
theorem q_fld (hg : X.mg c = some (.ref C)) (cl : Cls X.K C) (na : NoAttr X.K C f) (ha : PM X W a ma) (hb : attributeBase a f X.env (eval a X.env) = eval a X.env := by rfl) : PM X W (.Attribute a f pos) (m1 (dFld c f) ma) :=
  ⟨PEimp (pe_fld ha.pe hb) fun σ H Q ⟨ρ, sg, h, hs, rh, w⟩ => TM.go hs rh w fun ρ1 H1 h1 v d le rh1 rv w1 => by
    unfold dFld at w1
    split at w1
    · rename_i e0
      split at w1
      · rename_i x ex
        obtain ⟨p, dx, fv, rfl, en, er, rfl, hx, ke, q⟩ := insAt_of rh1 hg rv e0
        have z := lookF_of (f := f) ke q
        rw [ex] at z
        obtain ⟨u, eu, ru⟩ := rk_some z
        exact ⟨p, C, dx, fv, u, rfl, hx, cl, na, eu, w1.okI Le.refl rh1 ru⟩
      · exact w1.elim
    · exact w1.elim⟩
/-- a field in its place, or at the end -/
def putFD (f : Str) (d : D) : List (Str × D) → List (Str × D)
  | [] => [(f, d)]
  | (g, x) :: r => if g = f then (g, d) :: r else (g, x) :: putFD f d r
theorem putF_of {K mg ρ H} {f : Str} {y : V} {d : D} (ry : RV K mg ρ H y d) : ∀ {fv : List (Str × V)} {fd : List (Str × D)}, fv.map (·.1) = fd.map (·.1) → RVs K mg ρ H (fv.map (·.2)) (fd.map (·.2)) →
    (putF f y fv).map (·.1) = (putFD f d fd).map (·.1) ∧ RVs K mg ρ H ((putF f y fv).map (·.2)) ((putFD f d fd).map (·.2))
  | [], [], _, _ => ⟨rfl, .cons ry .nil⟩
  | [], _ :: _, e, _ => by cases e
  | _ :: _, [], e, _ => by cases e
  | (p, v) :: fv, (q, x) :: fd, e, r => by
    have e1 : p = q := (List.cons.inj e).1
    subst e1
    cases r with
    | cons r t =>
      have ih := putF_of (f := f) ry (List.cons.inj e).2 t
      unfold putF putFD
      by_cases h : p = f
      · rw [if_pos h, if_pos h]
        exact ⟨e, .cons ry t⟩
      · rw [if_neg h, if_neg h]
        exact ⟨by rw [List.map_cons, List.map_cons, ih.1], .cons r ih.2⟩
def sFldSt (c f : Str) (mo mv : Sg → Mh → R D) : Sg → Mh → RS := fun sg h => (mv sg h).th sg fun d h1 => (mo sg h1).th sg fun x h2 => match insAt c x h2 with
  | some (n, fs) => if fs.length < 1000 then .nx sg (h2.set n (.ins c (putFD f d fs))) else .bad
  | none => .bad
theorem s_fld (hg : X.mg c = some (.ref C)) (cl : Cls X.K C) (na : NoAttr X.K C f) (ho : PM X W o mo) (hv : PM X W v mv) (hs : swapsWith v (some (.Attribute o f pos')) pos.line X.env = pure false := by rfl) : PSM X W (.Assign [.Attribute o f pos'] v pos) (sFldSt c f mo mv) :=
  ⟨PSimp (ps_fld ho.pe hv.pe hs) fun E σ H ⟨ρ, sg, h, hst, rh, w⟩ => TM.goS hst rh w fun ρ1 H1 h1 y d le rh1 ry w1 => TM.goS (hst.mono le) rh1 w1 fun ρ2 H2 h2 x dx le2 rh2 rx w2 => by
    split at w2
    · rename_i e0
      split at w2
      · rename_i hz
        obtain ⟨p, dd, fv, rfl, en, er, rfl, hx, ke, q⟩ := insAt_of rh2 hg rx e0
        obtain ⟨p1, p2⟩ := putF_of (f := f) (ry.mono le2) ke q
        have le4 : Le X.K ρ2 H2 ρ2 (upd H2 p (.ins C dd (putF f y fv))) := Le.write hx trivial
        refine ⟨p, C, dd, fv, rfl, hx, cl, na, by rw [show fv.length = _ from by simpa using congrArg List.length ke]; exact hz, w2.nxI le4 (rh2.write er en rfl rfl hx trivial (.ins hg upd_same p1 (p2.mono le4))) ((hst.mono le).mono (le2.trans le4))⟩
      · exact w2.elim
    · exact w2.elim⟩
/-! ### methods -/
def tMethSD (C : Addr) (m : Str) (sp : Sp) (dvs : List V) (E : L2.St → XK) (ta : TE) (t : TA) : TE := fun σ H Q => ta σ H fun x H1 => ∃ a dx fs, x = .ref a ∧ H1 a = some (.ins C dx fs) ∧ fs.lookup m = none ∧
  t σ H1 fun vs H2 => sp (x :: (vs ++ dvs)) H2 Q (E σ)
section
variable {CX : CXT} {k np : Nat} {g : Addr} {fd : FuncData} {ps : List Str} {sp : Sp} {dvs : List V} {dds : List D} {ds : List Value} {E : L2.St → XK} {m x : Str} {ta : TE} {t : TA} {fm : FM} {p : Pos}
theorem pe_methSD {pl : Sem Bool} (he : PE X o ta) (c : Cls X.K C) (hm : Meth X.K C m g) (F : FnOk X.prog X.w X.K X.mg X.base CX k g fd ps sp) (hr : Room k X.A) (hb : L2.Binds X.K fd ps ds) (hd : Vals dvs ds) (hx : ∀ σ, PassesAt CX X σ (E σ)) (ha : PA X (e :: es) t)
    (hst : starEach (e :: es) X.env = (false, eval e X.env) :: starEach es X.env := by rfl) (hpl : (backTo pos (starEach es X.env)).any (·.1) = false := by rfl)
    (ht : eval (.Call (.Attribute o m apos) (e :: es) [] pos) X.env = (do
      let ov ← eval o X.env
      standAt apos.atName
      let (f, first) ← holding [ov] (getMethod ov m pl)
      callWith pos f first (backTo pos (starEach (e :: es) X.env)) (backToKw pos (keywordEach [] X.env))) := by rfl) :
    PE X (.Call (.Attribute o m apos) (e :: es) [] pos) (tMethSD C m sp dvs E ta t) := by
  refine ⟨fun pins s σ H Q I h => ?_⟩
  refine PySem.W.methodCall_KW (pl := pl) (thn (he.run pins s σ H _ I h) fun u s1 ⟨x, H1, I1, rx, a, dx, fs, ex, ea, l, q⟩ => ?_) ht
  subst ex
  obtain rfl : u = Value.ref a := rx
  refine getmeth_ok I1 ea c hm l ?_
  refine PySem.W.callWith_K (first := [.ref a]) (h₀ := X.base) I.ok.mod.kin hm.kp (thn (ha.run pos pins s1 σ H1 _ I1 q) fun us s2 ⟨vs, H2, I2, r, q2⟩ => ⟨I2.kIn, ?_⟩) hst hpl
  exact run_fnSD (us := .ref a :: us) (vs := .ref a :: vs) F hr hb hd (hx σ) I2 (.cons rfl r) q2
theorem pe_meth0SD {pl : Sem Bool} (he : PE X o ta) (c : Cls X.K C) (hm : Meth X.K C m g) (F : FnOk X.prog X.w X.K X.mg X.base CX k g fd ps sp) (hr : Room k X.A) (hb : L2.Binds X.K fd ps ds) (hd : Vals dvs ds) (hx : ∀ σ, PassesAt CX X σ (E σ))
    (ht : eval (.Call (.Attribute o m apos) [] [] pos) X.env = (do
      let ov ← eval o X.env
      standAt apos.atName
      let (f, first) ← holding [ov] (getMethod ov m pl)
      callWith pos f first (backTo pos (starEach [] X.env)) (backToKw pos (keywordEach [] X.env))) := by rfl) :
    PE X (.Call (.Attribute o m apos) [] [] pos) (tMethSD C m sp dvs E ta tNil) := by
  refine ⟨fun pins s σ H Q I h => ?_⟩
  refine PySem.W.methodCall_KW (pl := pl) (thn (he.run pins s σ H _ I h) fun u s1 ⟨x, H1, I1, rx, a, dx, fs, ex, ea, l, q⟩ => ?_) ht
  subst ex
  obtain rfl : u = Value.ref a := rx
  refine getmeth_ok I1 ea c hm l ?_
  exact PySem.W.callWith_K0 (first := [.ref a]) I1.kIn hm.kp (run_fnSD (us := [.ref a]) (vs := [.ref a]) F hr hb hd (hx σ) I1 (.cons rfl .nil) q)
def mMeth (c m : Str) (np : Nat) (fm : FM) (mo : Sg → Mh → R D) (ml : Sg → Mh → R (List D)) (dds : List D) : Sg → Mh → R D := fun sg h => (mo sg h).bind fun x h1 => match insAt c x h1 with
  | some (_, fs) => if fs.lookup m = none then (ml sg h1).bind fun ds h2 => if (x :: (ds ++ dds)).length = np then fm (x :: (ds ++ dds)) h2 else .bad else .bad
  | none => .bad
theorem meth_of {t : TA} (hg : X.mg c = some (.ref C)) (hdd : ∀ ρ H, RVs X.K X.mg ρ H dvs dds) (hta : ∀ σ H Q, TMl X.K X.mg W ml σ H Q → t σ H Q) {σ : L2.St} {H : Hp} {Q : VK} (w : TM X.K X.mg W (mMeth c m np fm mo ml dds) σ H Q) :
    tMethSD C m (spM X.K X.mg np fm) dvs (WE W) (TM X.K X.mg W mo) t σ H Q := by
  obtain ⟨ρ, sg, h, hs, rh, w⟩ := w
  refine TM.go hs rh w fun ρ1 H1 h1 v d le rh1 rv w1 => ?_
  split at w1
  · rename_i e0
    split at w1
    · rename_i hl
      obtain ⟨p, dd, fv, rfl, en, er, rfl, hx, ke, q⟩ := insAt_of rh1 hg rv e0
      have z := lookF_of (f := m) ke q
      rw [hl] at z
      have zl : fv.lookup m = none := by
        generalize hq : List.lookup m fv = r at z
        cases z; rfl
      refine ⟨p, dd, fv, rfl, hx, zl, hta _ _ _ (TMl.go (hs.mono le) rh1 w1 fun ρ2 H2 h2 vs ds le2 rh2 rvs w2 => ?_)⟩
      split at w2
      · rename_i hn
        have r2 : RVs X.K X.mg ρ2 H2 (.ref p :: (vs ++ dvs)) (.ref _ :: (ds ++ dds)) := .cons (rv.mono le2) (rvs.append (hdd ρ2 H2))
        exact ⟨by rw [r2.length]; exact hn, ρ2, _, h2, r2, rh2, w2.wx fun _ _ _ z => z⟩
      · exact w2.elim
    · exact w1.elim
  · exact w1.elim
theorem q_meth (hg : X.mg c = some (.ref C)) (cl : Cls X.K C) (hm : Meth X.K C m g) (F : FnOk X.prog X.w X.K X.mg X.base (L2.CX X.prog X.w) k g fd ps (spM X.K X.mg np fm)) (hr : Room k X.A) (tk : Takes X W) (hb : L2.Binds X.K fd ps ds) (hd : Vals dvs ds) (hdd : ∀ ρ H, RVs X.K X.mg ρ H dvs dds)
    (ho : PM X W o mo) (ha : PL X W (e :: es) ml) (hst : starEach (e :: es) X.env = (false, eval e X.env) :: starEach es X.env := by rfl) (hpl : (backTo pos (starEach es X.env)).any (·.1) = false := by rfl)
    {pl : Sem Bool} (ht : eval (.Call (.Attribute o m apos) (e :: es) [] pos) X.env = (do
      let ov ← eval o X.env
      standAt apos.atName
      let (f, first) ← holding [ov] (getMethod ov m pl)
      callWith pos f first (backTo pos (starEach (e :: es) X.env)) (backToKw pos (keywordEach [] X.env))) := by rfl) :
    PM X W (.Call (.Attribute o m apos) (e :: es) [] pos) (mMeth c m np fm mo ml dds) := ⟨PEimp (pe_methSD ho.pe cl hm F hr hb hd (fun σ => passAt tk σ) ha.pa hst hpl ht) fun σ H Q w => meth_of hg hdd (fun _ _ _ z => z) w⟩
theorem q_meth0 (hg : X.mg c = some (.ref C)) (cl : Cls X.K C) (hm : Meth X.K C m g) (F : FnOk X.prog X.w X.K X.mg X.base (L2.CX X.prog X.w) k g fd ps (spM X.K X.mg np fm)) (hr : Room k X.A) (tk : Takes X W) (hb : L2.Binds X.K fd ps ds) (hd : Vals dvs ds) (hdd : ∀ ρ H, RVs X.K X.mg ρ H dvs dds)
    (ho : PM X W o mo) {pl : Sem Bool} (ht : eval (.Call (.Attribute o m apos) [] [] pos) X.env = (do
      let ov ← eval o X.env
      standAt apos.atName
      let (f, first) ← holding [ov] (getMethod ov m pl)
      callWith pos f first (backTo pos (starEach [] X.env)) (backToKw pos (keywordEach [] X.env))) := by rfl) :
    PM X W (.Call (.Attribute o m apos) [] [] pos) (mMeth c m np fm mo mNil dds) := ⟨PEimp (pe_meth0SD ho.pe cl hm F hr hb hd (fun σ => passAt tk σ) ht) fun σ H Q w => meth_of hg hdd (fun σ H Q ⟨ρ, sg, h, hs, rh, w⟩ => w.okI Le.refl rh .nil) w⟩
/-! ### new instances -/
theorem run_makeSD {pins : List (Addr × Obj)} {σ : L2.St} {H : Hp} {s : Shared} {Q : VK} {us : List Value} {vs : List V} (M : Mk X.K C g) (F : FnOk X.prog X.w X.K X.mg X.base CX k g fd ps sp) (hr : Room (k + 1) X.A) (hb : L2.Binds X.K fd ps ds) (hd : Vals dvs ds)
    (hx : PassesAt CX X σ (E σ)) (I : Inv X pins σ H s) (r : Vals vs us)
    (h : ∀ x dx, H x = none → H dx = none → dx ≠ x → sp (.ref x :: (vs ++ dvs)) (upd (upd H dx (.own x)) x (.ins C dx [])) (fun v H2 => v = .non ∧ Q (.ref x) H2) (E σ)) :
    wpAny (model X.prog X.w) X.A (call (.ref C) us) (EP X pins σ Q) X.xe s := by
  have hq := h (s.heap.objs.size + 1) s.heap.objs.size (I.hok.fresh (Nat.le_succ _)) (I.hok.fresh (Nat.le_refl _)) (Nat.ne_of_lt (Nat.lt_succ_self _))
  have I2 := Inv.made (C := C) I
  have r2 : Vals (V.ref (s.heap.objs.size + 1) :: (vs ++ dvs)) (Value.ref (s.heap.objs.size + 1) :: (us ++ ds)) := .cons rfl (r.append hd)
  have hl : (Value.ref (s.heap.objs.size + 1) :: us ++ ds).length = ps.length := by
    have e := r2.length
    rw [F.len _ _ _ _ hq] at e
    exact e.symm
  refine wpAny_call (make_map (f := g) I.kIn M.makes M.init (beq_iff_eq.mp M.fn) (codeAny_mono (F.run _ X.stack _ _ ⟨Value.ref (s.heap.objs.size + 1) :: us, []⟩ (Value.ref (s.heap.objs.size + 1) :: (us ++ ds)) _ _ (E σ) (hr.make C us [])
    (I2.env0.make C us []) (hb _ (Value.ref (s.heap.objs.size + 1) :: us) I2.kIn hl) r2 hq) fun r s' hq' => ?_))
  cases r with
  | error e => exact hx pins _ _ e s' I2 hq'
  | ok fl =>
    cases fl with
    | ret u =>
      obtain ⟨v, H', I3, rv, ev, q3⟩ := I2.after hq'
      subst ev
      exact ⟨rv, ⟨V.ref (s.heap.objs.size + 1), H', I3, rfl, q3⟩⟩
    | next => exact False.elim hq'
    | brk => exact False.elim hq'
    | cont => exact False.elim hq'
def tMakeSD (C : Addr) (sp : Sp) (dvs : List V) (E : L2.St → XK) (t : TA) : TE := fun σ H Q => t σ H fun vs H1 => ∀ x dx, H1 x = none → H1 dx = none → dx ≠ x →
  sp (.ref x :: (vs ++ dvs)) (upd (upd H1 dx (.own x)) x (.ins C dx [])) (fun v H2 => v = .non ∧ Q (.ref x) H2) (E σ)
theorem pe_makeSD (M : Mk X.K C g) (F : FnOk X.prog X.w X.K X.mg X.base CX k g fd ps sp) (hr : Room (k + 1) X.A) (hg : Gl X x) (hm : X.mg x = some (.ref C)) (hb : L2.Binds X.K fd ps ds) (hd : Vals dvs ds) (hx : ∀ σ, PassesAt CX X σ (E σ))
    (ha : PA X (e :: es) t) (hdb : (x == ("__debug__" : Str)) = false := by decide) (he : starEach (e :: es) X.env = (false, eval e X.env) :: starEach es X.env := by rfl) (hpl : (backTo pos (starEach es X.env)).any (·.1) = false := by rfl) :
    PE X (.Call (.Name x p) (e :: es) [] pos) (tMakeSD C sp dvs E t) := by
  refine ⟨fun pins s σ H Q I h => ?_⟩
  refine wpAny_Call_Name_kw (ld_glob I hg hm ?_ hdb)
  refine PySem.W.callWith_K (h₀ := X.base) I.ok.mod.kin M.kp (thn (ha.run pos pins s σ H _ I h) fun us s1 ⟨vs, H1, I1, r, q⟩ => ⟨I1.kIn, ?_⟩) he hpl
  exact run_makeSD M F hr hb hd (hx σ) I1 r q
def mMake (c : Str) (np : Nat) (fm : FM) (ml : Sg → Mh → R (List D)) (dds : List D) : Sg → Mh → R D := fun sg h => (ml sg h).bind fun ds h1 => if (D.ref h1.length :: (ds ++ dds)).length = np then (fm (.ref h1.length :: (ds ++ dds)) (h1 ++ [.ins c []])).bind fun d h2 => match d with
  | .non => .ok (.ref h1.length) h2
  | _ => .bad else .bad
theorem make_wg {ρ1 : Ren} {H1 : Hp} {h1 : Mh} {σ : L2.St} {Q : VK} {vs : List V} {dl : List D} (hg : X.mg c = some (.ref C)) (rh1 : RHp X.K X.mg ρ1 H1 h1) (rvs : RVs X.K X.mg ρ1 H1 vs dl) (hn : (D.ref h1.length :: dl).length = np)
    (w1 : WG X.K X.mg (RV X.K X.mg) W σ Q ρ1 H1 ((fm (.ref h1.length :: dl) (h1 ++ [.ins c []])).bind fun d h2 => match d with
      | .non => .ok (.ref h1.length) h2
      | _ => .bad)) {x dx : Addr} (nx : H1 x = none) (ndx : H1 dx = none) (ne : dx ≠ x) : spM X.K X.mg np fm (.ref x :: vs) (upd (upd H1 dx (.own x)) x (.ins C dx [])) (fun v H2 => v = .non ∧ Q (.ref x) H2) (WE W σ) := by
  have nx' : upd H1 dx (.own x) x = none := by rw [upd_ne (Ne.symm ne)]; exact nx
  have rh2 : RHp X.K X.mg (ρ1 ++ [x]) (upd (upd H1 dx (.own x)) x (.ins C dx [])) (h1 ++ [.ins c []]) := (rh1.made ndx).grow nx' (.ins hg upd_same rfl .nil)
  have le2 : Le X.K ρ1 H1 (ρ1 ++ [x]) (upd (upd H1 dx (.own x)) x (.ins C dx [])) := (Le.new ndx).trans (Le.grow nx')
  have hn2 : (ρ1 ++ [x])[h1.length]? = some x := rh1.at_new
  have r2 : RVs X.K X.mg (ρ1 ++ [x]) (upd (upd H1 dx (.own x)) x (.ins C dx [])) (.ref x :: vs) (.ref h1.length :: dl) := .cons (.ref hn2) (rvs.mono le2)
  refine ⟨by rw [r2.length]; exact hn, _, _, _, r2, rh2, ?_⟩
  refine ((w1.mono le2).cut fun ρ3 H3 h3 v3 d3 le3 rh3 rv3 w3 => ?_).wx (W := W) (σ := σ) fun _ _ _ z => z
  split at w3
  · cases rv3
    exact ⟨rfl, w3.okI Le.refl rh3 (.ref (le3.pre _ _ hn2))⟩
  · exact w3.elim
theorem q_make (hm : X.mg c = some (.ref C)) (M : Mk X.K C g) (F : FnOk X.prog X.w X.K X.mg X.base (L2.CX X.prog X.w) k g fd ps (spM X.K X.mg np fm)) (hr : Room (k + 1) X.A) (tk : Takes X W) (hb : L2.Binds X.K fd ps ds) (hd : Vals dvs ds) (hdd : ∀ ρ H, RVs X.K X.mg ρ H dvs dds) (ha : PL X W (e :: es) ml)
    (hg : Gl X c := by rfl) (hdb : (c == ("__debug__" : Str)) = false := by decide) (he : starEach (e :: es) X.env = (false, eval e X.env) :: starEach es X.env := by rfl) (hpl : (backTo pos (starEach es X.env)).any (·.1) = false := by rfl) :
    PM X W (.Call (.Name c p) (e :: es) [] pos) (mMake c np fm ml dds) := ⟨PEimp (pe_makeSD M F hr hg hm hb hd (fun σ => passAt tk σ) ha.pa hdb he hpl) fun σ H Q ⟨ρ, sg, h, hs, rh, w⟩ => TMl.go hs rh w fun ρ1 H1 h1 vs ds le rh1 rvs w1 => fun x dx nx ndx ne => by
    split at w1
    · rename_i hn
      exact make_wg hm rh1 (rvs.append (hdd ρ1 H1)) hn w1 nx ndx ne
    · exact w1.elim⟩
end
end
end Mo

namespace Mo
open PySem PySem.Spec PyProof.Rows L2
/-! ### dict comprehensions, keys ints or texts -/
section
variable {X : Cx} {W : WX} {tg iter kx vx : Expr} {ifs : List Expr} {scope : Scope} {own : List (Str × Nat)} {ts : List Nat} {g : D → Sg → Option Sg} {mi : Sg → Mh → R Src} {mt : Sg → Mh → R Bool} {mk me : Sg → Mh → R D} {pos : Pos}
open Classical in
noncomputable def dcL (s : Src) (g : D → Sg → Option Sg) (mt : Sg → Mh → R Bool) (mk me : Sg → Mh → R D) (sg : Sg) (n : Nat) : List D → Nat → Mh → R D
  | [], i, h => if s.fin i h then .ok (.ref n) h else .bad
  | x :: xs, i, h => if s.at' i x h then match g x sg with
    | some sg1 => (mt sg1 h).nox.bind fun b h1 => if b = true then (mk sg1 h1).nox.bind fun k h2 => (me sg1 h2).nox.bind fun y h3 => match keyD k, h3[n]? with
        | some key, some (.dk kvs) => if kvs.length < sizeLine then dcL s g mt mk me sg n xs (i + 1) (h3.set n (.dk (putD kvs key y))) else .bad
        | _, _ => .bad
      else dcL s g mt mk me sg n xs (i + 1) h1
    | none => .bad else .bad
noncomputable def mDc (mi : Sg → Mh → R Src) (g : D → Sg → Option Sg) (mt : Sg → Mh → R Bool) (mk me : Sg → Mh → R D) (vs : List Nat) : Sg → Mh → R D := fun sg h => (mi sg h).bind fun s h1 => dcL s g mt mk me (wipeD sg vs) h1.length s.items 0 (h1 ++ [.dk []])
theorem dc_reads {σ : L2.St} {H : Hp} {Q : VK} (hts : ∀ j ∈ ts, j ∈ own.map (·.2)) (w : TM X.K X.mg W (mDc mi g mt mk me (own.map (·.2))) σ H Q) :
    tDc (TMi X.K X.mg W mi) (TMg X.K X.mg ts g) (TMb X.K X.mg W0 mt) (TM X.K X.mg W0 mk) (TM X.K X.mg W0 me) (own.map (·.2)) σ H Q := by
  obtain ⟨ρ, sg, h, hs, rh, w⟩ := w
  refine TMi.go hs rh w fun ρ1 H1 h1 J s le rh1 so w1 => fun D hD => ?_
  generalize hvs : own.map (·.2) = vs at *
  have rh2 : RHp X.K X.mg (ρ1 ++ [D]) (upd H1 D (.dK [])) (h1 ++ [.dk []]) := rh1.grow hD (.dk upd_same rfl .nil)
  have le2 : Le X.K ρ1 H1 (ρ1 ++ [D]) (upd H1 D (.dK [])) := Le.grow hD
  have hn : (ρ1 ++ [D])[h1.length]? = some D := rh1.at_new
  refine ⟨fun i m H => m = s.items.length - i ∧ i ≤ s.items.length ∧ ∃ ρ' h', Le X.K (ρ1 ++ [D]) (upd H1 D (.dK [])) ρ' H ∧ RHp X.K X.mg ρ' H h' ∧ WV X.K X.mg W σ Q ρ' H (dcL s g mt mk me (wipeD sg vs) h1.length (s.items.drop i) i h'),
    ⟨_, rfl, Nat.zero_le _, _, _, Le.refl, rh2, w1.mono le2⟩, ?_⟩
  rintro i m H ⟨rfl, hi, ρ', h', le', rh', w'⟩
  obtain ⟨so1, so2⟩ := so ρ' H h' (le2.trans le') rh'
  have hn' : ρ'[h1.length]? = some D := le'.pre _ _ hn
  have hsW : RSt X.K X.mg ρ' H (wipe σ vs) (wipeD sg vs) := (hs.mono (le.trans (le2.trans le'))).wipe vs
  by_cases hlt : i < s.items.length
  · rw [List.drop_eq_getElem_cons hlt] at w'
    unfold dcL at w'
    split at w'
    · rename_i hat
      obtain ⟨go, yl⟩ := so1 i _ (List.getElem?_eq_getElem hlt) hat
      split at w'
      · rename_i sg1 eg
        refine .inr ⟨go, fun H2 => ∃ ρ2 h2, Le X.K (ρ1 ++ [D]) (upd H1 D (.dK [])) ρ2 H2 ∧ RHp X.K X.mg ρ2 H2 h2 ∧ WV X.K X.mg W σ Q ρ2 H2 (dcL s g mt mk me (wipeD sg vs) h1.length (s.items.drop (i + 1)) (i + 1) h2), fun H2 ⟨ρ2, h2, a, b, c⟩ => ⟨_, by omega, rfl, hlt, ρ2, h2, a, b, c⟩, fun x H2 hy => ?_⟩
        obtain ⟨le3, rh3, rv3⟩ := yl x H2 hy
        refine ⟨ρ', _, _, sg1, hsW.mono le3, rv3, eg, fun σ3 hs3 l3 k3 => ⟨?_, ?_⟩⟩
        · rw [← wipe_wipe σ vs]
          exact wipe_ext (fun j hj => k3 j fun z => hj (hts j z)) l3
        · have w3 := WG.mono le3 w'
          refine ⟨ρ', sg1, h', hs3, rh3, w3.noxI fun ρ4 H4 h4 b b' le4 rh4 e w4 => ?_⟩
          subst e
          split
          · rename_i hb
            rw [if_pos hb] at w4
            refine ⟨ρ4, sg1, h4, hs3.mono le4, rh4, w4.noxI fun ρ5 H5 h5 y y' le5 rh5 ry w5 => ?_⟩
            refine ⟨ρ5, sg1, h5, (hs3.mono le4).mono le5, rh5, w5.noxI fun ρ6 H6 h6 z z' le6 rh6 rz w6 => ?_⟩
            split at w6
            · rename_i key kvs ek e6
              split at w6
              · rename_i hz
                have hn6 : ρ6[h1.length]? = some D := le6.pre _ _ (le5.pre _ _ (le4.pre _ _ hn'))
                cases rh6.at hn6 e6 with
                | @dk kv _ hD6 ke q6 =>
                  have le7 : Le X.K ρ6 H6 ρ6 (upd H6 D (.dK (putK kv key z))) := Le.write hD6 trivial
                  obtain ⟨p1, p2⟩ := put_of (k := key) rz ke q6
                  exact ⟨kv, key, key_of (ry.mono le6) ek, hD6, by rw [same_len ke]; exact hz, ρ6, _, le'.trans (le3.trans (le4.trans (le5.trans (le6.trans le7)))), rh6.write hn6 e6 rfl rfl hD6 trivial (.dk upd_same p1 (p2.mono le7)), w6.mono le7⟩
              · exact w6.elim
            · exact w6.elim
          · rename_i hb
            rw [if_neg hb] at w4
            exact ⟨ρ4, h4, le'.trans (le3.trans le4), rh4, w4⟩
      · exact w'.elim
    · exact w'.elim
  · have e : i = s.items.length := by omega
    subst e
    rw [List.drop_length] at w'
    unfold dcL at w'
    split at w'
    · rename_i hf
      exact .inl ⟨so2 hf, w'.okI Le.refl rh' (.ref hn')⟩
    · exact w'.elim
theorem q_dc (own : List (Str × Nat)) (hN : X.N.Nodup) (hi : PIM X W tg iter mi) (ok : BlkOk X.N X.env.scope scope own)
    (hg : ∀ (s : Shared) (H : Hp) (C : Addr) (cl : List (Str × Addr)) (fp : List Addr), PGM (X.blk s H scope (compEnvC scope cl C X.env) fp) tg ts g)
    (ht : ∀ (s : Shared) (H : Hp) (C : Addr) (cl : List (Str × Addr)) (fp : List Addr), PTM (X.blk s H scope (compEnvC scope cl C X.env) fp) W0 ifs mt)
    (hk : ∀ (s : Shared) (H : Hp) (C : Addr) (cl : List (Str × Addr)) (fp : List Addr), PM (X.blk s H scope (compEnvC scope cl C X.env) fp) W0 kx mk)
    (he : ∀ (s : Shared) (H : Hp) (C : Addr) (cl : List (Str × Addr)) (fp : List Addr), PM (X.blk s H scope (compEnvC scope cl C X.env) fp) W0 vx me)
    (hts : ∀ j ∈ ts, j ∈ own.map (·.2) := by decide) (hc : X.calm = true := by rfl) (hs : ∀ x, foldedSetIterable iter X.env x = pure x := by intro _; rfl) :
    PM X W (.DictComp kx vx [⟨tg, iter, ifs, 0⟩] scope pos) (mDc mi g mt mk me (own.map (·.2))) :=
  ⟨PEimp (pe_dc hc hN hi.pi ok (fun s H C cl fp => (hg s H C cl fp).pg) (fun s H C cl fp => (ht s H C cl fp).pts) (fun s H C cl fp => (hk s H C cl fp).pe) (fun s H C cl fp => (he s H C cl fp).pe) hs) fun σ H Q w => dc_reads hts w⟩
end
/-! ### f-strings -/
section
variable {X : Cx} {W : WX} {a : Expr} {es : List Expr} {ma : Sg → Mh → R D} {pos : Pos}
def dFmt (d : D) (h : Mh) : R D := match d with
  | .str y => if y.length ≤ sizeLine then .ok (.str y) h else .bad
  | .int i => if i.natAbs.log2 < 1920 then .ok (.str (Str.ofString (toString i))) h else .bad
  | _ => .bad
theorem q_fmt (ha : PM X W a ma) : PM X W (.FormattedValue a (-1) none pos) (m1 dFmt ma) := ⟨PEimp (pe_fmt ha.pe) fun σ H Q ⟨ρ, sg, h, hs, rh, w⟩ => TM.go hs rh w fun ρ1 H1 h1 v d le rh1 rv w1 => by
  unfold dFmt at w1
  split at w1
  · split at w1
    · rename_i hz
      cases rv; exact .inl ⟨_, rfl, hz, w1.okI Le.refl rh1 (.str _)⟩
    · exact w1.elim
  · split at w1
    · rename_i hz
      cases rv; exact .inr ⟨_, rfl, hz, w1.okI Le.refl rh1 (.str _)⟩
    · exact w1.elim
  · exact w1.elim⟩
def mJs : List (Sg → Mh → R D) → Str → Sg → Mh → R D
  | [], acc => fun _ h => .ok (.str acc) h
  | m :: ms, acc => fun sg h => (m sg h).bind fun d h1 => match d with
    | .str y => if (acc ++ y).length ≤ sizeLine then mJs ms (acc ++ y) sg h1 else .bad
    | _ => .bad
inductive PJM (X : Cx) (W : WX) : List Expr → List (Sg → Mh → R D) → Prop where
  | nil : PJM X W [] []
  | cons {e : Expr} {m : Sg → Mh → R D} {es : List Expr} {ms : List (Sg → Mh → R D)} (h : PM X W e m) (r : PJM X W es ms) : PJM X W (e :: es) (m :: ms)
theorem PJM.pj {es : List Expr} {ms : List (Sg → Mh → R D)} (h : PJM X W es ms) : PJ X es (ms.map fun m => TM X.K X.mg W m) := by
  induction h with
  | nil => exact .nil
  | cons h r ih => exact .cons h.pe ih
theorem js_of {Q : Str → Hp → Prop} {Q0 : VK} (hQ : ∀ y H, Q0 (.str y) H → Q y H) : ∀ (ms : List (Sg → Mh → R D)) (acc : Str) {σ : L2.St} {H : Hp}, TM X.K X.mg W (mJs ms acc) σ H Q0 → tJs (ms.map fun m => TM X.K X.mg W m) acc σ H Q
  | [], acc, σ, H, ⟨ρ, sg, h, hs, rh, w⟩ => hQ _ _ (w.okI Le.refl rh (.str acc))
  | m :: ms, acc, σ, H, ⟨ρ, sg, h, hs, rh, w⟩ => TM.go hs rh w fun ρ1 H1 h1 v d le rh1 rv w1 => by
    split at w1
    · rename_i y
      cases rv
      split at w1
      · rename_i hz
        exact ⟨y, rfl, hz, js_of hQ ms (acc ++ y) ⟨ρ1, sg, h1, hs.mono le, rh1, w1⟩⟩
      · exact w1.elim
    · exact w1.elim
theorem q_joined {v1 v2 : Expr} {rest : List Expr} {ms : List (Sg → Mh → R D)} (h : PJM X W (v1 :: v2 :: rest) ms) : PM X W (.JoinedStr (v1 :: v2 :: rest) pos) (mJs ms Str.empty) := ⟨PEimp (pe_joined h.pj) fun σ H Q w => js_of (fun _ _ z => z) ms Str.empty w⟩
theorem q_joined1 (h : PM X W a ma) : PM X W (.JoinedStr [a] pos) ma := ⟨pe_joined1 h.pe⟩
end
end Mo

namespace Mo
open PySem PySem.Spec PyProof.Rows L2
/-! ### own operators and built-ins of instances -/
section
variable {X : Cx} {pins : List (Addr × Obj)} {σ : L2.St} {H : Hp} {s : Shared} {k np : Nat} {g C : Addr} {fd : FuncData} {ps : List Str} {sp : Sp} {E : XK}
theorem passNo {X : Cx} : Passes (L2.CX X.prog X.w) X (fun _ _ _ => False) := fun pins σ H s e s' I h => by
  obtain ⟨_, _, _, _, _, _, _, _, _, _, _, _, z⟩ := h
  exact z.elim
theorem run_ok {A : Around} {Q : VK} {us : List Value} {vs : List V} (F : FnOk X.prog X.w X.K X.mg X.base (L2.CX X.prog X.w) k g fd ps sp) (hr : Room k A) (e0 : Env0 X.prog X.w X.K X.mg X.base A X.stack s H) (hb : L2.Binds X.K fd ps []) (I : Inv X pins σ H s) (r : Vals vs us)
    (h : sp vs H Q (fun _ _ _ => False)) : wpAny (model X.prog X.w) A (call (.ref g) us) (EP X pins σ Q) X.xe s := by
  have hl : us.length = ps.length := by rw [← r.length]; exact F.len _ _ _ _ h
  refine wpAny_call (codeAny_mono (F.run A X.stack s H ⟨us, []⟩ us vs Q _ hr e0 (by
    have := hb s us I.kIn (by simpa using hl)
    simpa using this) r h) fun r s' hq => ?_)
  cases r with
  | error e => exact passNo pins σ H s e s' I hq
  | ok fl =>
    cases fl with
    | ret u => exact I.after hq
    | next => exact False.elim hq
    | brk => exact False.elim hq
    | cont => exact False.elim hq
theorem ins_inst (I : Inv X pins σ H s) {a dx : Addr} {fs : List (Str × V)} (h : H a = some (.ins C dx fs)) : ∃ (ox : Obj) (od : Obj), PySem.W.InstAt s.heap a ox C (some od) := by
  obtain ⟨mA, J, _⟩ := ins_get I.hok h
  obtain ⟨od, J, _⟩ := J.look
  exact ⟨_, od, J⟩
/-- y's type is known, and is not below the class -/
theorem looks_of (I : Inv X pins σ H s) {y : V} {u : Value} {t : String} (ry : RelV y u) (ty : TyX X.K H y (.type t)) : PySem.W.Looks (model X.prog X.w) s.heap (typeOf u) (.type t) := by
  obtain ⟨P, kit, hp, _⟩ := kit_of I ry ty
  exact kit.ty _ _ I.kIn hp
theorem not_below {K : PySem.W.Frag} {t : String} (h : knT t = true) : PySem.W.notFirst K C (.type t) = true := by
  have : PySem.W.subIn K (.type t) (.ref C) = some false := by
    rcases knT_of h with rfl | rfl | rfl | rfl | rfl | rfl | rfl <;> rfl
  unfold PySem.W.notFirst
  rw [this]
  simp
/-- x == y by the class's own def -/
def rEqO (K : PySem.W.Frag) (C : Addr) (sp : Sp) : R2 := fun x y H Q => ∃ a dx fs, x = .ref a ∧ H a = some (.ins C dx fs) ∧ ((∃ t, TyX K H y (.type t) ∧ knT t = true) ∨ ∃ b dy gs, y = .ref b ∧ H b = some (.ins C dy gs)) ∧ sp [x, y] H Q (fun _ _ _ => False)
theorem op_eqO (hs : PySem.W.findIn X.K (.ref C) "__eq__" = some (some (.ref g))) (hf : PySem.W.isFn X.K (.ref g) = true) (F : FnOk X.prog X.w X.K X.mg X.base (L2.CX X.prog X.w) k g fd ps sp) (hr : Room k X.A) (hb : L2.Binds X.K fd ps []) : OpR X (compareOp .Eq) (rEqO X.K C sp) := by
  intro pins s σ H x y v u Q I rx ry h
  obtain ⟨a, dx, fs, rfl, ha, hy, q⟩ := h
  cases (show v = Value.ref a from rx)
  obtain ⟨ox, od, J⟩ := ins_inst I ha
  obtain ⟨m, hF⟩ := I.fr
  have fin : wpAny (model X.prog X.w) X.A (call (.ref g) [.ref a, u]) (PySem.W.CmpBack (EP X pins σ Q)) X.xe s :=
    wpAny_mono (run_ok (us := [.ref a, u]) (vs := [.ref a, y]) F hr I.env0 hb I (.cons rfl (.cons ry .nil)) q) (fun w s' z => by
      obtain ⟨z', H', I', rz, qz⟩ := z
      exact SlX.cmpback rz ⟨z', H', I', rz, qz⟩) fun _ _ x => x
  show wpAny (model X.prog X.w) X.A (richCompare .Eq (.ref a) u) _ _ _
  rcases hy with ⟨t, ty, kt⟩ | ⟨b, dy, gs, rfl, hb'⟩
  · exact PySem.W.cmp_K (op := .Eq) hr.units0 hF I.ok.mod.kin J (looks_of I ry ty) (not_below kt) hs hf fin
  · cases (show u = Value.ref b from ry)
    obtain ⟨ox2, od2, J2⟩ := ins_inst I hb'
    exact PySem.W.cmp_K (op := .Eq) (tb := .ref C) hr.units0 hF I.ok.mod.kin J J2.type (by simp [PySem.W.notFirst]) hs hf fin
/-- x in y by the class's own def -/
def rInO (C : Addr) (neg : Bool) (sp : Sp) : R2 := fun x y H Q => ∃ a dx fs, y = .ref a ∧ H a = some (.ins C dx fs) ∧ sp [y, x] H (fun v H' => ∃ b, v = .bl b ∧ Q (.bl (if neg then !b else b)) H') (fun _ _ _ => False)
theorem contains_own {A : Around} {E : Value → Shared → Prop} {K : PySem.W.Frag} {prog : Program} {w : World} {a f : Addr} {x : Value} {ox : Obj} {od : Option Obj} {Q : Bool → Shared → Prop} (X : K.In s.heap) (I : PySem.W.InstAt s.heap a ox C od) (hs : PySem.W.findIn K (.ref C) "__contains__" = some (some (.ref f))) (hf : PySem.W.isFn K (.ref f) = true)
    (h : wpAny (model prog w) A (call (.ref f) [.ref a, x]) (fun r s' => ∃ b, r = .bool b ∧ Q b s') E s) : wpAny (model prog w) A (contains (.ref a) x) Q E s := by
  unfold contains
  refine wpAny_holding ?_
  show wpAny _ _ (do
    if (← specialOf (.ref a) "__contains__") == some .none then
      rule "in.none"; raiseError "TypeError" s!"'{← typeNameOf (.ref a)}' object is not a container"
    match ← callSpecialUnlessNone? (.ref a) "__contains__" [x] (do rule "in.none"; raiseError "TypeError" s!"'{← typeNameOf (.ref a)}' object is not a container") with
    | some r => truthy r
    | none =>
      rule "in.by-iteration"
      match ← runValue (.builtin "proto.contains_iter" ⟨[← (pyIter (.ref a)).tryCatch fun e => do
          if ← isInstance e (.type "TypeError") then raiseError "TypeError" s!"argument of type '{← typeNameOf (.ref a)}' is not iterable" else throw e, x], []⟩) with
      | .bool b => pure b
      | _ => unsupported "internal:contains") _ _ _
  refine wpAny_bind (wpAny_bind (I.type.here ((PySem.W.looks_findIn X hs).here ?_)))
  show wpAny _ _ (if (some (Value.ref f) == some Value.none) = true then _ else _) _ _ _
  rw [if_neg (by intro z; cases z)]
  refine wpAny_bind ?_
  unfold callSpecialUnlessNone?
  refine wpAny_bind (wpAny_bind (I.type.here ((PySem.W.looks_findIn X hs).here ?_)))
  refine wpAny_holding (wpAny_bind ((PySem.W.bind_fn X _ (beq_iff_eq.mp hf)).here ?_))
  show wpAny _ _ (if (Value.ref f == Value.none) = true then _ else _) _ _ _
  rw [if_neg (by intro z; cases z)]
  refine wpAny_bind (wpAny_mono h (fun r s' hr => ?_) fun _ _ y => y)
  obtain ⟨b, rfl, hq⟩ := hr
  refine wpAny_pure ?_
  exact wpAny_pure hq
theorem op_inO {neg : Bool} {op : CmpOp} (hop : op = if neg then .NotIn else .In) (hs : PySem.W.findIn X.K (.ref C) "__contains__" = some (some (.ref g))) (hf : PySem.W.isFn X.K (.ref g) = true) (F : FnOk X.prog X.w X.K X.mg X.base (L2.CX X.prog X.w) k g fd ps sp) (hr : Room k X.A) (hb : L2.Binds X.K fd ps []) : OpR X (compareOp op) (rInO C neg sp) := by
  intro pins s σ H x y v u Q I rx ry h
  obtain ⟨a, dx, fs, rfl, ha, q⟩ := h
  cases (show u = Value.ref a from ry)
  obtain ⟨ox, od, J⟩ := ins_inst I ha
  have fin : wpAny (model X.prog X.w) X.A (contains (.ref a) v) (fun b s' => EP X pins σ Q (.bool (if neg then !b else b)) s') X.xe s := by
    refine contains_own I.kIn J hs hf (wpAny_mono (run_ok (us := [.ref a, v]) (vs := [.ref a, x]) F hr I.env0 hb I (.cons rfl (.cons rx .nil)) q) (fun w s' z => ?_) fun _ _ x => x)
    obtain ⟨z', H', I', rz, b, eb, qz⟩ := z
    subst eb
    cases (show w = Value.bool b from rz)
    exact ⟨b, rfl, .bl _, H', I', rfl, qz⟩
  subst hop
  cases neg with
  | true => exact wpAny_bind (wpAny_mono fin (fun b s' z => wpAny_pure z) fun _ _ y => y)
  | false => exact wpAny_bind (wpAny_mono fin (fun b s' z => wpAny_pure z) fun _ _ y => y)
/-- str(x), repr(x) by the class's own defs -/
def rStrO (C : Addr) (sp : Sp) : List V → Hp → VK → Prop := fun xs H Q => ∃ a dx fs, xs = [V.ref a] ∧ H a = some (.ins C dx fs) ∧ sp [.ref a] H (fun v H' => ∃ y, v = .str y ∧ Q (.str y) H') (fun _ _ _ => False)
theorem strBack {Q : VK} {v : V} {u : Value} {s' : Shared} {P : Value → Shared → Prop} (r : RelV v u) (e : ∃ y, v = .str y) (h : P u s') : PySem.W.StrBack P u s' := by
  obtain ⟨y, rfl⟩ := e
  obtain ⟨t, rfl⟩ := r
  exact h
theorem call_strO (hs : PySem.W.findIn X.K (.ref C) "__str__" = some (some (.ref g))) (hf : PySem.W.isFn X.K (.ref g) = true) (F : FnOk X.prog X.w X.K X.mg X.base (L2.CX X.prog X.w) k g fd ps sp) (hr : Room (k + 2) X.A) (hb : L2.Binds X.K fd ps []) : CallR X (.type "str") (rStrO C sp) := by
  intro pins s σ H xs us Q I r h
  obtain ⟨a, dx, fs, rfl, ha, q⟩ := h
  obtain ⟨u, rfl, ru⟩ := r.one
  cases (show u = Value.ref a from ru)
  obtain ⟨ox, od, J⟩ := ins_inst I ha
  have hr2 : Room k X.A.in1.in1 := (show Room (k + 1) X.A.in1 from Room.in1 hr).in1
  refine PySem.W.kso_call hr2.units0 I.kIn J hs hf (wpAny_mono (run_ok (us := [.ref a]) (vs := [.ref a]) F hr2 I.env0.in1.in1 hb I (.cons rfl .nil) q) (fun w s' z => ?_) fun _ _ x => x)
  obtain ⟨z', H', I', rz, y, ey, qz⟩ := z
  subst ey
  obtain ⟨t, rfl⟩ := rz
  exact ⟨.str y, H', I', ⟨t, rfl⟩, qz⟩
theorem call_reprO (hs : PySem.W.findIn X.K (.ref C) "__repr__" = some (some (.ref g))) (hf : PySem.W.isFn X.K (.ref g) = true) (F : FnOk X.prog X.w X.K X.mg X.base (L2.CX X.prog X.w) k g fd ps sp) (hr : Room (k + 1) X.A) (hb : L2.Binds X.K fd ps []) : CallR X (.builtin "repr") (rStrO C sp) := by
  intro pins s σ H xs us Q I r h
  obtain ⟨a, dx, fs, rfl, ha, q⟩ := h
  obtain ⟨u, rfl, ru⟩ := r.one
  cases (show u = Value.ref a from ru)
  obtain ⟨ox, od, J⟩ := ins_inst I ha
  obtain ⟨m, hF⟩ := I.fr
  have hr2 : Room k X.A.in1 := Room.in1 hr
  refine PySem.W.repr_K hr2.units0 hF I.ok.mod.kin J hs hf (wpAny_mono (run_ok (us := [.ref a]) (vs := [.ref a]) F hr2 I.env0.in1 hb I (.cons rfl .nil) q) (fun w s' z => ?_) fun _ _ x => x)
  obtain ⟨z', H', I', rz, y, ey, qz⟩ := z
  subst ey
  obtain ⟨t, rfl⟩ := rz
  exact ⟨.str y, H', I', ⟨t, rfl⟩, qz⟩
end
/-! the rules -/
section
variable {X : Cx} {W : WX} {a b e : Expr} {ma mb : Sg → Mh → R D} {ml : Sg → Mh → R (List D)} {pos p : Pos} {k : Nat} {g C : Addr} {fd : FuncData} {ps : List Str} {fm : FM} {c : Str}
def dEqO (c : Str) (fm : FM) (x y : D) (h : Mh) : R D := match insAt c x h with
  | some _ => if (tyD y h).isSome = true ∨ (insAt c y h).isSome = true then (fm [x, y] h).nox else .bad
  | none => .bad
theorem nox_spM {K mg σ} {Q : VK} {ρ : Ren} {H : Hp} {np : Nat} {vs : List V} {ds : List D} {h : Mh} (rvs : RVs K mg ρ H vs ds) (rh : RHp K mg ρ H h) (hn : ds.length = np) (w : WG K mg (RV K mg) W σ Q ρ H (fm ds h).nox) : spM K mg np fm vs H Q (fun _ _ _ => False) := by
  refine ⟨by rw [rvs.length]; exact hn, ρ, ds, h, rvs, rh, ?_⟩
  cases e : fm ds h with
  | ok d h' => rw [e] at w; exact w
  | exc c fs h' => rw [e] at w; exact w.elim
  | bad => rw [e] at w; exact w.elim
theorem sem_eqO (hg : X.mg c = some (.ref C)) : Sem2 X (rEqO X.K C (spM X.K X.mg 2 fm)) (dEqO c fm) := by
  intro W σ ρ H h Q v1 v2 d1 d2 rh r1 r2 w
  unfold dEqO at w
  split at w
  · rename_i nf e0
    split at w
    · rename_i hy
      obtain ⟨p, dx, fv, rfl, en, er, rfl, hx, ke, q⟩ := insAt_of rh hg r1 e0
      refine ⟨p, dx, fv, rfl, hx, ?_, nox_spM (.cons r1 (.cons r2 .nil)) rh rfl w⟩
      by_cases ht : (tyD d2 h).isSome = true
      · obtain ⟨t, et⟩ := Option.isSome_iff_exists.mp ht
        exact .inl ⟨t, tyD_of rh r2 et, tyD_kn et⟩
      · obtain ⟨⟨n2, fs2⟩, e2⟩ := Option.isSome_iff_exists.mp (hy.resolve_left ht)
        obtain ⟨p2, dx2, fv2, rfl, _, _, rfl, hx2, _, _⟩ := insAt_of rh hg r2 e2
        exact .inr ⟨p2, dx2, fv2, rfl, hx2⟩
    · exact w.elim
  · exact w.elim
theorem q_eqO (hg : X.mg c = some (.ref C)) (hs : PySem.W.findIn X.K (.ref C) "__eq__" = some (some (.ref g))) (hf : PySem.W.isFn X.K (.ref g) = true) (F : FnOk X.prog X.w X.K X.mg X.base (L2.CX X.prog X.w) k g fd ps (spM X.K X.mg 2 fm)) (hr : Room k X.A) (hb : L2.Binds X.K fd ps []) (ha : PM X W a ma) (hb2 : PM X W b mb) :
    PM X W (.Compare a [.Eq] [b] pos) (m2 (dEqO c fm) ma mb) := q_cmp (op_eqO hs hf F hr hb) (sem_eqO hg) ha hb2 (nomark _)
def dInO (c : Str) (neg : Bool) (fm : FM) (x y : D) (h : Mh) : R D := match insAt c y h with
  | some _ => (fm [y, x] h).nox.bind fun d h' => match d with
    | .bl b => .ok (.bl (if neg then !b else b)) h'
    | _ => .bad
  | none => .bad
theorem sem_inO (hg : X.mg c = some (.ref C)) {neg : Bool} : Sem2 X (rInO C neg (spM X.K X.mg 2 fm)) (dInO c neg fm) := by
  intro W σ ρ H h Q v1 v2 d1 d2 rh r1 r2 w
  unfold dInO at w
  split at w
  · rename_i nf e0
    obtain ⟨p, dx, fv, rfl, en, er, rfl, hx, ke, q⟩ := insAt_of rh hg r2 e0
    refine ⟨p, dx, fv, rfl, hx, nox_spM (W := W) (σ := σ) (.cons r2 (.cons r1 .nil)) rh rfl (w.cut fun ρ1 H1 h1 v d le rh1 rv w1 => ?_)⟩
    split at w1
    · cases rv
      exact ⟨_, rfl, w1.okI Le.refl rh1 (.bl _)⟩
    · exact w1.elim
  · exact w.elim
theorem q_inO (hg : X.mg c = some (.ref C)) (hs : PySem.W.findIn X.K (.ref C) "__contains__" = some (some (.ref g))) (hf : PySem.W.isFn X.K (.ref g) = true) (F : FnOk X.prog X.w X.K X.mg X.base (L2.CX X.prog X.w) k g fd ps (spM X.K X.mg 2 fm)) (hr : Room k X.A) (hb : L2.Binds X.K fd ps []) (ha : PM X W a ma) (hb2 : PM X W b mb) (hm : behindInMarks .In b = false := by with_unfolding_all rfl) :
    PM X W (.Compare a [.In] [b] pos) (m2 (dInO c false fm) ma mb) := q_cmp (op_inO (neg := false) rfl hs hf F hr hb) (sem_inO hg) ha hb2 hm
theorem q_notinO (hg : X.mg c = some (.ref C)) (hs : PySem.W.findIn X.K (.ref C) "__contains__" = some (some (.ref g))) (hf : PySem.W.isFn X.K (.ref g) = true) (F : FnOk X.prog X.w X.K X.mg X.base (L2.CX X.prog X.w) k g fd ps (spM X.K X.mg 2 fm)) (hr : Room k X.A) (hb : L2.Binds X.K fd ps []) (ha : PM X W a ma) (hb2 : PM X W b mb) (hm : behindInMarks .NotIn b = false := by with_unfolding_all rfl) :
    PM X W (.Compare a [.NotIn] [b] pos) (m2 (dInO c true fm) ma mb) := q_cmp (op_inO (neg := true) rfl hs hf F hr hb) (sem_inO hg) ha hb2 hm
def dStrO (c : Str) (fm : FM) (ds : List D) (h : Mh) : R D := match ds with
  | [x] => match insAt c x h with
    | some _ => (fm [x] h).nox.bind fun d h' => match d with
      | .str y => .ok (.str y) h'
      | _ => .bad
    | none => .bad
  | _ => .bad
theorem sem_strO (hg : X.mg c = some (.ref C)) : SemL X (rStrO C (spM X.K X.mg 1 fm)) (dStrO c fm) := by
  intro W σ ρ H h Q vs ds rh rvs w
  unfold dStrO at w
  split at w
  · split at w
    · rename_i nf e0
      cases rvs with
      | cons r t =>
        cases t
        obtain ⟨p, dx, fv, rfl, en, er, rfl, hx, ke, q⟩ := insAt_of rh hg r e0
        refine ⟨p, dx, fv, rfl, hx, nox_spM (W := W) (σ := σ) (.cons r .nil) rh rfl (w.cut fun ρ1 H1 h1 v d le rh1 rv w1 => ?_)⟩
        split at w1
        · cases rv
          exact ⟨_, rfl, w1.okI Le.refl rh1 (.str _)⟩
        · exact w1.elim
    · exact w.elim
  · exact w.elim
theorem q_strO (hg : X.mg c = some (.ref C)) (hs : PySem.W.findIn X.K (.ref C) "__str__" = some (some (.ref g))) (hf : PySem.W.isFn X.K (.ref g) = true) (F : FnOk X.prog X.w X.K X.mg X.base (L2.CX X.prog X.w) k g fd ps (spM X.K X.mg 1 fm)) (hr : Room (k + 2) X.A) (hb : L2.Binds X.K fd ps []) (hm : X.mg "str" = none) (ha : PL X W [e] ml)
    (hgl : Gl X "str" := by rfl) (he : starEach [e] X.env = (false, eval e X.env) :: starEach [] X.env := by rfl) : PM X W (.Call (.Name "str" p) [e] [] pos) (mBi (dStrO c fm) ml) := q_ty (call_strO hs hf F hr hb) (sem_strO hg) hm ha (by decide +kernel) hgl (by decide) (by decide) he rfl
theorem q_reprO (hg : X.mg c = some (.ref C)) (hs : PySem.W.findIn X.K (.ref C) "__repr__" = some (some (.ref g))) (hf : PySem.W.isFn X.K (.ref g) = true) (F : FnOk X.prog X.w X.K X.mg X.base (L2.CX X.prog X.w) k g fd ps (spM X.K X.mg 1 fm)) (hr : Room (k + 1) X.A) (hb : L2.Binds X.K fd ps []) (hm : X.mg "repr" = none) (ha : PL X W [e] ml)
    (hgl : Gl X "repr" := by rfl) (he : starEach [e] X.env = (false, eval e X.env) :: starEach [] X.env := by rfl) : PM X W (.Call (.Name "repr" p) [e] [] pos) (mBi (dStrO c fm) ml) := q_bi (call_reprO hs hf F hr hb) (sem_strO hg) hm ha (by decide +kernel) hgl (by decide) (by decide) he rfl
end
end Mo

namespace Mo
open PySem PySem.Spec PyProof.Rows L2
open PySem.W (InstAt looks_findIn)
section
variable {prog : Program} {w : World} {A : Around} {E : Value → Shared → Prop} {s : Shared} {K : PySem.W.Frag} {a C f : Addr} {ox : Obj} {od : Option Obj}
open Builtin in
theorem ne_own {b tb : Value} {Q : Value → Shared → Prop} (hu : A.units + 1 < cLine) (X : K.In s.heap) (I : InstAt s.heap a ox C od) (hb : PySem.W.Looks (model prog w) s.heap (typeOf b) tb) (hn : PySem.W.notFirst K C tb = true)
    (hne : PySem.W.findIn K (.ref C) "__ne__" = some (some (.builtin "object.__ne__"))) (hs : PySem.W.findIn K (.ref C) "__eq__" = some (some (.ref f))) (hf : PySem.W.isFn K (.ref f) = true) (hm : PySem.W.mroIn K C (.type "object") = some true)
    (h : wpAny (model prog w) A.in1 (call (.ref f) [.ref a, b]) (fun r s' => ∃ x, r = .bool x ∧ Q (.bool (!x)) s') E s) : wpAny (model prog w) A (richCompare .NotEq (.ref a) b) Q E s := by
  have one : wpAny (model prog w) A (tryCompare (.ref a) "__ne__" b) (fun r s' => ∃ v, r = some v ∧ Q v s') E s := by
    unfold tryCompare
    have S := PySem.F.cmp_object.ne
    have fin0 : wpAny (model prog w) A (call (.builtin "object.__ne__") [.ref a, b]) (fun v s' => ∃ x, v = .bool x ∧ Q v s') E s := by
      refine wpAny_call (codeAny_call_builtin S.plain PySem.F.cmpEntry_ne (PySem.W.check_slot (i := "object.__ne__") (owner := "object") (n := "__ne__") PySem.F.cmpKind_ne PySem.F.cmpSplit_ne (I.type.andThen (PySem.W.looks_mroIn X hm)) (PySem.F.cmpArgs_ne _ _) ?_))
      unfold Builtin.«object.__ne__»
      refine wpAny_bind (m := slotArgs "__ne__" 1 _) (wpAny_pure ?_)
      refine wpAny_bind (m := cRoomFor _ _) (wpAny_cRoomFor hu ?_)
      refine wpAny_bind (m := callSpecialIfBound? (.ref a) (Str.ofString "__eq__") _) (PySem.W.ifBound_K X I hs hf (wpAny_mono h (fun r s' hq => ?_) fun _ _ y => y))
      obtain ⟨x, rfl, hq⟩ := hq
      refine wpAny_bind (m := truthy (.bool _)) (wpAny_truthy_bool ?_)
      exact wpAny_pure (by exact ⟨_, rfl, hq⟩)
    refine wpAny_bind ?_
    simp only [callSpecialIfBound?, bindSpecialIfBound?]
    refine wpAny_holding (wpAny_bind (wpAny_bind (wpAny_bind (I.type.here ((looks_findIn X hne).here ?_)))))
    refine wpAny_bind (wpAny_askSetting (wpAny_ite ?_))
    have fin : wpAny (model prog w) A (call (.builtin "object.__ne__") ([.ref a] ++ [b]) >>= fun v => pure (some v)) (fun r s' => ∃ x, r = some (.bool x) ∧ Q (.bool x) s') E s :=
      wpAny_bind (wpAny_mono fin0 (fun v s' h' => by obtain ⟨x, rfl, hq⟩ := h'; exact wpAny_pure ⟨x, rfl, hq⟩) fun _ _ h' => h')
    have back : ∀ r s', (∃ x, r = some (Value.bool x) ∧ Q (.bool x) s') → wpAny (model prog w) A (match r with
        | some .notImplemented | none => pure none
        | some v => pure (some v)) (fun r s' => ∃ v, r = some v ∧ Q v s') E s' := fun r s' hr => by
      obtain ⟨x, rfl, hq⟩ := hr
      exact wpAny_pure ⟨_, rfl, hq⟩
    split
    · refine wpAny_bind ?_
      simp only [S.bind]
      refine wpAny_pure (wpAny_pure ?_)
      exact wpAny_mono fin back fun _ _ y => y
    · refine wpAny_tryCatch ?_
      refine wpAny_bind ?_
      simp only [S.bind]
      refine wpAny_pure (wpAny_pure ?_)
      exact wpAny_mono fin back fun _ _ y => y
  unfold richCompare
  simp only [oneThing_ref]
  refine wpAny_holding (wpAny_bind (wpAny_cRoomFor (Nat.lt_of_succ_lt hu) ?_))
  refine wpAny_bind (I.type.here (wpAny_bind (hb.here ?_)))
  split
  · rename_i q
    have e : PySem.W.subIn K tb (.ref C) = some false := by
      rcases Bool.or_eq_true_iff.mp hn with e | e
      · rw [beq_iff_eq.mp e] at q; simp at q
      · exact beq_iff_eq.mp e
    refine wpAny_bind ((PySem.W.looks_subIn X e).here ?_)
    simp only [Bool.false_eq_true, if_false]
    refine wpAny_bind (wpAny_mono one (fun r s' z => ?_) fun _ _ e => e)
    obtain ⟨v, rfl, hq⟩ := z
    exact wpAny_pure hq
  · refine wpAny_bind (wpAny_pure ?_)
    simp only [Bool.false_eq_true, if_false]
    refine wpAny_bind (wpAny_mono one (fun r s' z => ?_) fun _ _ e => e)
    obtain ⟨v, rfl, hq⟩ := z
    exact wpAny_pure hq
end
end Mo
namespace Mo
open PySem PySem.Spec PyProof.Rows L2
section
variable {X : Cx} {W : WX} {a b e o : Expr} {ma mb mo : Sg → Mh → R D} {ml : Sg → Mh → R (List D)} {pos p apos : Pos} {k : Nat} {g C : Addr} {fd : FuncData} {ps : List Str} {fm : FM} {c : Str} {sp : Sp}
def rNeO (K : PySem.W.Frag) (C : Addr) (sp : Sp) : R2 := fun x y H Q => ∃ a dx fs, x = .ref a ∧ H a = some (.ins C dx fs) ∧ ((∃ t, TyX K H y (.type t) ∧ knT t = true) ∨ ∃ b dy gs, y = .ref b ∧ H b = some (.ins C dy gs)) ∧ sp [x, y] H (fun v H' => ∃ z, v = .bl z ∧ Q (.bl (!z)) H') (fun _ _ _ => False)
theorem op_neO (hne : PySem.W.findIn X.K (.ref C) "__ne__" = some (some (.builtin "object.__ne__"))) (hm : PySem.W.mroIn X.K C (.type "object") = some true) (hs : PySem.W.findIn X.K (.ref C) "__eq__" = some (some (.ref g))) (hf : PySem.W.isFn X.K (.ref g) = true) (F : FnOk X.prog X.w X.K X.mg X.base (L2.CX X.prog X.w) k g fd ps sp) (hr : Room (k + 1) X.A) (hb : L2.Binds X.K fd ps []) : OpR X (compareOp .NotEq) (rNeO X.K C sp) := by
  intro pins s σ H x y v u Q I rx ry h
  obtain ⟨a, dx, fs, rfl, ha, hy, q⟩ := h
  cases (show v = Value.ref a from rx)
  obtain ⟨ox, od, J⟩ := ins_inst I ha
  have hr1 : Room k X.A.in1 := Room.in1 hr
  have fin : wpAny (model X.prog X.w) X.A.in1 (call (.ref g) [.ref a, u]) (fun r s' => ∃ z, r = Value.bool z ∧ EP X pins σ Q (.bool (!z)) s') X.xe s :=
    wpAny_mono (run_ok (us := [.ref a, u]) (vs := [.ref a, y]) F hr1 I.env0.in1 hb I (.cons rfl (.cons ry .nil)) q) (fun w s' z => by
      obtain ⟨z', H', I', rz, x, ex, qz⟩ := z
      subst ex
      cases (show w = Value.bool x from rz)
      exact ⟨x, rfl, .bl _, H', I', rfl, qz⟩) fun _ _ x => x
  have hu : X.A.units + 1 < cLine := hu_of hr
  show wpAny (model X.prog X.w) X.A (richCompare .NotEq (.ref a) u) _ _ _
  rcases hy with ⟨t, ty, kt⟩ | ⟨b, dy, gs, rfl, hb'⟩
  · exact ne_own hu I.kIn J (looks_of I ry ty) (not_below kt) hne hs hf hm fin
  · cases (show u = Value.ref b from ry)
    obtain ⟨ox2, od2, J2⟩ := ins_inst I hb'
    exact ne_own (tb := .ref C) hu I.kIn J J2.type (by simp [PySem.W.notFirst]) hne hs hf hm fin
def dNeO (c : Str) (fm : FM) (x y : D) (h : Mh) : R D := match insAt c x h with
  | some _ => if (tyD y h).isSome = true ∨ (insAt c y h).isSome = true then (fm [x, y] h).nox.bind fun d h' => match d with
    | .bl z => .ok (.bl (!z)) h'
    | _ => .bad else .bad
  | none => .bad
theorem sem_neO (hg : X.mg c = some (.ref C)) : Sem2 X (rNeO X.K C (spM X.K X.mg 2 fm)) (dNeO c fm) := by
  intro W σ ρ H h Q v1 v2 d1 d2 rh r1 r2 w
  unfold dNeO at w
  split at w
  · rename_i nf e0
    split at w
    · rename_i hy
      obtain ⟨p, dx, fv, rfl, en, er, rfl, hx, ke, q⟩ := insAt_of rh hg r1 e0
      refine ⟨p, dx, fv, rfl, hx, ?_, nox_spM (W := W) (σ := σ) (.cons r1 (.cons r2 .nil)) rh rfl (w.cut fun ρ1 H1 h1 v d le rh1 rv w1 => ?_)⟩
      · by_cases ht : (tyD d2 h).isSome = true
        · obtain ⟨t, et⟩ := Option.isSome_iff_exists.mp ht
          exact .inl ⟨t, tyD_of rh r2 et, tyD_kn et⟩
        · obtain ⟨⟨n2, fs2⟩, e2⟩ := Option.isSome_iff_exists.mp (hy.resolve_left ht)
          obtain ⟨p2, dx2, fv2, rfl, _, _, rfl, hx2, _, _⟩ := insAt_of rh hg r2 e2
          exact .inr ⟨p2, dx2, fv2, rfl, hx2⟩
      · split at w1
        · cases rv
          exact ⟨_, rfl, w1.okI Le.refl rh1 (.bl _)⟩
        · exact w1.elim
    · exact w.elim
  · exact w.elim
theorem q_neO (hg : X.mg c = some (.ref C)) (hne : PySem.W.findIn X.K (.ref C) "__ne__" = some (some (.builtin "object.__ne__"))) (hm : PySem.W.mroIn X.K C (.type "object") = some true) (hs : PySem.W.findIn X.K (.ref C) "__eq__" = some (some (.ref g))) (hf : PySem.W.isFn X.K (.ref g) = true) (F : FnOk X.prog X.w X.K X.mg X.base (L2.CX X.prog X.w) k g fd ps (spM X.K X.mg 2 fm)) (hr : Room (k + 1) X.A) (hb : L2.Binds X.K fd ps []) (ha : PM X W a ma) (hb2 : PM X W b mb) :
    PM X W (.Compare a [.NotEq] [b] pos) (m2 (dNeO c fm) ma mb) := q_cmp (op_neO hne hm hs hf F hr hb) (sem_neO hg) ha hb2 (nomark _)
/-! ### further methods of texts and lists -/
def dNewStrs (ys : List Str) (h : Mh) : R D := .ok (.ref h.length) (h ++ [.lst (ys.map D.str)])
theorem newStrs_of {W : WX} {σ : L2.St} {ρ : Ren} {H : Hp} {h : Mh} {Q : VK} {ys : List Str} (rh : RHp X.K X.mg ρ H h) (w : WV X.K X.mg W σ Q ρ H (dNewStrs ys h)) : rNewStrs ys H Q := fun p hp => w.alloc rh hp (RO.newList hp (RVs.ofStrs ys))
def dSplit (x : D) (ds : List D) (h : Mh) : R D := match x, ds with
  | .str a, [.str b] => if (b.length == 0) = false ∧ a.length + 2 ≤ sizeLine then dNewStrs (Txt.split a b) h else .bad
  | _, _ => .bad
theorem sem_split : SemMt X (fun x xs H Q => ∃ a b, x = .str a ∧ xs = [.str b] ∧ (b.length == 0) = false ∧ a.length + 2 ≤ sizeLine ∧ rNewStrs (Txt.split a b) H Q) dSplit := by
  intro W σ ρ H h Q v d vs ds rh r rvs w
  unfold dSplit at w
  split at w
  · split at w
    · rename_i hz
      cases r
      cases rvs with
      | cons ry t => cases t; cases ry; exact ⟨_, _, rfl, rfl, hz.1, hz.2, newStrs_of rh w⟩
    · exact w.elim
  · exact w.elim
theorem q_split (ho : PM X W o mo) (ha : PM X W a ma) (hbase : attributeBase o "split" X.env (eval o X.env) = eval o X.env := by rfl) (hline : (apos.endLine == pos.line) = true := by rfl) (hs : starEach [a] X.env = (false, eval a X.env) :: starEach [] X.env := by rfl)
    (hfew : ((backTo pos (starEach [a] X.env)).all (fun x => !x.1) && (backToKw pos (keywordEach [] X.env)).all (fun x => x.1.isSome)
      && decide ([a].length + ([] : List Keyword).length + (if ([] : List Keyword).isEmpty then 0 else 1) < 30)) = true := by rfl) :
    PM X W (.Call (.Attribute o "split" apos) [a] [] pos) (mMt "str" dSplit mo (mCons ma mNil)) := q_bm PySem.F.plainAttrs_str PySem.F.slot_str_split PySem.F.type_str_split mt_split sem_split ho (l_cons ha l_nil hs) hbase hfew hline hs rfl
def dUpper (x : D) (ds : List D) (h : Mh) : R D := match x, ds with
  | .str a, [] => if a.length ≤ 5592405 then .ok (.str (Txt.upper a)) h else .bad
  | _, _ => .bad
theorem sem_upper : SemMt X (fun x xs H Q => ∃ a, x = .str a ∧ xs = [] ∧ a.length ≤ 5592405 ∧ Q (.str (Txt.upper a)) H) dUpper := by
  intro W σ ρ H h Q v d vs ds rh r rvs w
  unfold dUpper at w
  split at w
  · split at w
    · cases r; cases rvs; exact ⟨_, rfl, rfl, by assumption, w.okI Le.refl rh (.str _)⟩
    · exact w.elim
  · exact w.elim
theorem q_upper (ho : PM X W o mo) (hbase : attributeBase o "upper" X.env (eval o X.env) = eval o X.env := by rfl) (hline : (apos.endLine == pos.line) = true := by rfl) : PM X W (.Call (.Attribute o "upper" apos) [] [] pos) (mMt "str" dUpper mo mNil) := q_bm0 PySem.F.plainAttrs_str PySem.F.slot_str_upper PySem.F.type_str_upper mt_upper sem_upper ho hbase hline
end
end Mo

namespace Mo
open PySem PySem.Spec PyProof.Rows L2
/-! ### a new instance by keywords -/
section
variable {X : Cx} {W : WX} {a b e : Expr} {ma mb mo : Sg → Mh → R D} {ml : Sg → Mh → R (List D)} {pos apos p : Pos} {k np : Nat} {g C : Addr} {fd : FuncData} {ps : List Str} {fm : FM} {c s0 : Str} {kws : List Keyword}
def KwI (K : PySem.W.Frag) (fd : FuncData) (s0 : Str) (ps : List Str) : Prop := ∀ (s : Shared) (u : Value) (us : List Value), K.In s.heap → us.length = ps.length → BindsTo s fd ⟨[u], ps.zip us⟩ ((s0 :: ps).zip (u :: us))
theorem Fun_kwi {K : PySem.W.Frag} {x qual : Str} {st : Stmt} {f : Addr} {fd : FuncData} {ps : List Str} {s0 : Str} (F : Fun K x qual st f fd)
    (h : ∀ (kV doc pm : Value) (an : Option Addr) (cdv ct : Value) (u : Value) (us : List Value), us.length = ps.length → bindArgs (PySem.W.fnOf x qual (defArgs st) (defBody st) (defScope st) .none kV doc pm an cdv ct) ⟨[u], ps.zip us⟩ = pure ((s0 :: ps).zip (u :: us))) : KwI K fd s0 ps := by
  obtain ⟨oc, od, kV, doc, pm, an, cdv, ct, osl, rfl, lk, hcd⟩ := F.ex
  exact fun s u us _ hl => .of_eq (h kV doc pm an cdv ct u us hl)
theorem q_makeK (hm : X.mg c = some (.ref C)) (M : Mk X.K C g) (F : FnOk X.prog X.w X.K X.mg X.base (L2.CX X.prog X.w) k g fd (s0 :: ps) (spM X.K X.mg np fm)) (hr : Room (k + 1) X.A) (tk : Takes X W) (hb : KwI X.K fd s0 ps) (ha : PKM X W kws ml)
    (hall : (backToKw pos (keywordEach kws X.env)).all (·.1.isSome) = true := by rfl) (hks : (backToKw pos (keywordEach kws X.env)).filterMap (·.1) = ps := by rfl) (hg : Gl X c := by rfl) (hdb : (c == ("__debug__" : Str)) = false := by decide)
    (hpl : ((backTo pos (starEach [] X.env)).any (·.1) || (backToKw pos (keywordEach kws X.env)).any (·.1.isNone)) = false := by rfl) : PM X W (.Call (.Name c p) [] kws pos) (mMake c np fm ml []) := by
  refine ⟨⟨fun pins s σ H Q I h => ?_⟩⟩
  refine wpAny_Call_Name_kw (ld_glob I hg hm ?_ hdb)
  refine PySem.W.callWith_KW0 (h₀ := X.base) I.ok.mod.kin M.kp hall ?_ hpl
  obtain ⟨ρ, sg, h, hs, rh, w⟩ := h
  refine thn (ha.pk.run pos pins s σ H (fun vs H1 => ∀ x dx, H1 x = none → H1 dx = none → dx ≠ x → spM X.K X.mg np fm (.ref x :: vs) (upd (upd H1 dx (.own x)) x (.ins C dx [])) (fun v H2 => v = .non ∧ Q (.ref x) H2) (WE W σ)) I (TMl.go hs rh w fun ρ1 H1 h1 vs ds le rh1 rvs w1 => fun x dx nx ndx ne => by
    split at w1
    · rename_i hn
      rw [List.append_nil] at hn w1
      exact make_wg hm rh1 rvs hn w1 nx ndx ne
    · exact w1.elim)) fun us s2 ⟨vs, H2, I2, r, q2⟩ => ⟨I2.kIn, ?_⟩
  rw [hks]
  have hq := q2 (s2.heap.objs.size + 1) s2.heap.objs.size (I2.hok.fresh (Nat.le_succ _)) (I2.hok.fresh (Nat.le_refl _)) (Nat.ne_of_lt (Nat.lt_succ_self _))
  have I3 := Inv.made (C := C) I2
  have r2 : Vals (V.ref (s2.heap.objs.size + 1) :: vs) (Value.ref (s2.heap.objs.size + 1) :: us) := .cons rfl r
  have hl : us.length = ps.length := by
    have e := r2.length
    rw [F.len _ _ _ _ hq] at e
    simpa using e.symm
  refine wpAny_call (make_map (f := g) I2.kIn M.makes M.init (beq_iff_eq.mp M.fn) (codeAny_mono (F.run _ X.stack _ _ ⟨[Value.ref (s2.heap.objs.size + 1)], ps.zip us⟩ (Value.ref (s2.heap.objs.size + 1) :: us) _ _ (WE W σ) (hr.make C [] (ps.zip us))
    (I3.env0.make C [] (ps.zip us)) (hb _ (Value.ref (s2.heap.objs.size + 1)) us I3.kIn hl) r2 hq) fun r s' hq' => ?_))
  cases r with
  | error e => exact passAt tk σ pins _ _ e s' I3 hq'
  | ok fl =>
    cases fl with
    | ret u =>
      obtain ⟨v, H', I4, rv, ev, q3⟩ := I3.after hq'
      subst ev
      exact ⟨rv, ⟨V.ref (s2.heap.objs.size + 1), H', I4, rfl, q3⟩⟩
    | next => exact False.elim hq'
    | brk => exact False.elim hq'
    | cont => exact False.elim hq'
/-! ### isinstance of an own class -/
def dIsO (c : Str) (ds : List D) (h : Mh) : R D := match ds with
  | [x, .glo c'] => if c' = c then match insAt c x h with
    | some _ => .ok (.bl true) h
    | none => match tyD x h with
      | some _ => .ok (.bl false) h
      | none => .bad
    else .bad
  | _ => .bad
theorem kit_nown {K : PySem.W.Frag} {t : String} (h : knT t = true) (hc : PySem.W.isClsIn K C = true) (ht : PySem.W.typeIn K (.ref C) = some (.type "type")) : PySem.W.kitOne K (.type t) (.ref C) = some false := by
  have hs : PySem.W.subIn K (.type t) (.ref C) = some false := by
    rcases knT_of h with rfl | rfl | rfl | rfl | rfl | rfl | rfl <;> rfl
  unfold PySem.W.kitOne PySem.W.kitCls
  have hc' : (PySem.W.clsIn K C).isSome = true := hc
  rw [if_neg (by simp)]
  dsimp only
  rw [hc', ht, hs]
  rfl
theorem sem_isO (hm : X.mg c = some (.ref C)) (hc : PySem.W.isClsIn X.K C = true) (ht : PySem.W.typeIn X.K (.ref C) = some (.type "type")) :
    SemL X (fun xs H Q => rIsi X.K xs H Q ∨ ∃ a dx fs, xs = [V.ref a, V.ref C] ∧ H a = some (.ins C dx fs) ∧ Q (.bl true) H) (dIsO c) := by
  intro W σ ρ H h Q vs ds rh rvs w
  unfold dIsO at w
  split at w
  · split at w
    · rename_i ec
      subst ec
      cases rvs with
      | cons r1 t =>
        cases t with
        | cons r2 t =>
          cases t
          cases r2 with
          | glo e =>
            rw [hm] at e; cases e
            split at w
            · rename_i e0
              obtain ⟨p, dx, fv, rfl, en, er, rfl, hx, ke, q⟩ := insAt_of rh hm r1 e0
              exact .inr ⟨p, dx, fv, rfl, hx, w.okI Le.refl rh (.bl _)⟩
            · split at w
              · rename_i t et
                exact .inl ⟨_, _, _, _, _, rfl, .own C, tyD_of rh r1 et, kit_nown (tyD_kn et) hc ht, w.okI Le.refl rh (.bl _)⟩
              · exact w.elim
    · exact w.elim
  · exact w.elim
theorem q_isO {p2 : Pos} (hm : X.mg c = some (.ref C)) (hi : C8.InsC X.K C) (hc : PySem.W.isClsIn X.K C = true) (ht : PySem.W.typeIn X.K (.ref C) = some (.type "type")) (hb : X.mg "isinstance" = none) (ha : PM X W a ma)
    (hg : Gl X c := by rfl) (hdb : (c == ("__debug__" : Str)) = false := by decide) (hgl : Gl X "isinstance" := by rfl) (he : starEach [a, .Name c p2] X.env = (false, eval a X.env) :: starEach [.Name c p2] X.env := by rfl) (he2 : starEach [.Name c p2] X.env = (false, eval (.Name c p2) X.env) :: starEach [] X.env := by rfl) :
    PM X W (.Call (.Name "isinstance" p) [a, .Name c p2] [] pos) (mBi (dIsO c) (mCons ma (mCons (mLit (.glo c)) mNil))) :=
  q_bi (CallRor call_isi (C8.call_isC hi)) (sem_isO hm hc ht) hb (l_cons ha (l_cons (q_lit (v := .ref C) (pe_glob hg hm (by rfl) hdb) fun _ _ => .glo hm) l_nil he2) he) (by decide +kernel) hgl (by decide) (by decide) he rfl
/-! ### list.index -/
def dIndex (x : D) (ds : List D) (h : Mh) : R D := match x, ds with
  | .ref n, [y] => match pd 66 h (.ref n), pd 66 h y with
    | some (.list ps), some d => if SeqAt.shaped (.list ps) = true ∧ SeqAt.shaped d = true then match ps.findIdx? (fun z => PyData.eqv z d) with
      | some j => .ok (.int (j : Nat)) h
      | none => .bad
      else .bad
    | _, _ => .bad
  | _, _ => .bad
theorem sem_index : SemMt X (rIndexD X.K) dIndex := by
  intro W σ ρ H h Q v d vs ds rh r rvs w
  unfold dIndex at w
  split at w
  · split at w
    · rename_i ps pd2 e1 e2
      split at w
      · rename_i hz
        split at w
        · rename_i j ej
          cases rvs with
          | cons ry t =>
            cases t
            cases r with
            | ref r =>
              obtain ⟨hj, h1, h2⟩ := List.findIdx?_eq_some_iff_getElem.mp ej
              refine ⟨_, _, pd2, ps, j, ps[j], rfl, rfl, pd_dp rh _ _ _ _ (.ref r) e1, pd_dp rh _ _ _ _ ry e2, hz.1, hz.2, List.getElem?_eq_getElem hj, h1, fun m z' hm ez => ?_, w.okI Le.refl rh (.int _)⟩
              have hm2 : m < ps.length := Nat.lt_trans hm hj
              rw [List.getElem?_eq_getElem hm2] at ez
              cases ez
              exact Bool.eq_false_iff.mpr (h2 m hm)
        · exact w.elim
      · exact w.elim
    · exact w.elim
  · exact w.elim
theorem hu65 {A : Around} {k : Nat} (hr : Room k A) : A.units + 65 < cLine := by have := hr.un; omega
theorem q_index (hu : X.A.units + 65 < cLine) (ho : PM X W o mo) (ha : PM X W a ma) (hbase : attributeBase o "index" X.env (eval o X.env) = eval o X.env := by rfl) (hline : (apos.endLine == pos.line) = true := by rfl) (hs : starEach [a] X.env = (false, eval a X.env) :: starEach [] X.env := by rfl)
    (hfew : ((backTo pos (starEach [a] X.env)).all (fun x => !x.1) && (backToKw pos (keywordEach [] X.env)).all (fun x => x.1.isSome)
      && decide ([a].length + ([] : List Keyword).length + (if ([] : List Keyword).isEmpty then 0 else 1) < 30)) = true := by rfl) :
    PM X W (.Call (.Attribute o "index" apos) [a] [] pos) (mMt "list" dIndex mo (mCons ma mNil)) := q_bm PySem.F.plainAttrs_list PySem.F.slot_list_index PySem.F.type_list_index (mt_indexD hu) sem_index ho (l_cons ha l_nil hs) hbase hfew hline hs rfl
/-! ### list(d) -/
def dListD (ds : List D) (h : Mh) : R D := match ds with
  | [.ref n] => match h[n]? with
    | some (.dk kvs) => .ok (.ref h.length) (h ++ [.lst (kvs.map fun kv => dKey kv.1)])
    | some (.zk kvs) => .ok (.ref h.length) (h ++ [.lst (kvs.map fun kv => dKey kv.1)])
    | _ => .bad
  | _ => .bad
theorem keysV_of {K mg ρ H} {kvs : List (Key × V)} {kds : List (Key × D)} (ke : kvs.map (·.1) = kds.map (·.1)) : RVs K mg ρ H (kvs.map fun kv => kV kv.1) (kds.map fun kv => dKey kv.1) := by
  have e1 : (kvs.map fun kv => kV kv.1) = (kvs.map (·.1)).map kV := by rw [List.map_map]; rfl
  have e2 : (kds.map fun kv => dKey kv.1) = (kds.map (·.1)).map dKey := by rw [List.map_map]; rfl
  rw [e1, e2, ke]
  exact dKeys_rv _
theorem sem_listD : SemL X (fun xs H Q => ∃ (a : Addr) (kvs : List (Key × V)), xs = [.ref a] ∧ Rd H a (.dK kvs) ∧ ∀ p, H p = none → Q (.ref p) (upd H p (.lst (kvs.map fun kv => kV kv.1)))) dListD := by
  intro W σ ρ H h Q vs ds rh rvs w
  unfold dListD at w
  split at w
  · split at w
    · rename_i e0
      cases rvs with
      | cons r t =>
        cases t
        cases r with
        | ref r =>
          cases rh.at r e0 with
          | @dk kvs _ hl ke q => exact ⟨_, kvs, rfl, .inl hl, fun p hp => w.alloc rh hp (RO.newList hp (keysV_of ke))⟩
    · rename_i e0
      cases rvs with
      | cons r t =>
        cases t
        cases r with
        | ref r =>
          cases rh.at r e0 with
          | @zk o kvs _ hl ke q => exact ⟨_, kvs, rfl, .inr ⟨o, hl⟩, fun p hp => w.alloc rh hp (RO.newList hp (keysV_of ke))⟩
    · exact w.elim
  · exact w.elim
theorem q_listD (hc : X.calm = true) (hm : X.mg "list" = none) (ha : PL X W [e] ml) (hg : Gl X "list" := by rfl) (he : starEach [e] X.env = (false, eval e X.env) :: starEach [] X.env := by rfl) : PM X W (.Call (.Name "list" p) [e] [] pos) (mBi dListD ml) := q_ty (call_listD hc) sem_listD hm ha (by decide +kernel) hg (by decide) (by decide) he rfl
end
end Mo

namespace Mo
open PySem PySem.Spec PyProof.Rows L2
/-! ### texts, own classes: for simp -/
@[simp] theorem flat_s {x : Str} : flatD (.str x) = true := rfl
@[simp] theorem flat_i {x : Int} : flatD (.int x) = true := rfl
@[simp] theorem flat_b {x : Bool} : flatD (.bl x) = true := rfl
@[simp] theorem flat_n : flatD .non = true := rfl
@[simp] theorem eqF_ss {x y : Str} : eqF (.str x) (.str y) = decide (x = y) := rfl
@[simp] theorem eqF_ii {x y : Int} : eqF (.int x) (.int y) = decide (x = y) := rfl
@[simp] theorem eqF_sn {x : Str} : eqF (.str x) .non = false := rfl
@[simp] theorem eqF_ns {x : Str} : eqF .non (.str x) = false := rfl
@[simp] theorem in_chr {neg : Bool} {c : Nat} {b : Str} {h : Mh} : dIn neg (.str ⟨#[c]⟩) (.str b) h = .ok (.bl (if neg then !decide (c ∈ b.cps.toList) else decide (c ∈ b.cps.toList))) h := rfl
@[simp] theorem in_lst {neg : Bool} {a : D} {n : Nat} {h : Mh} : dIn neg a (.ref n) h = match h[n]? with
    | some (.lst ds) => if flatD a = true ∧ ds.all flatD = true then .ok (.bl (if neg then !(ds.any fun y => eqF y a) else ds.any fun y => eqF y a)) h else .bad
    | _ => .bad := by cases a <;> rfl
@[simp] theorem in_tup {neg : Bool} {a : D} {ds : List D} {h : Mh} : dIn neg a (.tup ds) h = if flatD a = true ∧ ds.all flatD = true then .ok (.bl (if neg then !(ds.any fun y => eqF y a) else ds.any fun y => eqF y a)) h else .bad := by cases a <;> rfl
@[simp] theorem in_kt {neg : Bool} {a : D} {ds : List D} {h : Mh} : dIn neg a (.kt ds) h = if flatD a = true ∧ ds.all flatD = true then .ok (.bl (if neg then !(ds.any fun y => eqF y a) else ds.any fun y => eqF y a)) h else .bad := by cases a <;> rfl
open Classical in
@[simp] theorem add_ss {a b : Str} {h : Mh} : dAdd (.str a) (.str b) h = if LenE (a.length + b.length) then .ok (.str (a ++ b)) h else .bad := by
  by_cases c : LenE (a.length + b.length)
  · rw [if_pos c]; exact if_pos c.r
  · rw [if_neg c]; exact if_neg fun z => c ⟨z⟩
theorem any_eq {l : List Str} {s : Str} : ((l.map D.str).any fun y => eqF y (.str s)) = decide (s ∈ l) := by
  induction l with
  | nil => simp
  | cons x l ih =>
    simp only [List.map_cons, List.any_cons, ih, eqF_ss, List.mem_cons, Bool.decide_or]
    congr 1
    simp [eq_comm]
theorem flat_strs {l : List Str} : (l.map D.str).all flatD = true := by
  induction l with
  | nil => rfl
  | cons x l ih => simp [ih]
@[simp] theorem it_str {z : Str} {h : Mh} : dIter (.str z) h = .ok (srcS z) h := rfl
@[simp] theorem srcS_items {z : Str} : (srcS z).items = z.cps.toList.map fun c => D.str ⟨#[c]⟩ := rfl
@[simp] theorem srcS_at {z : Str} {i x h} : (srcS z).at' i x h = True := rfl
@[simp] theorem srcS_fin {z : Str} {i h} : (srcS z).fin i h = True := rfl
@[simp] theorem g_four {i j k l : Nat} {a b c d : D} {sg : Sg} : gTp 4 (gsCons (gNm i) (gsCons (gNm j) (gsCons (gNm k) (gsCons (gNm l) gsNil)))) (.tup [a, b, c, d]) sg = some ((((sg.set i (some a)).set j (some b)).set k (some c)).set l (some d)) := rfl
@[simp ↓] theorem w_enum {ml sg h} {P} {z : Tg P} : R.wp (mEnum ml sg h) P z = R.wp ((ml sg h).bind dEnum) P := rfl
@[simp ↓] theorem w_disp {r sg h} {P} {z : Tg P} : R.wp (mDisp r sg h) P z = R.wp (mDisp r sg h) P := rfl
/-! own classes -/
@[simp] theorem ins_at {c : Str} {n : Nat} {h : Mh} : insAt c (.ref n) h = match h[n]? with
    | some (.ins c' fs) => if c' = c then some (n, fs) else none
    | _ => none := rfl
@[simp] theorem l_fld {c f : Str} {d : D} {h : Mh} : dFld c f d h = match insAt c d h with
  | some (_, fs) => match fs.lookup f with
    | some x => .ok x h
    | none => .bad
  | none => .bad := rfl
@[simp ↓] theorem w_fldSt {c f mo mv sg h} {N : Sg → Mh → Prop} {T : D → Mh → Prop} {z : Tg N} {y : Tg T} : RS.wp (sFldSt c f mo mv sg h) N T z y = RS.wp ((mv sg h).th sg fun d h1 => (mo sg h1).th sg fun x h2 => match insAt c x h2 with
  | some (n, fs) => if fs.length < 1000 then .nx sg (h2.set n (.ins c (putFD f d fs))) else .bad
  | none => .bad) N T := rfl
@[simp ↓] theorem w_meth {c m np fm mo ml dds sg h} {P} {z : Tg P} : R.wp (mMeth c m np fm mo ml dds sg h) P z = R.wp ((mo sg h).bind fun x h1 => match insAt c x h1 with
  | some (_, fs) => if fs.lookup m = none then (ml sg h1).bind fun ds h2 => if (x :: (ds ++ dds)).length = np then fm (x :: (ds ++ dds)) h2 else .bad else .bad
  | none => .bad) P := rfl
@[simp ↓] theorem w_make {c np fm ml dds sg h} {P} {z : Tg P} : R.wp (mMake c np fm ml dds sg h) P z = R.wp ((ml sg h).bind fun ds h1 => if (D.ref h1.length :: (ds ++ dds)).length = np then (fm (.ref h1.length :: (ds ++ dds)) (h1 ++ [.ins c []])).bind fun d h2 => match d with
  | .non => .ok (.ref h1.length) h2
  | _ => .bad else .bad) P := rfl
@[simp ↓] theorem w_js0 {acc sg h} {P} {z : Tg P} : R.wp (mJs [] acc sg h) P z = R.wp (.ok (.str acc) h) P := rfl
open Classical in
@[simp ↓] theorem w_js {m ms acc sg h} {P} {z : Tg P} : R.wp (mJs (m :: ms) acc sg h) P z = R.wp (m sg h) fun d h1 => match d with
    | .str y => if LenE (acc ++ y).length then R.wp (mJs ms (acc ++ y) sg h1) P else False
    | _ => False := by
  show R.wp ((m sg h).bind _) P = _
  rw [wp_bind]
  cases m sg h with
  | ok d h1 =>
    rw [wp_ok, wp_ok]
    cases d with
    | str y =>
      dsimp only
      by_cases c : LenE (acc ++ y).length
      · rw [if_pos c, if_pos c.r]
      · rw [if_neg c, if_neg (fun z => c ⟨z⟩), wp_bad]
    | _ => exact wp_bad
  | exc c fs h1 => rw [wp_exc, wp_exc]
  | bad => rw [wp_bad, wp_bad]
open Classical in
@[simp] theorem l_fmtS {y : Str} {h : Mh} : dFmt (.str y) h = if LenE y.length then .ok (.str y) h else .bad := by
  by_cases c : LenE y.length
  · rw [if_pos c]; exact if_pos c.r
  · rw [if_neg c]; exact if_neg fun z => c ⟨z⟩
@[simp] theorem l_fmtI {i : Int} {h : Mh} : dFmt (.int i) h = if i.natAbs.log2 < 1920 then .ok (.str (Str.ofString (toString i))) h else .bad := rfl
@[simp ↓] theorem w_dc {mi g mt mk me vs sg h} {P} {z : Tg P} : R.wp (mDc mi g mt mk me vs sg h) P z = R.wp ((mi sg h).bind fun s h1 => dcL s g mt mk me (wipeD sg vs) h1.length s.items 0 (h1 ++ [.dk []])) P := rfl
@[simp] theorem l_strO {c : Str} {fm : FM} {x : D} {h : Mh} : dStrO c fm [x] h = match insAt c x h with
    | some _ => (fm [x] h).nox.bind fun d h' => match d with
      | .str y => .ok (.str y) h'
      | _ => .bad
    | none => .bad := rfl
@[simp] theorem l_listD {n : Nat} {h : Mh} : dListD [.ref n] h = match h[n]? with
    | some (.dk kvs) => .ok (.ref h.length) (h ++ [.lst (kvs.map fun kv => dKey kv.1)])
    | some (.zk kvs) => .ok (.ref h.length) (h ++ [.lst (kvs.map fun kv => dKey kv.1)])
    | _ => .bad := rfl
theorem toDig {b : Bool} : (if b then (1 : Int) else 0) = if b then 1 else 0 := rfl
end Mo

namespace Mo
open PySem PySem.Spec PyProof.Rows L2
/-! ### == of data -/
theorem dE_data {neg : Bool} {x y : D} {h : Mh} {a b : PyData} (e1 : pd 66 h x = some a) (e2 : pd 66 h y = some b) (s1 : SeqAt.shaped a = true) (s2 : SeqAt.shaped b = true) (sc : scD x y = none) : dE neg x y h = .ok (.bl (if neg then !PyData.eqv a b else PyData.eqv a b)) h := by
  unfold dE
  rw [sc]
  dsimp only
  unfold dEqB
  rw [e1, e2]
  exact if_pos ⟨s1, s2⟩
def GoodD (p : PyData) : Prop := PyData.canLay0 p = true ∧ p.depth ≤ 2
theorem goodD_all : ∀ ps : List PyData, (∀ p ∈ ps, GoodD p) → PyData.canLayAll0 ps = true ∧ PyData.depthAll ps ≤ 2
  | [], _ => by simp [PyData.canLayAll0, PyData.depthAll]
  | p :: ps, h => by
    obtain ⟨a, b⟩ := h p (by simp)
    obtain ⟨d, e⟩ := goodD_all ps (fun q hq => h q (by simp [hq]))
    simp [PyData.canLayAll0, PyData.depthAll, a, d]
    omega
theorem goodD_str {s : Str} (h : PyData.strOk s = true) : GoodD (.str s) := by simp [GoodD, PyData.canLay0, PyData.depth, h]
theorem goodD_int (x : Int) : GoodD (.int x) := by simp [GoodD, PyData.canLay0, PyData.depth]
theorem goodD_none : GoodD .none := by simp [GoodD, PyData.canLay0, PyData.depth]
theorem pd_ref {h : Mh} {r : Nat} {L : List D} {ps : List PyData} (e : h[r]? = some (.lst L)) (p : pdl (pd 65 h) L = some ps) : pd 66 h (.ref r) = some (.list ps) := by
  show (match h[r]? with
    | some (.lst ds) => (pdl (pd 65 h) ds).map PyData.list
    | some (.fls ds) => (pdl (pd 65 h) ds).map PyData.list
    | _ => none) = _
  rw [e]
  show (pdl (pd 65 h) L).map PyData.list = _
  rw [p]; rfl
theorem shaped_list {ps : List PyData} (g : ∀ p ∈ ps, GoodD p) : SeqAt.shaped (.list ps) = true := by
  obtain ⟨a, b⟩ := goodD_all ps g
  simp [SeqAt.shaped, PyData.canLay0, PyData.depth, a]; omega
theorem pdl_map {α : Type} {n : Nat} {h : Mh} {F : α → D} {G : α → PyData} : ∀ {l : List α}, (∀ s ∈ l, pd n h (F s) = some (G s)) → pdl (pd n h) (l.map F) = some (l.map G)
  | [], _ => rfl
  | s :: l, e => by
    have ih := pdl_map (l := l) (fun s hs => e s (List.mem_cons_of_mem _ hs))
    simp only [List.map_cons, pdl, e s (by simp), ih]
/-- beside an empty list -/
theorem dE_empty {α : Type} {neg : Bool} {h : Mh} {r r2 : Nat} {l : List α} {F : α → D} {G : α → PyData} (h1 : h[r]? = some (.lst (l.map F))) (h2 : h[r2]? = some (.lst [])) (p : ∀ s ∈ l, pd 65 h (F s) = some (G s)) (g : ∀ s ∈ l, GoodD (G s)) : dE neg (.ref r) (.ref r2) h = .ok (.bl (if neg then !l.isEmpty else l.isEmpty)) h := by
  rw [dE_data (pd_ref h1 (pdl_map p)) (pd_ref h2 (ps := []) rfl) (shaped_list fun q hq => by
    obtain ⟨s, hs, rfl⟩ := List.mem_map.mp hq
    exact g s hs) (shaped_list (by simp)) rfl]
  cases l <;> simp [PyData.eqv, PyData.eqvAll]
theorem dE_strs {neg : Bool} {h : Mh} {r r2 : Nat} {l : List Str} (h1 : h[r]? = some (.lst (l.map D.str))) (h2 : h[r2]? = some (.lst [])) (ok : ∀ s ∈ l, PyData.strOk s = true) : dE neg (.ref r) (.ref r2) h = .ok (.bl (if neg then !l.isEmpty else l.isEmpty)) h := dE_empty (G := PyData.str) h1 h2 (fun _ _ => rfl) fun s hs => goodD_str (ok s hs)
end Mo

namespace K10
open PySem PySem.Spec PyProof.Rows L2 Mo
def topS (i : Nat) : Stmt := PySem.Challenge.pw_needleblind_k10_circuit_texts_there_and.main.body.getD i (.Pass ⟨0, 0, 0, 0⟩)
def c_CIRCUIT_WORDS : D := .kt [(.str (Str.ofString "and")), (.str (Str.ofString "cell")), (.str (Str.ofString "coin")), (.str (Str.ofString "from")), (.str (Str.ofString "in")), (.str (Str.ofString "not")), (.str (Str.ofString "open")), (.str (Str.ofString "out")), (.str (Str.ofString "piece")), (.str (Str.ofString "secret")), (.str (Str.ofString "xor"))]
def c_LETTERS : D := .str (Str.ofString "abcdefghijklmnopqrstuvwxyz")
def c_MOST_CELLS : D := .int 120
def c_MOST_GATES : D := .int 4000
def c_MOST_INS : D := .int 16
def c_MOST_OPENS : D := .int 8
def c_MOST_SIGNS : D := .int 8
def c_RUN_SIGNS : D := .str (Str.ofString "abcdefghijklmnopqrstuvwxyz0123456789")
abbrev s_Circuit___eq__ : Stmt := inClass (topS 22) 1
theorem sc_Circuit___eq__ : FnScope ["self", "other"] ["self", "other"] (defScope s_Circuit___eq__) := ⟨rfl, rfl, rfl, by decide +kernel, rfl, by decide +kernel, by decide +kernel⟩
noncomputable def m_Circuit___eq__ : Sg → Mh → RS := (sRet (mAnd (mBi (dIsO "Circuit") (mCons (mVar 1) (mCons (mLit (.glo "Circuit")) mNil))) (m2 (dE false) (m1 (dFld "Circuit" "_text") (mVar 0)) (m1 (dFld "Circuit" "_text") (mVar 1)))))
noncomputable def f_Circuit___eq__ : FM := runF 2 m_Circuit___eq__
abbrev s__check_many : Stmt := topS 29
theorem sc__check_many : FnScope ["what", "many", "most"] ["what", "many", "most"] (defScope s__check_many) := ⟨rfl, rfl, rfl, by decide +kernel, rfl, by decide +kernel, by decide +kernel⟩
noncomputable def m__check_many : Sg → Mh → RS := (sIf (mTest (m2 dGt (mVar 1) (mVar 2))) sBad sNext)
noncomputable def f__check_many : FM := runF 3 m__check_many
abbrev s__check_from_wires : Stmt := topS 27
theorem sc__check_from_wires : FnScope ["forms", "given", "at", "form"] ["forms", "given"] (defScope s__check_from_wires) := ⟨rfl, rfl, rfl, by decide +kernel, rfl, by decide +kernel, by decide +kernel⟩
noncomputable def m__check_from_wires : Sg → Mh → RS := (sFor (mEnum (mCons (mVar 0) mNil)) (gTp 2 (gsCons (gNm 2) (gsCons (gNm 3) gsNil))) (sIf (mAndT (mTest (m2 (dE false) (m2 dIx (mVar 3) (mLit (.int 0))) (mLit (.str (Str.ofString "cell"))))) (mTest (m2 (dDIn true) (m2 dIx (m2 dIx (mVar 3) (mLit (.int 2))) (mLit (.int 2))) (mVar 1)))) sBad sNext))
noncomputable def f__check_from_wires : FM := runF 4 m__check_from_wires
abbrev s_is_letter_run : Stmt := topS 15
theorem sc_is_letter_run : FnScope ["text", "sign"] ["text"] (defScope s_is_letter_run) := ⟨rfl, rfl, rfl, by decide +kernel, rfl, by decide +kernel, by decide +kernel⟩
noncomputable def m_is_letter_run : Sg → Mh → RS := (sRet (mAnd (m2 (dE true) (mVar 0) (mLit (.str (Str.ofString "")))) (mAnd (m2 (dIn false) (m2 dIx (mVar 0) (mLit (.int 0))) (mLit c_LETTERS)) (mBi (dAll fun bs => bs.all id) (mCons (mLc (mIter (mVar 0)) (gNm 1) mYes (m2 (dIn false) (mVar 1) (mLit c_RUN_SIGNS)) [1]) mNil)))))
noncomputable def f_is_letter_run : FM := runF 2 m_is_letter_run
abbrev s_is_name : Stmt := topS 14
theorem sc_is_name : FnScope ["value"] ["value"] (defScope s_is_name) := ⟨rfl, rfl, rfl, by decide +kernel, rfl, by decide +kernel, by decide +kernel⟩
noncomputable def m_is_name : Sg → Mh → RS := (sRet (mAnd (mBi dIsi1 (mCons (mVar 0) (mCons (mLit (.ty "str")) mNil))) (mAnd (m2 dLe (mBi dLen (mCons (mVar 0) mNil)) (mLit c_MOST_SIGNS)) (mCall 1 f_is_letter_run (mCons (mVar 0) mNil) []))))
noncomputable def f_is_name : FM := runF 1 m_is_name
abbrev s_wire_name : Stmt := topS 16
theorem sc_wire_name : FnScope ["value"] ["value"] (defScope s_wire_name) := ⟨rfl, rfl, rfl, by decide +kernel, rfl, by decide +kernel, by decide +kernel⟩
noncomputable def m_wire_name : Sg → Mh → RS := (sRet (mAnd (mCall 1 f_is_name (mCons (mVar 0) mNil) []) (m2 (dIn true) (mVar 0) (mLit c_CIRCUIT_WORDS))))
noncomputable def f_wire_name : FM := runF 1 m_wire_name
abbrev s__fault_of : Stmt := topS 26
theorem sc__fault_of : FnScope ["form", "given", "kind", "wire", "_", "reads", "name"] ["form", "given"] (defScope s__fault_of) := ⟨rfl, rfl, rfl, by decide +kernel, rfl, by decide +kernel, by decide +kernel⟩
noncomputable def m__fault_of : Sg → Mh → RS := (sSeq (sAsg (gTp 4 (gsCons (gNm 2) (gsCons (gNm 3) (gsCons (gNm 4) (gsCons (gNm 5) gsNil))))) (mVar 0))
    (sSeq (sIf (mAndT (mTest (m2 (dE true) (mVar 2) (mLit (.str (Str.ofString "open"))))) (mNotT (mTru (mCall 1 f_wire_name (mCons (mVar 3) mNil) [])))) (sRet (mLit (.str (Str.ofString "name")))) sNext)
    (sSeq (sIf (mAndT (mTest (m2 (dE true) (mVar 2) (mLit (.str (Str.ofString "open"))))) (mTest (m2 (dDIn false) (mVar 3) (mVar 1)))) (sRet (mLit (.str (Str.ofString "twice")))) sNext)
    (sSeq (sFor (mIter (mVar 5)) (gNm 6) (sIf (mTest (m2 (dDIn true) (mVar 6) (mVar 1))) (sRet (mLit (.str (Str.ofString "unknown")))) sNext))
    (sRet (mLit .non))))))
noncomputable def f__fault_of : FM := runF 7 m__fault_of
abbrev s_gate_of : Stmt := topS 7
theorem sc_gate_of : FnScope ["words"] ["words"] (defScope s_gate_of) := ⟨rfl, rfl, rfl, by decide +kernel, rfl, by decide +kernel, by decide +kernel⟩
noncomputable def m_gate_of : Sg → Mh → RS := (sSeq (sIf (mAndT (mTest (m2 (dE false) (mBi dLen (mCons (mVar 0) mNil)) (mLit (.int 4)))) (mAndT (mTest (m2 (dE false) (m2 dIx (mVar 0) (mLit (.int 1))) (mLit (.str (Str.ofString "="))))) (mTest (m2 (dE false) (m2 dIx (mVar 0) (mLit (.int 2))) (mLit (.str (Str.ofString "not"))))))) (sRet (mTup (mCons (m2 dIx (mVar 0) (mLit (.int 0))) (mCons (mLit (.str (Str.ofString "not"))) (mCons (m2 dIx (mVar 0) (mLit (.int 3))) (mCons (mLit .non) mNil)))))) sNext)
    (sSeq (sIf (mAndT (mTest (m2 (dE false) (mBi dLen (mCons (mVar 0) mNil)) (mLit (.int 5)))) (mAndT (mTest (m2 (dE false) (m2 dIx (mVar 0) (mLit (.int 1))) (mLit (.str (Str.ofString "="))))) (mTest (m2 (dIn false) (m2 dIx (mVar 0) (mLit (.int 3))) (mTup (mCons (mLit (.str (Str.ofString "xor"))) (mCons (mLit (.str (Str.ofString "and"))) mNil))))))) (sRet (mTup (mCons (m2 dIx (mVar 0) (mLit (.int 0))) (mCons (m2 dIx (mVar 0) (mLit (.int 3))) (mCons (m2 dIx (mVar 0) (mLit (.int 2))) (mCons (m2 dIx (mVar 0) (mLit (.int 4))) mNil)))))) sNext)
    (sRet (mLit .non))))
noncomputable def f_gate_of : FM := runF 1 m_gate_of
abbrev s_read_by : Stmt := topS 8
theorem sc_read_by : FnScope ["gate"] ["gate"] (defScope s_read_by) := ⟨rfl, rfl, rfl, by decide +kernel, rfl, by decide +kernel, by decide +kernel⟩
noncomputable def m_read_by : Sg → Mh → RS := (sRet (mIte (mTest (m2 (dE false) (m2 dIx (mVar 0) (mLit (.int 1))) (mLit (.str (Str.ofString "not"))))) (mTup (mCons (m2 dIx (mVar 0) (mLit (.int 2))) mNil)) (mTup (mCons (m2 dIx (mVar 0) (mLit (.int 2))) (mCons (m2 dIx (mVar 0) (mLit (.int 3))) mNil)))))
noncomputable def f_read_by : FM := runF 1 m_read_by
abbrev s__form_of : Stmt := topS 24
theorem sc__form_of : FnScope ["words", "reads", "gate"] ["words"] (defScope s__form_of) := ⟨rfl, rfl, rfl, by decide +kernel, rfl, by decide +kernel, by decide +kernel⟩
noncomputable def m__form_of : Sg → Mh → RS := (sSeq (sIf (mTest (m2 (dIn false) (mLit (.str (Str.ofString ""))) (mVar 0))) (sRet (mLit .non)) sNext)
    (sSeq (sIf (mAndT (mTest (m2 (dE false) (mBi dLen (mCons (mVar 0) mNil)) (mLit (.int 2)))) (mTest (m2 (dIn false) (m2 dIx (mVar 0) (mLit (.int 0))) (mTup (mCons (mLit (.str (Str.ofString "in"))) (mCons (mLit (.str (Str.ofString "open"))) mNil)))))) (sSeq (sSet 1 (mIte (mTest (m2 (dE false) (m2 dIx (mVar 0) (mLit (.int 0))) (mLit (.str (Str.ofString "in"))))) (mTup mNil) (mTup (mCons (m2 dIx (mVar 0) (mLit (.int 1))) mNil))))
    (sRet (mTup (mCons (m2 dIx (mVar 0) (mLit (.int 0))) (mCons (m2 dIx (mVar 0) (mLit (.int 1))) (mCons (m2 dIx (mVar 0) (mLit (.int 1))) (mCons (mVar 1) mNil))))))) sNext)
    (sSeq (sIf (mAndT (mTest (m2 (dE false) (mBi dLen (mCons (mVar 0) mNil)) (mLit (.int 4)))) (mAndT (mTest (m2 (dE false) (m2 dIx (mVar 0) (mLit (.int 0))) (mLit (.str (Str.ofString "secret"))))) (mTest (m2 (dE false) (m2 dIx (mVar 0) (mLit (.int 2))) (mLit (.str (Str.ofString "from"))))))) (sRet (mTup (mCons (mLit (.str (Str.ofString "cell"))) (mCons (m2 dIx (mVar 0) (mLit (.int 1))) (mCons (mTup (mCons (m2 dIx (mVar 0) (mLit (.int 1))) (mCons (mLit .non) (mCons (m2 dIx (mVar 0) (mLit (.int 3))) mNil)))) (mCons (mTup mNil) mNil)))))) sNext)
    (sSeq (sIf (mAndT (mTest (m2 (dE false) (mBi dLen (mCons (mVar 0) mNil)) (mLit (.int 5)))) (mAndT (mTest (m2 (dE false) (m2 dIx (mVar 0) (mLit (.int 0))) (mLit (.str (Str.ofString "cell"))))) (mAndT (mTest (m2 (dIn false) (m2 dIx (mVar 0) (mLit (.int 2))) (mTup (mCons (mLit (.str (Str.ofString "0"))) (mCons (mLit (.str (Str.ofString "1"))) mNil))))) (mTest (m2 (dE false) (m2 dIx (mVar 0) (mLit (.int 3))) (mLit (.str (Str.ofString "from")))))))) (sRet (mTup (mCons (mLit (.str (Str.ofString "cell"))) (mCons (m2 dIx (mVar 0) (mLit (.int 1))) (mCons (mTup (mCons (m2 dIx (mVar 0) (mLit (.int 1))) (mCons (mBi dInt (mCons (m2 dIx (mVar 0) (mLit (.int 2))) mNil)) (mCons (m2 dIx (mVar 0) (mLit (.int 4))) mNil)))) (mCons (mTup mNil) mNil)))))) sNext)
    (sSeq (sSet 2 (mCall 1 f_gate_of (mCons (mVar 0) mNil) []))
    (sRet (mIte (mTest (m2 dIs (mVar 2) (mLit .non))) (mLit .non) (mTup (mCons (mLit (.str (Str.ofString "gate"))) (mCons (m2 dIx (mVar 2) (mLit (.int 0))) (mCons (mVar 2) (mCons (mCall 1 f_read_by (mCons (mVar 2) mNil) []) mNil))))))))))))
noncomputable def f__form_of : FM := runF 3 m__form_of
abbrev s_cut_lines : Stmt := topS 6
theorem sc_cut_lines : FnScope ["text", "lines"] ["text"] (defScope s_cut_lines) := ⟨rfl, rfl, rfl, by decide +kernel, rfl, by decide +kernel, by decide +kernel⟩
noncomputable def m_cut_lines : Sg → Mh → RS := (sSeq (sSet 1 (mMt "str" dSplit (mVar 0) (mCons (mLit (.str (Str.ofString "\n"))) mNil)))
    (sSeq (sIf (mTest (m2 (dE false) (m2 dIx (mVar 1) (m1 dNeg (mLit (.int 1)))) (mLit (.str (Str.ofString ""))))) (sRet (mTup (mCons (mSl (mVar 1) mNoP (mPart (m1 dNeg (mLit (.int 1))))) (mCons (mLit (.bl false)) mNil)))) sNext)
    (sRet (mTup (mCons (mVar 1) (mCons (mLit (.bl true)) mNil))))))
noncomputable def f_cut_lines : FM := runF 2 m_cut_lines
abbrev s__forms_in : Stmt := topS 23
theorem sc__forms_in : FnScope ["text", "lines", "lacks_end", "forms", "given", "at", "line", "form", "why"] ["text"] (defScope s__forms_in) := ⟨rfl, rfl, rfl, by decide +kernel, rfl, by decide +kernel, by decide +kernel⟩
noncomputable def m__forms_in : Sg → Mh → RS := (sSeq (sIf (mNotT (mTru (mBi dIsi1 (mCons (mVar 0) (mCons (mLit (.ty "str")) mNil))))) sBad sNext)
    (sSeq (sAsg (gTp 2 (gsCons (gNm 1) (gsCons (gNm 2) gsNil))) (mCall 1 f_cut_lines (mCons (mVar 0) mNil) []))
    (sSeq (sSet 3 (mLst mNil))
    (sSeq (sSet 4 mDNew)
    (sSeq (sFor (mEnum (mCons (mVar 1) mNil)) (gTp 2 (gsCons (gNm 5) (gsCons (gNm 6) gsNil))) (sSeq (sSet 7 (mCall 1 f__form_of (mCons (mMt "str" dSplit (mVar 6) (mCons (mLit (.str (Str.ofString " "))) mNil)) mNil) []))
    (sSeq (sIf (mOrT (mTest (m2 dIs (mVar 7) (mLit .non))) (mAndT (mTru (mVar 2)) (mTest (m2 (dE false) (mVar 5) (m2 dSub (mBi dLen (mCons (mVar 1) mNil)) (mLit (.int 1))))))) sBad sNext)
    (sSeq (sSet 8 (mCall 2 f__fault_of (mCons (mVar 7) (mCons (mVar 4) mNil)) []))
    (sSeq (sIf (mTest (m2 dIsNot (mVar 8) (mLit .non))) sBad sNext)
    (sSeq (sPut dPutD (mVar 4) (m2 dIx (mVar 7) (mLit (.int 1))) (mLit (.bl true)))
    (sExpr (mMt "list" dAppend (mVar 3) (mCons (mVar 7) mNil)))))))))
    (sSeq (sExpr (mCall 2 f__check_from_wires (mCons (mVar 3) (mCons (mVar 4) mNil)) []))
    (sRet (mVar 3))))))))
noncomputable def f__forms_in : FM := runF 9 m__forms_in
abbrev s__giver_of : Stmt := topS 25
theorem sc__giver_of : FnScope ["form"] ["form"] (defScope s__giver_of) := ⟨rfl, rfl, rfl, by decide +kernel, rfl, by decide +kernel, by decide +kernel⟩
noncomputable def m__giver_of : Sg → Mh → RS := (sRet (mIte (mTest (m2 (dE false) (m2 dIx (mVar 0) (mLit (.int 0))) (mLit (.str (Str.ofString "gate"))))) (m2 dIx (m2 dIx (mVar 0) (mLit (.int 2))) (mLit (.int 1))) (m2 dIx (mVar 0) (mLit (.int 0)))))
noncomputable def f__giver_of : FM := runF 1 m__giver_of
abbrev s__told_by : Stmt := topS 28
theorem sc__told_by : FnScope ["forms", "kind", "form"] ["forms", "kind"] (defScope s__told_by) := ⟨rfl, rfl, rfl, by decide +kernel, rfl, by decide +kernel, by decide +kernel⟩
noncomputable def m__told_by : Sg → Mh → RS := (sRet (mLc (mIter (mVar 0)) (gNm 2) (mTest (m2 (dE false) (m2 dIx (mVar 2) (mLit (.int 0))) (mVar 1))) (m2 dIx (mVar 2) (mLit (.int 2))) [2]))
noncomputable def f__told_by : FM := runF 3 m__told_by
abbrev s_Circuit___init__ : Stmt := inClass (topS 22) 0
theorem sc_Circuit___init__ : FnScope ["self", "text", "forms", "form"] ["self", "text"] (defScope s_Circuit___init__) := ⟨rfl, rfl, rfl, by decide +kernel, rfl, by decide +kernel, by decide +kernel⟩
noncomputable def m_Circuit___init__ : Sg → Mh → RS := (sSeq (sSet 2 (mCall 1 f__forms_in (mCons (mVar 1) mNil) []))
    (sSeq (sFldSt "Circuit" "_text" (mVar 0) (mVar 1))
    (sSeq (sFldSt "Circuit" "_cells" (mVar 0) (mCall 2 f__told_by (mCons (mVar 2) (mCons (mLit (.str (Str.ofString "cell"))) mNil)) []))
    (sSeq (sFldSt "Circuit" "_ins" (mVar 0) (mCall 2 f__told_by (mCons (mVar 2) (mCons (mLit (.str (Str.ofString "in"))) mNil)) []))
    (sSeq (sFldSt "Circuit" "_gates" (mVar 0) (mCall 2 f__told_by (mCons (mVar 2) (mCons (mLit (.str (Str.ofString "gate"))) mNil)) []))
    (sSeq (sFldSt "Circuit" "_opens" (mVar 0) (mCall 2 f__told_by (mCons (mVar 2) (mCons (mLit (.str (Str.ofString "open"))) mNil)) []))
    (sSeq (sFldSt "Circuit" "_kinds" (mVar 0) (mDc (mIter (mVar 2)) (gNm 3) (mTest (m2 (dE true) (m2 dIx (mVar 3) (mLit (.int 0))) (mLit (.str (Str.ofString "open"))))) (m2 dIx (mVar 3) (mLit (.int 1))) (mCall 1 f__giver_of (mCons (mVar 3) mNil) []) [3]))
    (sSeq (sExpr (mCall 3 f__check_many (mCons (mLit (.str (Str.ofString "cells"))) (mCons (mBi dLen (mCons (m1 (dFld "Circuit" "_cells") (mVar 0)) mNil)) (mCons (mLit c_MOST_CELLS) mNil))) []))
    (sSeq (sExpr (mCall 3 f__check_many (mCons (mLit (.str (Str.ofString "ins"))) (mCons (mBi dLen (mCons (m1 (dFld "Circuit" "_ins") (mVar 0)) mNil)) (mCons (mLit c_MOST_INS) mNil))) []))
    (sSeq (sExpr (mCall 3 f__check_many (mCons (mLit (.str (Str.ofString "gates"))) (mCons (mBi dLen (mCons (m1 (dFld "Circuit" "_gates") (mVar 0)) mNil)) (mCons (mLit c_MOST_GATES) mNil))) []))
    (sExpr (mCall 3 f__check_many (mCons (mLit (.str (Str.ofString "opens"))) (mCons (mBi dLen (mCons (m1 (dFld "Circuit" "_opens") (mVar 0)) mNil)) (mCons (mLit c_MOST_OPENS) mNil))) []))))))))))))
noncomputable def f_Circuit___init__ : FM := runF 4 m_Circuit___init__
abbrev s__law_bag : Stmt := topS 31
theorem sc__law_bag : FnScope ["script", "mix", "cell"] ["script"] (defScope s__law_bag) := ⟨rfl, rfl, rfl, by decide +kernel, rfl, by decide +kernel, by decide +kernel⟩
noncomputable def m__law_bag : Sg → Mh → RS := (sSeq (sSet 1 (mLit (.int 13972)))
    (sSeq (sFor (mIter (mSl (mVar 0) mNoP (mPart (mLit (.int 63))))) (gNm 2) (sSet 1 (m2 dMod (mBi dInt (mCons (m2 dAdd (m2 dAdd (m2 dMul (mVar 1) (mLit (.int 40013))) (m2 dMod (mBi dInt (mCons (mVar 2) mNil)) (mLit (.int 2147483587)))) (mLit (.int 23))) mNil)) (mLit (.int 2147483629)))))
    (sRet (mLst (mCons (mBi dList (mCons (mSl (mVar 0) mNoP (mPart (mLit (.int 63)))) mNil)) (mCons (mLit (.int 0)) (mCons (mLit (.int 0)) (mCons (mVar 1) (mCons (mLit (.int 0)) mNil)))))))))
noncomputable def f__law_bag : FM := runF 3 m__law_bag
abbrev s__law_draw : Stmt := topS 32
theorem sc__law_draw : FnScope ["bag", "size", "cell", "digit", "seed"] ["bag", "size"] (defScope s__law_draw) := ⟨rfl, rfl, rfl, by decide +kernel, rfl, by decide +kernel, by decide +kernel⟩
noncomputable def m__law_draw : Sg → Mh → RS := (sSeq (sPut dPutL (mVar 0) (mLit (.int 4)) (m2 dAdd (m2 dIx (mVar 0) (mLit (.int 4))) (mLit (.int 1))))
    (sSeq (sIf (mAndT (mTest (m2 (dE false) (m2 dIx (mVar 0) (mLit (.int 2))) (mLit (.int 0)))) (mTest (m2 dLt (m2 dIx (mVar 0) (mLit (.int 1))) (mBi dLen (mCons (m2 dIx (mVar 0) (mLit (.int 0))) mNil))))) (sSeq (sSet 2 (m2 dIx (m2 dIx (mVar 0) (mLit (.int 0))) (m2 dIx (mVar 0) (mLit (.int 1)))))
    (sSeq (sPut dPutL (mVar 0) (mLit (.int 1)) (m2 dAdd (m2 dIx (mVar 0) (mLit (.int 1))) (mLit (.int 1))))
    (sIf (mTest (m2 dGe (mVar 2) (m2 dPow (mLit (.int 10)) (mLit (.int 18))))) (sPut dPutL (mVar 0) (mLit (.int 2)) (mVar 2)) (sPut dPutL (mVar 0) (mLit (.int 3)) (m2 dMod (mBi dInt (mCons (m2 dAdd (m2 dAdd (m2 dMul (m2 dIx (mVar 0) (mLit (.int 3))) (mLit (.int 39451))) (m2 dMul (m2 dMod (mBi dInt (mCons (mVar 2) mNil)) (mLit (.int 2147483543))) (mLit (.int 10009)))) (mLit (.int 31))) mNil)) (mLit (.int 2147483629))))))) sNext)
    (sSeq (sIf (mTest (m2 dGt (m2 dIx (mVar 0) (mLit (.int 2))) (mLit (.int 0)))) (sSeq (sSet 3 (m2 dMod (mBi dInt (mCons (m2 dIx (mVar 0) (mLit (.int 2))) mNil)) (mVar 1)))
    (sSeq (sPut dPutL (mVar 0) (mLit (.int 2)) (m2 dFdiv (m2 dIx (mVar 0) (mLit (.int 2))) (mVar 1)))
    (sRet (mVar 3)))) sNext)
    (sSeq (sSet 4 (mBi dInt (mCons (m2 dIx (mVar 0) (mLit (.int 3))) mNil)))
    (sSeq (sPut dPutL (mVar 0) (mLit (.int 3)) (m2 dMod (mBi dInt (mCons (m2 dAdd (m2 dAdd (m2 dAdd (m2 dPow (mVar 4) (mLit (.int 3))) (m2 dMul (mVar 4) (mLit (.int 28843)))) (m2 dMul (m2 dIx (mVar 0) (mLit (.int 4))) (mLit (.int 1299689)))) (mLit (.int 60013))) mNil)) (mLit (.int 2147483629))))
    (sRet (m2 dMod (mBi dInt (mCons (m2 dAdd (m2 dFdiv (m2 dIx (mVar 0) (mLit (.int 3))) (mLit (.int 71))) (m2 dMul (m2 dMod (mBi dInt (mCons (m2 dIx (mVar 0) (mLit (.int 3))) mNil)) (mLit (.int 7907))) (mLit (.int 61)))) mNil)) (mVar 1))))))))
noncomputable def f__law_draw : FM := runF 5 m__law_draw
abbrev s__law_of : Stmt := topS 33
theorem sc__law_of : FnScope ["bag", "things"] ["bag", "things"] (defScope s__law_of) := ⟨rfl, rfl, rfl, by decide +kernel, rfl, by decide +kernel, by decide +kernel⟩
noncomputable def m__law_of : Sg → Mh → RS := (sRet (m2 dIx (mVar 1) (mCall 2 f__law_draw (mCons (mVar 0) (mCons (mBi dLen (mCons (mVar 1) mNil)) mNil)) [])))
noncomputable def f__law_of : FM := runF 2 m__law_of
abbrev s__law_changed : Stmt := topS 43
theorem sc__law_changed : FnScope ["bag", "lines", "spot", "found", "one", "known", "ahead", "line_z"] ["bag", "lines"] (defScope s__law_changed) := ⟨rfl, rfl, rfl, by decide +kernel, rfl, by decide +kernel, by decide +kernel⟩
noncomputable def m__law_changed : Sg → Mh → RS := (sSeq (sPar 2 3 (mCons (mCall 2 f__law_draw (mCons (mVar 0) (mCons (mBi dLen (mCons (mVar 1) mNil)) mNil)) []) (mCons (mBi dList (mCons (mVar 1) mNil)) mNil)))
    (sSeq (sPar 4 5 (mCons (m2 dIx (mVar 1) (mVar 2)) (mCons (mLc (mIter (mVar 1)) (gNm 7) (mTest (m2 (dE true) (m2 dIx (mVar 7) (mLit (.int 0))) (mLit (.str (Str.ofString "open"))))) (m2 dIx (mVar 7) (mLit (.int 1))) [7]) mNil)))
    (sSeq (sSet 6 (mLc (mIter (mSl (mVar 1) mNoP (mPart (mVar 2)))) (gNm 7) (mTest (m2 (dE true) (m2 dIx (mVar 7) (mLit (.int 0))) (mLit (.str (Str.ofString "open"))))) (m2 dIx (mVar 7) (mLit (.int 1))) [7]))
    (sSeq (sIf (mAndT (mTest (m2 (dE false) (m2 dIx (mVar 4) (mLit (.int 0))) (mLit (.str (Str.ofString "cell"))))) (mTest (m2 (dE false) (mCall 2 f__law_draw (mCons (mVar 0) (mCons (mLit (.int 2)) mNil)) []) (mLit (.int 0))))) (sPut dPutL (mVar 3) (mVar 2) (mTup (mCons (mLit (.str (Str.ofString "cell"))) (mCons (m2 dIx (mVar 4) (mLit (.int 1))) (mCons (m2 dSub (mLit (.int 1)) (m2 dIx (mVar 4) (mLit (.int 2)))) (mCons (m2 dIx (mVar 4) (mLit (.int 3))) mNil)))))) (sIf (mTest (m2 (dIn false) (m2 dIx (mVar 4) (mLit (.int 0))) (mTup (mCons (mLit (.str (Str.ofString "cell"))) (mCons (mLit (.str (Str.ofString "secret"))) mNil))))) (sPut dPutL (mVar 3) (mVar 2) (m2 dAdd (mSl (mVar 4) mNoP (mPart (m1 dNeg (mLit (.int 1))))) (mTup (mCons (mCall 2 f__law_of (mCons (mVar 0) (mCons (mVar 5) mNil)) []) mNil)))) (sIf (mTest (m2 (dE false) (m2 dIx (mVar 4) (mLit (.int 0))) (mLit (.str (Str.ofString "open"))))) (sPut dPutL (mVar 3) (mVar 2) (mTup (mCons (mLit (.str (Str.ofString "open"))) (mCons (mCall 2 f__law_of (mCons (mVar 0) (mCons (mVar 6) mNil)) []) mNil)))) (sIf (mAndT (mTest (m2 (dE false) (m2 dIx (mVar 4) (mLit (.int 0))) (mLit (.str (Str.ofString "gate"))))) (mTest (m2 (dE true) (m2 dIx (mVar 4) (mLit (.int 2))) (mLit (.str (Str.ofString "not")))))) (sPut dPutL (mVar 3) (mVar 2) (mTup (mCons (mLit (.str (Str.ofString "gate"))) (mCons (m2 dIx (mVar 4) (mLit (.int 1))) (mCons (mCall 2 f__law_of (mCons (mVar 0) (mCons (mLst (mCons (mLit (.str (Str.ofString "and"))) (mCons (mLit (.str (Str.ofString "xor"))) mNil))) mNil)) []) (mCons (mCall 2 f__law_of (mCons (mVar 0) (mCons (mVar 6) mNil)) []) (mCons (mCall 2 f__law_of (mCons (mVar 0) (mCons (mVar 6) mNil)) []) mNil))))))) (sSet 3 (mIte (mTest (m2 (dE false) (mLc (mIter (mVar 1)) (gNm 7) (mTest (m2 (dE false) (m2 dIx (mVar 7) (mLit (.int 0))) (mLit (.str (Str.ofString "open"))))) (mVar 7) [7]) (mLst mNil))) (m2 dAdd (mVar 3) (mLst (mCons (mTup (mCons (mLit (.str (Str.ofString "open"))) (mCons (m2 dIx (mVar 4) (mLit (.int 1))) mNil))) mNil))) (m2 dAdd (mVar 3) (mLst (mCons (mTup (mCons (mLit (.str (Str.ofString "secret"))) (mCons (mLit (.str (Str.ofString "v9v9v9v9"))) (mCons (m2 dIx (mVar 4) (mLit (.int 1))) mNil)))) mNil)))))))))
    (sRet (mVar 3))))))
noncomputable def f__law_changed : FM := runF 8 m__law_changed
abbrev s__law_grown : Stmt := topS 38
theorem sc__law_grown : FnScope ["bag", "heads", "names", "found", "known", "k", "head", "kind", "a", "one"] ["bag", "heads", "names"] (defScope s__law_grown) := ⟨rfl, rfl, rfl, by decide +kernel, rfl, by decide +kernel, by decide +kernel⟩
noncomputable def m__law_grown : Sg → Mh → RS := (sSeq (sAsg (gTp 3 (gsCons (gNm 3) (gsCons (gNm 4) (gsCons (gNm 1) gsNil)))) (mTup (mCons (mLst mNil) (mCons (mLst mNil) (mCons (mBi dList (mCons (mVar 1) mNil)) mNil)))))
    (sSeq (sFor (mRange1 (mBi dLen (mCons (mVar 1) mNil))) (gNm 5) (sSeq (sSet 6 (mMt "list" dPopAt (mVar 1) (mCons (mCall 2 f__law_draw (mCons (mVar 0) (mCons (mBi dLen (mCons (mVar 1) mNil)) mNil)) []) mNil)))
    (sSeq (sIf (mAndT (mTest (m2 (dE false) (mVar 6) (mLit (.str (Str.ofString "open"))))) (mTest (m2 (dE true) (mVar 4) (mLst mNil)))) (sExpr (mMt "list" dAppend (mVar 3) (mCons (mTup (mCons (mLit (.str (Str.ofString "open"))) (mCons (mCall 2 f__law_of (mCons (mVar 0) (mCons (mVar 4) mNil)) []) mNil))) mNil))) sNext)
    (sSeq (sIf (mAndT (mTest (m2 (dE false) (mVar 6) (mLit (.str (Str.ofString "gate"))))) (mTest (m2 (dE true) (mVar 4) (mLst mNil)))) (sSeq (sPar 7 8 (mCons (mCall 2 f__law_of (mCons (mVar 0) (mCons (mLst (mCons (mLit (.str (Str.ofString "and"))) (mCons (mLit (.str (Str.ofString "xor"))) (mCons (mLit (.str (Str.ofString "not"))) (mCons (mLit (.str (Str.ofString "and"))) mNil))))) mNil)) []) (mCons (mCall 2 f__law_of (mCons (mVar 0) (mCons (mVar 4) mNil)) []) mNil)))
    (sSeq (sExpr (mMt "list" dAppend (mVar 3) (mCons (mTup (mCons (mLit (.str (Str.ofString "gate"))) (mCons (m2 dIx (mVar 2) (mVar 5)) (mCons (mVar 7) (mCons (mVar 8) (mCons (mIte (mTest (m2 (dE false) (mVar 7) (mLit (.str (Str.ofString "not"))))) (mLit .non) (mCall 2 f__law_of (mCons (mVar 0) (mCons (mVar 4) mNil)) [])) mNil)))))) mNil)))
    (sSet 4 (m2 dAdd (mVar 4) (mLst (mCons (m2 dIx (mVar 2) (mVar 5)) mNil)))))) sNext)
    (sIf (mTest (m2 (dIn false) (mVar 6) (mTup (mCons (mLit (.str (Str.ofString "secret"))) (mCons (mLit (.str (Str.ofString "cell"))) (mCons (mLit (.str (Str.ofString "in"))) mNil)))))) (sSeq (sExpr (mMt "list" dAppend (mVar 3) (mCons (mIte (mTest (m2 (dE false) (mVar 6) (mLit (.str (Str.ofString "cell"))))) (mTup (mCons (mLit (.str (Str.ofString "cell"))) (mCons (m2 dIx (mVar 2) (mVar 5)) (mCons (mCall 2 f__law_draw (mCons (mVar 0) (mCons (mLit (.int 2)) mNil)) []) (mCons (mLit (.str (Str.ofString ""))) mNil))))) (mIte (mTest (m2 (dE false) (mVar 6) (mLit (.str (Str.ofString "secret"))))) (mTup (mCons (mLit (.str (Str.ofString "secret"))) (mCons (m2 dIx (mVar 2) (mVar 5)) (mCons (mLit (.str (Str.ofString ""))) mNil)))) (mTup (mCons (mLit (.str (Str.ofString "in"))) (mCons (m2 dIx (mVar 2) (mVar 5)) mNil))))) mNil)))
    (sSet 4 (m2 dAdd (mVar 4) (mLst (mCons (m2 dIx (mVar 2) (mVar 5)) mNil))))) sNext)))))
    (sRet (mLc (mIter (mVar 3)) (gNm 9) mYes (mIte (mTest (m2 (dIn false) (m2 dIx (mVar 9) (mLit (.int 0))) (mTup (mCons (mLit (.str (Str.ofString "secret"))) (mCons (mLit (.str (Str.ofString "cell"))) mNil))))) (m2 dAdd (mSl (mVar 9) mNoP (mPart (m1 dNeg (mLit (.int 1))))) (mTup (mCons (mCall 2 f__law_of (mCons (mVar 0) (mCons (mVar 4) mNil)) []) mNil))) (mVar 9)) [9]))))
noncomputable def f__law_grown : FM := runF 10 m__law_grown
abbrev s_Circuit___contains__ : Stmt := inClass (topS 22) 2
theorem sc_Circuit___contains__ : FnScope ["self", "value"] ["self", "value"] (defScope s_Circuit___contains__) := ⟨rfl, rfl, rfl, by decide +kernel, rfl, by decide +kernel, by decide +kernel⟩
noncomputable def m_Circuit___contains__ : Sg → Mh → RS := (sRet (mAnd (mBi dIsi1 (mCons (mVar 1) (mCons (mLit (.ty "str")) mNil))) (m2 (dDIn false) (mVar 1) (m1 (dFld "Circuit" "_kinds") (mVar 0)))))
noncomputable def f_Circuit___contains__ : FM := runF 2 m_Circuit___contains__
abbrev s__law_like : Stmt := topS 34
theorem sc__law_like : FnScope ["found", "due", "key", "one", "two"] ["found", "due"] (defScope s__law_like) := ⟨rfl, rfl, rfl, by decide +kernel, rfl, by decide +kernel, by decide +kernel⟩
noncomputable def m__law_like (rec : FM) : Sg → Mh → RS := (sSeq (sIf (mOrT (mTest (m2 dIs (mVar 1) (mLit .non))) (mTest (m2 dIs (mVar 0) (mLit .non)))) (sRet (mAnd (m2 dIs (mVar 1) (mLit .non)) (m2 dIs (mVar 0) (mLit .non)))) sNext)
    (sSeq (sIf (mOrT (mTru (mBi dIsi1 (mCons (mVar 1) (mCons (mLit (.ty "dict")) mNil)))) (mTru (mBi dIsi1 (mCons (mVar 0) (mCons (mLit (.ty "dict")) mNil))))) (sSeq (sIf (mOrT (mNotT (mTru (mBi dIsi1 (mCons (mVar 1) (mCons (mLit (.ty "dict")) mNil))))) (mOrT (mNotT (mTru (mBi dIsi1 (mCons (mVar 0) (mCons (mLit (.ty "dict")) mNil))))) (mTest (m2 (dE true) (mBi dLen (mCons (mVar 0) mNil)) (mBi dLen (mCons (mVar 1) mNil)))))) (sRet (mLit (.bl false))) sNext)
    sBad) sNext)
    (sSeq (sIf (mTru (m1 (dIsi2 "list" "tuple") (mVar 1))) (sSeq (sIf (mOrT (mTest (m2 (dE true) (mBi dIsi1 (mCons (mVar 0) (mCons (mLit (.ty "list")) mNil))) (mBi dIsi1 (mCons (mVar 1) (mCons (mLit (.ty "list")) mNil))))) (mTest (m2 (dE true) (mBi dIsi1 (mCons (mVar 0) (mCons (mLit (.ty "tuple")) mNil))) (mBi dIsi1 (mCons (mVar 1) (mCons (mLit (.ty "tuple")) mNil)))))) (sRet (mLit (.bl false))) sNext)
    (sRet (mAnd (m2 (dE false) (mBi dLen (mCons (mVar 0) mNil)) (mBi dLen (mCons (mVar 1) mNil))) (mBi (dAll fun bs => bs.all id) (mCons (mLc (mZip (mCons (mVar 0) (mCons (mVar 1) mNil))) (gTp 2 (gsCons (gNm 3) (gsCons (gNm 4) gsNil))) mYes (mCall 2 rec (mCons (mVar 3) (mCons (mVar 4) mNil)) []) [3, 4]) mNil))))) sNext)
    (sSeq (sIf (mOrT (mTru (m1 (dIsi2 "list" "tuple") (mVar 0))) (mTest (m2 (dE true) (mBi dIsi1 (mCons (mVar 0) (mCons (mLit (.ty "bool")) mNil))) (mBi dIsi1 (mCons (mVar 1) (mCons (mLit (.ty "bool")) mNil)))))) (sRet (mLit (.bl false))) sNext)
    (sSeq (sIf (mOrT (mTest (m2 (dE true) (mBi dIsi1 (mCons (mVar 0) (mCons (mLit (.ty "str")) mNil))) (mBi dIsi1 (mCons (mVar 1) (mCons (mLit (.ty "str")) mNil))))) (mTest (m2 (dE true) (mBi dIsi1 (mCons (mVar 0) (mCons (mLit (.ty "int")) mNil))) (mBi dIsi1 (mCons (mVar 1) (mCons (mLit (.ty "int")) mNil)))))) (sRet (mLit (.bl false))) sNext)
    (sRet (m2 (dE false) (mVar 0) (mVar 1))))))))
noncomputable def f__law_like : Nat → FM
  | 0 => fun _ _ => .bad
  | k + 1 => runF 5 (m__law_like (f__law_like k))
abbrev s__law_barred : Stmt := topS 35
theorem sc__law_barred : FnScope [] [] (defScope s__law_barred) := ⟨rfl, rfl, rfl, by decide +kernel, rfl, by decide +kernel, by decide +kernel⟩
noncomputable def m__law_barred : Sg → Mh → RS := (sRet (mLst (mCons (mLit (.str (Str.ofString "and"))) (mCons (mLit (.str (Str.ofString "cell"))) (mCons (mLit (.str (Str.ofString "coin"))) (mCons (mLit (.str (Str.ofString "from"))) (mCons (mLit (.str (Str.ofString "in"))) (mCons (mLit (.str (Str.ofString "not"))) (mCons (mLit (.str (Str.ofString "open"))) (mCons (mLit (.str (Str.ofString "out"))) (mCons (mLit (.str (Str.ofString "piece"))) (mCons (mLit (.str (Str.ofString "secret"))) (mCons (mLit (.str (Str.ofString "xor"))) mNil)))))))))))))
noncomputable def f__law_barred : FM := runF 0 m__law_barred
abbrev s__law_is_wire : Stmt := topS 36
theorem sc__law_is_wire : FnScope ["piece", "sign"] ["piece"] (defScope s__law_is_wire) := ⟨rfl, rfl, rfl, by decide +kernel, rfl, by decide +kernel, by decide +kernel⟩
noncomputable def m__law_is_wire : Sg → Mh → RS := (sSeq (sIf (mOrT (mNotT (mTest (mChain dLe dLe (mLit (.int 1)) (mBi dLen (mCons (mVar 0) mNil)) (mLit (.int 8))))) (mOrT (mTest (m2 (dIn false) (mVar 0) (mCall 0 f__law_barred mNil []))) (mTest (m2 (dIn true) (m2 dIx (mVar 0) (mLit (.int 0))) (mLit (.str (Str.ofString "abcdefghijklmnopqrstuvwxyz"))))))) (sRet (mLit (.bl false))) sNext)
    (sRet (m2 (dE false) (mLc (mIter (mVar 0)) (gNm 1) (mTest (m2 (dIn true) (mVar 1) (mLit (.str (Str.ofString "abcdefghijklmnopqrstuvwxyz0123456789"))))) (mVar 1) [1]) (mLst mNil))))
noncomputable def f__law_is_wire : FM := runF 2 m__law_is_wire
abbrev s__law_wire_names : Stmt := topS 37
theorem sc__law_wire_names : FnScope ["bag", "many", "stem", "cut", "pool", "letter", "one", "k"] ["bag", "many"] (defScope s__law_wire_names) := ⟨rfl, rfl, rfl, by decide +kernel, rfl, by decide +kernel, by decide +kernel⟩
noncomputable def m__law_wire_names : Sg → Mh → RS := (sSeq (sSet 2 (mCall 2 f__law_of (mCons (mVar 0) (mCons (mLst (mCons (mLit (.str (Str.ofString ""))) (mCons (mLit (.str (Str.ofString ""))) (mCons (mLit (.str (Str.ofString "a"))) (mCons (mLit (.str (Str.ofString "no"))) (mCons (mLit (.str (Str.ofString "i"))) (mCons (mLit (.str (Str.ofString "self"))) (mCons (mLit (.str (Str.ofString "t1"))) (mCons (mLit (.str (Str.ofString "xo"))) (mCons (mLit (.str (Str.ofString "part"))) (mCons (mLit (.str (Str.ofString "rows"))) (mCons (mLit (.str (Str.ofString "*"))) mNil)))))))))))) mNil)) []))
    (sSeq (sIf (mTest (m2 (dE false) (mVar 2) (mLit (.str (Str.ofString "*"))))) (sSet 2 (mMt "str" dJoin (mLit (.str (Str.ofString ""))) (mCons (mLc (mRange1 (m2 dAdd (mLit (.int 1)) (mCall 2 f__law_draw (mCons (mVar 0) (mCons (mLit (.int 6)) mNil)) []))) (gNm 7) mYes (mCall 2 f__law_of (mCons (mVar 0) (mCons (mLit (.str (Str.ofString "abcdefghijklmnopqrstuvwxyz0123456789"))) mNil)) []) [7]) mNil))) sNext)
    (sSeq (sAsg (gTp 2 (gsCons (gNm 3) (gsCons (gNm 4) gsNil))) (mTup (mCons (mCall 2 f__law_draw (mCons (mVar 0) (mCons (m2 dAdd (mBi dLen (mCons (mVar 2) mNil)) (mLit (.int 1))) mNil)) []) (mCons (mLst (mCons (mLit (.str (Str.ofString "a"))) (mCons (mLit (.str (Str.ofString "self"))) (mCons (mLit (.str (Str.ofString "if"))) (mCons (mLit (.str (Str.ofString "t0"))) (mCons (mLit (.str (Str.ofString "ins"))) (mCons (mLit (.str (Str.ofString "zzzzzzzz"))) (mCons (mLit (.str (Str.ofString "word"))) (mCons (mLit (.str (Str.ofString "gate"))) (mCons (mLit (.str (Str.ofString "nota"))) mNil)))))))))) mNil))))
    (sSeq (sFor (mIter (mLit (.str (Str.ofString "abcdefghijklmnopqrstuvwxyz0123456789")))) (gNm 5) (sSeq (sSet 6 (m2 dAdd (m2 dAdd (mSl (mVar 2) mNoP (mPart (mVar 3))) (mVar 5)) (mSl (mVar 2) (mPart (mVar 3)) mNoP)))
    (sIf (mAndT (mTru (mCall 1 f__law_is_wire (mCons (mVar 6) mNil) [])) (mTest (m2 (dIn true) (mVar 6) (mVar 4)))) (sExpr (mMt "list" dAppend (mVar 4) (mCons (mVar 6) mNil))) sNext)))
    (sSeq (sFor (mRange1 (mLit (.int 40))) (gNm 7) (sIf (mAndT (mTest (m2 dLt (mBi dLen (mCons (mVar 4) mNil)) (mLit (.int 45)))) (mTest (m2 (dIn true) (m2 dAdd (mLit (.str (Str.ofString "w"))) (mBi dStr (mCons (mVar 7) mNil))) (mVar 4)))) (sExpr (mMt "list" dAppend (mVar 4) (mCons (m2 dAdd (mLit (.str (Str.ofString "w"))) (mBi dStr (mCons (mVar 7) mNil))) mNil))) sNext))
    (sRet (mLc (mRange1 (mVar 1)) (gNm 7) mYes (mMt "list" dPopAt (mVar 4) (mCons (mCall 2 f__law_draw (mCons (mVar 0) (mCons (mBi dLen (mCons (mVar 4) mNil)) mNil)) []) mNil)) [7])))))))
noncomputable def f__law_wire_names : FM := runF 8 m__law_wire_names
abbrev s__law_in_so : Stmt := topS 41
theorem sc__law_in_so : FnScope ["bag", "made", "lines", "known", "drawn", "some", "one", "thing", "due"] ["bag", "made", "lines"] (defScope s__law_in_so) := ⟨rfl, rfl, rfl, by decide +kernel, rfl, by decide +kernel, by decide +kernel⟩
noncomputable def m__law_in_so : Sg → Mh → RS := (sSeq (sSet 3 (mLc (mIter (mVar 2)) (gNm 6) (mTest (m2 (dE true) (m2 dIx (mVar 6) (mLit (.int 0))) (mLit (.str (Str.ofString "open"))))) (m2 dIx (mVar 6) (mLit (.int 1))) [6]))
    (sSeq (sSet 4 (mCall 2 f__law_wire_names (mCons (mVar 0) (mCons (mLit (.int 2)) mNil)) []))
    (sSeq (sSet 5 (m2 dAdd (mVar 4) (mLst (mCons (mLit .non) (mCons (mLit (.bl true)) (mCons (mLit (.int 0)) (mCons (mLit (.int 1)) (mCons (mLit (.str (Str.ofString ""))) (mCons (mLit (.str (Str.ofString "x0y0z0w0v"))) (mCons (mLit (.str (Str.ofString "and"))) (mCons (mTup mNil) (mCons (mLst mNil) (mCons (mLst (mCons (mLit (.str (Str.ofString "a"))) mNil)) (mCons (mTup (mCons (mLit (.str (Str.ofString "a"))) mNil)) (mCons mDNew (mCons (mDisp (mPCons (mLit (.str (Str.ofString "a"))) (mLit (.int 1)) mPNil)) mNil))))))))))))))))
    (sSeq (sIf (mTest (m2 (dE true) (mVar 3) (mLst mNil))) (sSeq (sSet 6 (mCall 2 f__law_of (mCons (mVar 0) (mCons (mVar 3) mNil)) []))
    (sSet 5 (m2 dAdd (mVar 5) (mLst (mCons (mLst (mCons (mVar 6) mNil)) (mCons (mTup (mCons (mVar 6) mNil)) (mCons (m2 dAdd (mVar 6) (mLit (.str (Str.ofString " ")))) (mCons (m2 dAdd (mVar 6) (mLit (.str (Str.ofString "\n")))) (mCons (mSl (mVar 6) mNoP (mPart (m1 dNeg (mLit (.int 1))))) (mCons (m2 dAdd (mVar 6) (mVar 6)) (mCons (mMt "str" dUpper (mVar 6) mNil) (mCons (mDisp (mPCons (mVar 6) (mVar 6) mPNil)) mNil)))))))))))) sNext)
    (sSeq (sFor (mIter (mVar 5)) (gNm 7) (sSeq (sSet 8 (mAnd (mBi dIsi1 (mCons (mVar 7) (mCons (mLit (.ty "str")) mNil))) (m2 (dIn false) (mVar 7) (mVar 3))))
    (sIf (mNotT (mTru (mCall 2 (f__law_like 8) (mCons (mLst (mCons (m2 (dInO "Circuit" false f_Circuit___contains__) (mVar 7) (mVar 1)) (mCons (m2 (dInO "Circuit" true f_Circuit___contains__) (mVar 7) (mVar 1)) mNil))) (mCons (mLst (mCons (mVar 8) (mCons (mNot (mVar 8)) mNil))) mNil)) []))) (sRet (mLit (.bl false))) sNext)))
    (sRet (mLit (.bl true))))))))
noncomputable def f__law_in_so : FM := runF 9 m__law_in_so
abbrev s__law_other_order : Stmt := topS 42
theorem sc__law_other_order : FnScope ["bag", "lines", "left", "found", "known", "k", "free", "one", "spot"] ["bag", "lines"] (defScope s__law_other_order) := ⟨rfl, rfl, rfl, by decide +kernel, rfl, by decide +kernel, by decide +kernel⟩
noncomputable def m__law_other_order : Sg → Mh → RS := (sSeq (sAsg (gTp 3 (gsCons (gNm 2) (gsCons (gNm 3) (gsCons (gNm 4) gsNil)))) (mTup (mCons (mBi dList (mCons (mVar 1) mNil)) (mCons (mLst mNil) (mCons (mLst mNil) mNil)))))
    (sSeq (sFor (mRange1 (mBi dLen (mCons (mVar 1) mNil))) (gNm 5) (sSeq (sSet 6 (mLc (mIter (mVar 2)) (gNm 7) (mOrT (mTest (m2 (dIn false) (m2 dIx (mVar 7) (mLit (.int 0))) (mTup (mCons (mLit (.str (Str.ofString "cell"))) (mCons (mLit (.str (Str.ofString "secret"))) (mCons (mLit (.str (Str.ofString "in"))) mNil)))))) (mOrT (mAndT (mTest (m2 (dE false) (m2 dIx (mVar 7) (mLit (.int 0))) (mLit (.str (Str.ofString "open"))))) (mTest (m2 (dIn false) (m2 dIx (mVar 7) (mLit (.int 1))) (mVar 4)))) (mAndT (mTest (m2 (dE false) (m2 dIx (mVar 7) (mLit (.int 0))) (mLit (.str (Str.ofString "gate"))))) (mAndT (mTest (m2 (dIn false) (m2 dIx (mVar 7) (mLit (.int 3))) (mVar 4))) (mOrT (mTest (m2 dIs (m2 dIx (mVar 7) (mLit (.int 4))) (mLit .non))) (mTest (m2 (dIn false) (m2 dIx (mVar 7) (mLit (.int 4))) (mVar 4)))))))) (mVar 7) [7]))
    (sSeq (sSet 7 (mCall 2 f__law_of (mCons (mVar 0) (mCons (mVar 6) mNil)) []))
    (sSeq (sSet 8 (mMt "list" dIndex (mVar 2) (mCons (mVar 7) mNil)))
    (sSeq (sSet 2 (m2 dAdd (mSl (mVar 2) mNoP (mPart (mVar 8))) (mSl (mVar 2) (mPart (m2 dAdd (mVar 8) (mLit (.int 1)))) mNoP)))
    (sSeq (sExpr (mMt "list" dAppend (mVar 3) (mCons (mVar 7) mNil)))
    (sSet 4 (m2 dAdd (mVar 4) (mIte (mTest (m2 (dE true) (m2 dIx (mVar 7) (mLit (.int 0))) (mLit (.str (Str.ofString "open"))))) (mLst (mCons (m2 dIx (mVar 7) (mLit (.int 1))) mNil)) (mLst mNil))))))))))
    (sRet (mVar 3))))
noncomputable def f__law_other_order : FM := runF 9 m__law_other_order
abbrev s__law_wire_line : Stmt := topS 39
theorem sc__law_wire_line : FnScope ["one"] ["one"] (defScope s__law_wire_line) := ⟨rfl, rfl, rfl, by decide +kernel, rfl, by decide +kernel, by decide +kernel⟩
noncomputable def m__law_wire_line : Sg → Mh → RS := (sSeq (sIf (mTest (m2 (dE false) (m2 dIx (mVar 0) (mLit (.int 0))) (mLit (.str (Str.ofString "secret"))))) (sRet (m2 dAdd (m2 dAdd (m2 dAdd (mLit (.str (Str.ofString "secret "))) (m2 dIx (mVar 0) (mLit (.int 1)))) (mLit (.str (Str.ofString " from ")))) (m2 dIx (mVar 0) (mLit (.int 2))))) sNext)
    (sSeq (sIf (mTest (m2 (dE false) (m2 dIx (mVar 0) (mLit (.int 0))) (mLit (.str (Str.ofString "cell"))))) (sRet (m2 dAdd (m2 dAdd (m2 dAdd (m2 dAdd (m2 dAdd (mLit (.str (Str.ofString "cell "))) (m2 dIx (mVar 0) (mLit (.int 1)))) (mLit (.str (Str.ofString " ")))) (mBi dStr (mCons (m2 dIx (mVar 0) (mLit (.int 2))) mNil))) (mLit (.str (Str.ofString " from ")))) (m2 dIx (mVar 0) (mLit (.int 3))))) sNext)
    (sSeq (sIf (mTest (m2 (dE false) (m2 dIx (mVar 0) (mLit (.int 0))) (mLit (.str (Str.ofString "gate"))))) (sRet (m2 dAdd (m2 dIx (mVar 0) (mLit (.int 1))) (mIte (mTest (m2 (dE false) (m2 dIx (mVar 0) (mLit (.int 2))) (mLit (.str (Str.ofString "not"))))) (m2 dAdd (mLit (.str (Str.ofString " = not "))) (m2 dIx (mVar 0) (mLit (.int 3)))) (m2 dAdd (m2 dAdd (m2 dAdd (m2 dAdd (m2 dAdd (mLit (.str (Str.ofString " = "))) (m2 dIx (mVar 0) (mLit (.int 3)))) (mLit (.str (Str.ofString " ")))) (m2 dIx (mVar 0) (mLit (.int 2)))) (mLit (.str (Str.ofString " ")))) (m2 dIx (mVar 0) (mLit (.int 4))))))) sNext)
    (sRet (m2 dAdd (m2 dAdd (m2 dIx (mVar 0) (mLit (.int 0))) (mLit (.str (Str.ofString " ")))) (m2 dIx (mVar 0) (mLit (.int 1))))))))
noncomputable def f__law_wire_line : FM := runF 1 m__law_wire_line
abbrev s__law_text_of : Stmt := topS 44
theorem sc__law_text_of : FnScope ["lines", "one"] ["lines"] (defScope s__law_text_of) := ⟨rfl, rfl, rfl, by decide +kernel, rfl, by decide +kernel, by decide +kernel⟩
noncomputable def m__law_text_of : Sg → Mh → RS := (sRet (mMt "str" dJoin (mLit (.str (Str.ofString ""))) (mCons (mLc (mIter (mVar 0)) (gNm 1) mYes (m2 dAdd (mCall 1 f__law_wire_line (mCons (mVar 1) mNil) []) (mLit (.str (Str.ofString "\n")))) [1]) mNil)))
noncomputable def f__law_text_of : FM := runF 2 m__law_text_of
abbrev s_Circuit___repr__ : Stmt := inClass (topS 22) 4
theorem sc_Circuit___repr__ : FnScope ["self"] ["self"] (defScope s_Circuit___repr__) := ⟨rfl, rfl, rfl, by decide +kernel, rfl, by decide +kernel, by decide +kernel⟩
noncomputable def m_Circuit___repr__ : Sg → Mh → RS := (sRet (mJs [(mLit (.str (Str.ofString "Circuit("))), (m1 dFmt (mBi dLen (mCons (m1 (dFld "Circuit" "_cells") (mVar 0)) mNil))), (mLit (.str (Str.ofString " cells, "))), (m1 dFmt (mBi dLen (mCons (m1 (dFld "Circuit" "_ins") (mVar 0)) mNil))), (mLit (.str (Str.ofString " ins, "))), (m1 dFmt (mBi dLen (mCons (m1 (dFld "Circuit" "_gates") (mVar 0)) mNil))), (mLit (.str (Str.ofString " gates)")))] Str.empty))
noncomputable def f_Circuit___repr__ : FM := runF 1 m_Circuit___repr__
abbrev s_Circuit___str__ : Stmt := inClass (topS 22) 3
theorem sc_Circuit___str__ : FnScope ["self"] ["self"] (defScope s_Circuit___str__) := ⟨rfl, rfl, rfl, by decide +kernel, rfl, by decide +kernel, by decide +kernel⟩
noncomputable def m_Circuit___str__ : Sg → Mh → RS := (sRet (mBi dStr (mCons (m1 (dFld "Circuit" "_text") (mVar 0)) mNil)))
noncomputable def f_Circuit___str__ : FM := runF 1 m_Circuit___str__
abbrev s_Circuit_cells : Stmt := inClass (topS 22) 6
theorem sc_Circuit_cells : FnScope ["self"] ["self"] (defScope s_Circuit_cells) := ⟨rfl, rfl, rfl, by decide +kernel, rfl, by decide +kernel, by decide +kernel⟩
noncomputable def m_Circuit_cells : Sg → Mh → RS := (sRet (mBi dList (mCons (m1 (dFld "Circuit" "_cells") (mVar 0)) mNil)))
noncomputable def f_Circuit_cells : FM := runF 1 m_Circuit_cells
abbrev s_Circuit_gates : Stmt := inClass (topS 22) 9
theorem sc_Circuit_gates : FnScope ["self"] ["self"] (defScope s_Circuit_gates) := ⟨rfl, rfl, rfl, by decide +kernel, rfl, by decide +kernel, by decide +kernel⟩
noncomputable def m_Circuit_gates : Sg → Mh → RS := (sRet (mBi dList (mCons (m1 (dFld "Circuit" "_gates") (mVar 0)) mNil)))
noncomputable def f_Circuit_gates : FM := runF 1 m_Circuit_gates
abbrev s_Circuit_ins : Stmt := inClass (topS 22) 8
theorem sc_Circuit_ins : FnScope ["self"] ["self"] (defScope s_Circuit_ins) := ⟨rfl, rfl, rfl, by decide +kernel, rfl, by decide +kernel, by decide +kernel⟩
noncomputable def m_Circuit_ins : Sg → Mh → RS := (sRet (mBi dList (mCons (m1 (dFld "Circuit" "_ins") (mVar 0)) mNil)))
noncomputable def f_Circuit_ins : FM := runF 1 m_Circuit_ins
abbrev s_Circuit_opens : Stmt := inClass (topS 22) 10
theorem sc_Circuit_opens : FnScope ["self"] ["self"] (defScope s_Circuit_opens) := ⟨rfl, rfl, rfl, by decide +kernel, rfl, by decide +kernel, by decide +kernel⟩
noncomputable def m_Circuit_opens : Sg → Mh → RS := (sRet (mBi dList (mCons (m1 (dFld "Circuit" "_opens") (mVar 0)) mNil)))
noncomputable def f_Circuit_opens : FM := runF 1 m_Circuit_opens
abbrev s_Circuit_secret_cells : Stmt := inClass (topS 22) 7
theorem sc_Circuit_secret_cells : FnScope ["self", "cell"] ["self"] (defScope s_Circuit_secret_cells) := ⟨rfl, rfl, rfl, by decide +kernel, rfl, by decide +kernel, by decide +kernel⟩
noncomputable def m_Circuit_secret_cells : Sg → Mh → RS := (sRet (mLc (mIter (m1 (dFld "Circuit" "_cells") (mVar 0))) (gNm 1) (mTest (m2 dIs (m2 dIx (mVar 1) (mLit (.int 1))) (mLit .non))) (m2 dIx (mVar 1) (mLit (.int 0))) [1]))
noncomputable def f_Circuit_secret_cells : FM := runF 2 m_Circuit_secret_cells
abbrev s_Circuit_text : Stmt := inClass (topS 22) 5
theorem sc_Circuit_text : FnScope ["self"] ["self"] (defScope s_Circuit_text) := ⟨rfl, rfl, rfl, by decide +kernel, rfl, by decide +kernel, by decide +kernel⟩
noncomputable def m_Circuit_text : Sg → Mh → RS := (sRet (m1 (dFld "Circuit" "_text") (mVar 0)))
noncomputable def f_Circuit_text : FM := runF 1 m_Circuit_text
abbrev s_Circuit_wires : Stmt := inClass (topS 22) 11
theorem sc_Circuit_wires : FnScope ["self"] ["self"] (defScope s_Circuit_wires) := ⟨rfl, rfl, rfl, by decide +kernel, rfl, by decide +kernel, by decide +kernel⟩
noncomputable def m_Circuit_wires : Sg → Mh → RS := (sRet (mBi dListD (mCons (m1 (dFld "Circuit" "_kinds") (mVar 0)) mNil)))
noncomputable def f_Circuit_wires : FM := runF 1 m_Circuit_wires
abbrev s__law_told_so : Stmt := topS 40
theorem sc__law_told_so : FnScope ["made", "lines", "given", "cells", "secrets", "ins_now", "gates_now", "opened", "wires_now", "short", "lap", "told", "one"] ["made", "lines", "given"] (defScope s__law_told_so) := ⟨rfl, rfl, rfl, by decide +kernel, rfl, by decide +kernel, by decide +kernel⟩
noncomputable def m__law_told_so : Sg → Mh → RS := (sSeq (sSet 3 (mLc (mIter (mVar 1)) (gNm 12) (mTest (m2 (dIn false) (m2 dIx (mVar 12) (mLit (.int 0))) (mTup (mCons (mLit (.str (Str.ofString "cell"))) (mCons (mLit (.str (Str.ofString "secret"))) mNil))))) (mIte (mTest (m2 (dE false) (m2 dIx (mVar 12) (mLit (.int 0))) (mLit (.str (Str.ofString "cell"))))) (mTup (mCons (m2 dIx (mVar 12) (mLit (.int 1))) (mCons (m2 dIx (mVar 12) (mLit (.int 2))) (mCons (m2 dIx (mVar 12) (mLit (.int 3))) mNil)))) (mTup (mCons (m2 dIx (mVar 12) (mLit (.int 1))) (mCons (mLit .non) (mCons (m2 dIx (mVar 12) (mLit (.int 2))) mNil))))) [12]))
    (sSeq (sPar 4 5 (mCons (mLc (mIter (mVar 1)) (gNm 12) (mTest (m2 (dE false) (m2 dIx (mVar 12) (mLit (.int 0))) (mLit (.str (Str.ofString "secret"))))) (m2 dIx (mVar 12) (mLit (.int 1))) [12]) (mCons (mLc (mIter (mVar 1)) (gNm 12) (mTest (m2 (dE false) (m2 dIx (mVar 12) (mLit (.int 0))) (mLit (.str (Str.ofString "in"))))) (m2 dIx (mVar 12) (mLit (.int 1))) [12]) mNil)))
    (sSeq (sPar 6 7 (mCons (mLc (mIter (mVar 1)) (gNm 12) (mTest (m2 (dE false) (m2 dIx (mVar 12) (mLit (.int 0))) (mLit (.str (Str.ofString "gate"))))) (mSl (mVar 12) (mPart (mLit (.int 1))) mNoP) [12]) (mCons (mLc (mIter (mVar 1)) (gNm 12) (mTest (m2 (dE false) (m2 dIx (mVar 12) (mLit (.int 0))) (mLit (.str (Str.ofString "open"))))) (m2 dIx (mVar 12) (mLit (.int 1))) [12]) mNil)))
    (sSeq (sSet 8 (mLc (mIter (mVar 1)) (gNm 12) (mTest (m2 (dE true) (m2 dIx (mVar 12) (mLit (.int 0))) (mLit (.str (Str.ofString "open"))))) (m2 dIx (mVar 12) (mLit (.int 1))) [12]))
    (sSeq (sSet 9 (m2 dAdd (m2 dAdd (m2 dAdd (m2 dAdd (m2 dAdd (m2 dAdd (mLit (.str (Str.ofString "Circuit("))) (mBi dStr (mCons (mBi dLen (mCons (mVar 3) mNil)) mNil))) (mLit (.str (Str.ofString " cells, ")))) (mBi dStr (mCons (mBi dLen (mCons (mVar 5) mNil)) mNil))) (mLit (.str (Str.ofString " ins, ")))) (mBi dStr (mCons (mBi dLen (mCons (mVar 6) mNil)) mNil))) (mLit (.str (Str.ofString " gates)")))))
    (sSeq (sFor (mRange1 (mLit (.int 2))) (gNm 10) (sSeq (sSet 11 (mLst (mCons (mMeth "Circuit" "cells" 1 f_Circuit_cells (mVar 0) mNil []) (mCons (mMeth "Circuit" "secret_cells" 1 f_Circuit_secret_cells (mVar 0) mNil []) (mCons (mMeth "Circuit" "ins" 1 f_Circuit_ins (mVar 0) mNil []) (mCons (mMeth "Circuit" "gates" 1 f_Circuit_gates (mVar 0) mNil []) (mCons (mMeth "Circuit" "opens" 1 f_Circuit_opens (mVar 0) mNil []) (mCons (mMeth "Circuit" "wires" 1 f_Circuit_wires (mVar 0) mNil []) mNil))))))))
    (sSeq (sIf (mNotT (mTru (mCall 2 (f__law_like 8) (mCons (mVar 11) (mCons (mLst (mCons (mVar 3) (mCons (mVar 4) (mCons (mVar 5) (mCons (mVar 6) (mCons (mVar 7) (mCons (mVar 8) mNil))))))) mNil)) []))) (sRet (mLit (.bl false))) sNext)
    (sSeq (sIf (mNotT (mTru (mCall 2 (f__law_like 8) (mCons (mLst (mCons (mMeth "Circuit" "text" 1 f_Circuit_text (mVar 0) mNil []) (mCons (mBi (dStrO "Circuit" f_Circuit___str__) (mCons (mVar 0) mNil)) (mCons (mBi (dStrO "Circuit" f_Circuit___repr__) (mCons (mVar 0) mNil)) mNil)))) (mCons (mLst (mCons (mVar 2) (mCons (mVar 2) (mCons (mVar 9) mNil)))) mNil)) []))) (sRet (mLit (.bl false))) sNext)
    (sFor (mIter (mVar 11)) (gNm 12) (sSeq (sExpr (mMt "list" dReverse (mVar 12) mNil))
    (sExpr (mMt "list" dAppend (mVar 12) (mCons (mLit (.str (Str.ofString "x"))) mNil)))))))))
    (sRet (mCall 2 (f__law_like 8) (mCons (mLc (mIter (mVar 8)) (gNm 12) mYes (m2 (dInO "Circuit" false f_Circuit___contains__) (mVar 12) (mVar 0)) [12]) (mCons (mLc (mIter (mVar 8)) (gNm 12) mYes (mLit (.bl true)) [12]) mNil)) []))))))))
noncomputable def f__law_told_so : FM := runF 13 m__law_told_so
abbrev s_law : Stmt := topS 45
theorem sc_law : FnScope ["script", "bag", "kept", "lap", "heads", "lines", "turn", "given", "made", "one", "other"] ["script"] (defScope s_law) := ⟨rfl, rfl, rfl, by decide +kernel, rfl, by decide +kernel, by decide +kernel⟩
noncomputable def m_law : Sg → Mh → RS := (sSeq (sSet 1 (mCall 1 f__law_bag (mCons (mVar 0) mNil) []))
    (sSeq (sSet 2 (mLst mNil))
    (sSeq (sFor (mRange1 (mLit (.int 3))) (gNm 3) (sSeq (sSet 4 (m2 dAdd (m2 dAdd (m2 dMul (mLst (mCons (mLit (.str (Str.ofString "secret"))) mNil)) (mCall 2 f__law_draw (mCons (mVar 1) (mCons (mLit (.int 4)) mNil)) [])) (m2 dMul (mLst (mCons (mLit (.str (Str.ofString "cell"))) mNil)) (mCall 2 f__law_draw (mCons (mVar 1) (mCons (mLit (.int 4)) mNil)) []))) (m2 dMul (mLst (mCons (mLit (.str (Str.ofString "in"))) mNil)) (mCall 2 f__law_draw (mCons (mVar 1) (mCons (mLit (.int 4)) mNil)) []))))
    (sSeq (sSet 4 (m2 dAdd (m2 dAdd (mVar 4) (m2 dMul (mLst (mCons (mLit (.str (Str.ofString "gate"))) mNil)) (mCall 2 f__law_of (mCons (mVar 1) (mCons (mLst (mCons (mLit (.int 4)) (mCons (mLit (.int 8)) (mCons (mLit (.int 12)) (mCons (mLit (.int 0)) (mCons (mLit (.int 1)) mNil)))))) mNil)) []))) (m2 dMul (mLst (mCons (mLit (.str (Str.ofString "open"))) mNil)) (mCall 2 f__law_draw (mCons (mVar 1) (mCons (mLit (.int 7)) mNil)) []))))
    (sSeq (sSet 5 (mCall 3 f__law_grown (mCons (mVar 1) (mCons (mVar 4) (mCons (mCall 2 f__law_wire_names (mCons (mVar 1) (mCons (mLit (.int 30)) mNil)) []) mNil))) []))
    (sFor (mRange1 (mLit (.int 3))) (gNm 6) (sSeq (sSet 7 (mCall 1 f__law_text_of (mCons (mVar 5) mNil) []))
    (sSeq (sExpr (mMt "list" dAppend (mVar 2) (mCons (mTup (mCons (mIte (mTest (m2 (dE false) (mVar 6) (mLit (.int 0)))) (mMake "Circuit" 2 f_Circuit___init__ (mCons (mVar 7) mNil) []) (mMake "Circuit" 2 f_Circuit___init__ (mCons (mVar 7) mNil) [])) (mCons (mVar 5) (mCons (mVar 7) mNil)))) mNil)))
    (sIf (mTest (m2 (dE true) (mVar 5) (mLst mNil))) (sSet 5 (mIte (mTest (m2 (dE false) (mVar 6) (mLit (.int 0)))) (mCall 2 f__law_other_order (mCons (mVar 1) (mCons (mVar 5) mNil)) []) (mCall 2 f__law_changed (mCons (mVar 1) (mCons (mVar 5) mNil)) []))) sNext))))))))
    (sSeq (sExpr (mMt "list" dAppend (mVar 2) (mCons (mTup (mCons (mMake "Circuit" 2 f_Circuit___init__ (mCons (mLit (.str (Str.ofString ""))) mNil) []) (mCons (mLst mNil) (mCons (mLit (.str (Str.ofString ""))) mNil)))) mNil)))
    (sSeq (sFor (mIter (mVar 2)) (gTp 3 (gsCons (gNm 8) (gsCons (gNm 5) (gsCons (gNm 7) gsNil)))) (sIf (mOrT (mNotT (mTru (mCall 3 f__law_told_so (mCons (mVar 8) (mCons (mVar 5) (mCons (mVar 7) mNil))) []))) (mNotT (mTru (mCall 3 f__law_in_so (mCons (mVar 1) (mCons (mVar 8) (mCons (mVar 5) mNil))) [])))) (sRet (mLit (.bl false))) sNext))
    (sSeq (sFor (mRange1 (mLit (.int 12))) (gNm 3) (sSeq (sPar 9 10 (mCons (mCall 2 f__law_of (mCons (mVar 1) (mCons (mVar 2) mNil)) []) (mCons (mCall 2 f__law_of (mCons (mVar 1) (mCons (mVar 2) mNil)) []) mNil)))
    (sIf (mNotT (mTru (mCall 2 (f__law_like 8) (mCons (mLst (mCons (m2 (dEqO "Circuit" f_Circuit___eq__) (m2 dIx (mVar 9) (mLit (.int 0))) (m2 dIx (mVar 10) (mLit (.int 0)))) (mCons (m2 (dNeO "Circuit" f_Circuit___eq__) (m2 dIx (mVar 9) (mLit (.int 0))) (m2 dIx (mVar 10) (mLit (.int 0)))) (mCons (m2 (dEqO "Circuit" f_Circuit___eq__) (mMake "Circuit" 2 f_Circuit___init__ (mCons (m2 dIx (mVar 9) (mLit (.int 2))) mNil) []) (m2 dIx (mVar 9) (mLit (.int 0)))) mNil)))) (mCons (mLst (mCons (m2 (dE false) (m2 dIx (mVar 9) (mLit (.int 2))) (m2 dIx (mVar 10) (mLit (.int 2)))) (mCons (m2 (dE true) (m2 dIx (mVar 9) (mLit (.int 2))) (m2 dIx (mVar 10) (mLit (.int 2)))) (mCons (mLit (.bl true)) mNil)))) mNil)) []))) (sRet (mLit (.bl false))) sNext)))
    (sRet (mCall 2 (f__law_like 8) (mCons (mLst (mCons (m2 (dEqO "Circuit" f_Circuit___eq__) (m2 dIx (m2 dIx (mVar 2) (mLit (.int 0))) (mLit (.int 0))) (m2 dIx (m2 dIx (mVar 2) (mLit (.int 0))) (mLit (.int 2)))) (mCons (m2 (dEqO "Circuit" f_Circuit___eq__) (m2 dIx (m2 dIx (mVar 2) (mLit (.int 0))) (mLit (.int 0))) (mLit .non)) (mCons (m2 (dEqO "Circuit" f_Circuit___eq__) (m2 dIx (m2 dIx (mVar 2) (mLit (.int 0))) (mLit (.int 0))) (m2 dIx (m2 dIx (mVar 2) (mLit (.int 0))) (mLit (.int 1)))) mNil)))) (mCons (mLst (mCons (mLit (.bl false)) (mCons (mLit (.bl false)) (mCons (mLit (.bl false)) mNil)))) mNil)) []))))))))
noncomputable def f_law : FM := runF 11 m_law
structure Txt (K : PySem.W.Frag) (mg : Str → Option Value) where
  n_all : mg "all" = none
  n_bool : mg "bool" = none
  n_dict : mg "dict" = none
  n_enumerate : mg "enumerate" = none
  n_int : mg "int" = none
  n_isinstance : mg "isinstance" = none
  n_len : mg "len" = none
  n_list : mg "list" = none
  n_range : mg "range" = none
  n_repr : mg "repr" = none
  n_str : mg "str" = none
  n_tuple : mg "tuple" = none
  n_zip : mg "zip" = none
  A_Circuit : Addr
  gC_Circuit : mg "Circuit" = some (.ref A_Circuit)
  cl_Circuit : Cls K A_Circuit
  na_Circuit__cells : NoAttr K A_Circuit "_cells"
  na_Circuit__gates : NoAttr K A_Circuit "_gates"
  na_Circuit__ins : NoAttr K A_Circuit "_ins"
  na_Circuit__kinds : NoAttr K A_Circuit "_kinds"
  na_Circuit__opens : NoAttr K A_Circuit "_opens"
  na_Circuit__text : NoAttr K A_Circuit "_text"
  ii_Circuit : C8.InsC K A_Circuit
  ci_Circuit : PySem.W.isClsIn K A_Circuit = true
  ct_Circuit : PySem.W.typeIn K (.ref A_Circuit) = some (.type "type")
  ne_Circuit : PySem.W.findIn K (.ref A_Circuit) "__ne__" = some (some (.builtin "object.__ne__"))
  mo_Circuit : PySem.W.mroIn K A_Circuit (.type "object") = some true
  a_Circuit___eq__ : Addr
  d_Circuit___eq__ : FuncData
  F_Circuit___eq__ : Fun K "__eq__" "Circuit.__eq__" s_Circuit___eq__ a_Circuit___eq__ d_Circuit___eq__
  b_Circuit___eq__ : L2.Binds K d_Circuit___eq__ ["self", "other"] []
  sp_Circuit___eq__ : PySem.W.findIn K (.ref A_Circuit) "__eq__" = some (some (.ref a_Circuit___eq__))
  fn_Circuit___eq__ : PySem.W.isFn K (.ref a_Circuit___eq__) = true
  a__check_many : Addr
  d__check_many : FuncData
  F__check_many : Fun K "_check_many" "_check_many" s__check_many a__check_many d__check_many
  g__check_many : mg "_check_many" = some (.ref a__check_many)
  b__check_many : L2.Binds K d__check_many ["what", "many", "most"] []
  a__check_from_wires : Addr
  d__check_from_wires : FuncData
  F__check_from_wires : Fun K "_check_from_wires" "_check_from_wires" s__check_from_wires a__check_from_wires d__check_from_wires
  g__check_from_wires : mg "_check_from_wires" = some (.ref a__check_from_wires)
  b__check_from_wires : L2.Binds K d__check_from_wires ["forms", "given"] []
  a_is_letter_run : Addr
  d_is_letter_run : FuncData
  F_is_letter_run : Fun K "is_letter_run" "is_letter_run" s_is_letter_run a_is_letter_run d_is_letter_run
  g_is_letter_run : mg "is_letter_run" = some (.ref a_is_letter_run)
  b_is_letter_run : L2.Binds K d_is_letter_run ["text"] []
  a_is_name : Addr
  d_is_name : FuncData
  F_is_name : Fun K "is_name" "is_name" s_is_name a_is_name d_is_name
  g_is_name : mg "is_name" = some (.ref a_is_name)
  b_is_name : L2.Binds K d_is_name ["value"] []
  a_wire_name : Addr
  d_wire_name : FuncData
  F_wire_name : Fun K "wire_name" "wire_name" s_wire_name a_wire_name d_wire_name
  g_wire_name : mg "wire_name" = some (.ref a_wire_name)
  b_wire_name : L2.Binds K d_wire_name ["value"] []
  a__fault_of : Addr
  d__fault_of : FuncData
  F__fault_of : Fun K "_fault_of" "_fault_of" s__fault_of a__fault_of d__fault_of
  g__fault_of : mg "_fault_of" = some (.ref a__fault_of)
  b__fault_of : L2.Binds K d__fault_of ["form", "given"] []
  a_gate_of : Addr
  d_gate_of : FuncData
  F_gate_of : Fun K "gate_of" "gate_of" s_gate_of a_gate_of d_gate_of
  g_gate_of : mg "gate_of" = some (.ref a_gate_of)
  b_gate_of : L2.Binds K d_gate_of ["words"] []
  a_read_by : Addr
  d_read_by : FuncData
  F_read_by : Fun K "read_by" "read_by" s_read_by a_read_by d_read_by
  g_read_by : mg "read_by" = some (.ref a_read_by)
  b_read_by : L2.Binds K d_read_by ["gate"] []
  a__form_of : Addr
  d__form_of : FuncData
  F__form_of : Fun K "_form_of" "_form_of" s__form_of a__form_of d__form_of
  g__form_of : mg "_form_of" = some (.ref a__form_of)
  b__form_of : L2.Binds K d__form_of ["words"] []
  a_cut_lines : Addr
  d_cut_lines : FuncData
  F_cut_lines : Fun K "cut_lines" "cut_lines" s_cut_lines a_cut_lines d_cut_lines
  g_cut_lines : mg "cut_lines" = some (.ref a_cut_lines)
  b_cut_lines : L2.Binds K d_cut_lines ["text"] []
  a__forms_in : Addr
  d__forms_in : FuncData
  F__forms_in : Fun K "_forms_in" "_forms_in" s__forms_in a__forms_in d__forms_in
  g__forms_in : mg "_forms_in" = some (.ref a__forms_in)
  b__forms_in : L2.Binds K d__forms_in ["text"] []
  a__giver_of : Addr
  d__giver_of : FuncData
  F__giver_of : Fun K "_giver_of" "_giver_of" s__giver_of a__giver_of d__giver_of
  g__giver_of : mg "_giver_of" = some (.ref a__giver_of)
  b__giver_of : L2.Binds K d__giver_of ["form"] []
  a__told_by : Addr
  d__told_by : FuncData
  F__told_by : Fun K "_told_by" "_told_by" s__told_by a__told_by d__told_by
  g__told_by : mg "_told_by" = some (.ref a__told_by)
  b__told_by : L2.Binds K d__told_by ["forms", "kind"] []
  a_Circuit___init__ : Addr
  d_Circuit___init__ : FuncData
  F_Circuit___init__ : Fun K "__init__" "Circuit.__init__" s_Circuit___init__ a_Circuit___init__ d_Circuit___init__
  b_Circuit___init__ : L2.Binds K d_Circuit___init__ ["self", "text"] []
  sp_Circuit___init__ : PySem.W.findIn K (.ref A_Circuit) "__init__" = some (some (.ref a_Circuit___init__))
  fn_Circuit___init__ : PySem.W.isFn K (.ref a_Circuit___init__) = true
  a__law_bag : Addr
  d__law_bag : FuncData
  F__law_bag : Fun K "_law_bag" "_law_bag" s__law_bag a__law_bag d__law_bag
  g__law_bag : mg "_law_bag" = some (.ref a__law_bag)
  b__law_bag : L2.Binds K d__law_bag ["script"] []
  a__law_draw : Addr
  d__law_draw : FuncData
  F__law_draw : Fun K "_law_draw" "_law_draw" s__law_draw a__law_draw d__law_draw
  g__law_draw : mg "_law_draw" = some (.ref a__law_draw)
  b__law_draw : L2.Binds K d__law_draw ["bag", "size"] []
  a__law_of : Addr
  d__law_of : FuncData
  F__law_of : Fun K "_law_of" "_law_of" s__law_of a__law_of d__law_of
  g__law_of : mg "_law_of" = some (.ref a__law_of)
  b__law_of : L2.Binds K d__law_of ["bag", "things"] []
  a__law_changed : Addr
  d__law_changed : FuncData
  F__law_changed : Fun K "_law_changed" "_law_changed" s__law_changed a__law_changed d__law_changed
  g__law_changed : mg "_law_changed" = some (.ref a__law_changed)
  b__law_changed : L2.Binds K d__law_changed ["bag", "lines"] []
  a__law_grown : Addr
  d__law_grown : FuncData
  F__law_grown : Fun K "_law_grown" "_law_grown" s__law_grown a__law_grown d__law_grown
  g__law_grown : mg "_law_grown" = some (.ref a__law_grown)
  b__law_grown : L2.Binds K d__law_grown ["bag", "heads", "names"] []
  a_Circuit___contains__ : Addr
  d_Circuit___contains__ : FuncData
  F_Circuit___contains__ : Fun K "__contains__" "Circuit.__contains__" s_Circuit___contains__ a_Circuit___contains__ d_Circuit___contains__
  b_Circuit___contains__ : L2.Binds K d_Circuit___contains__ ["self", "value"] []
  sp_Circuit___contains__ : PySem.W.findIn K (.ref A_Circuit) "__contains__" = some (some (.ref a_Circuit___contains__))
  fn_Circuit___contains__ : PySem.W.isFn K (.ref a_Circuit___contains__) = true
  a__law_like : Addr
  d__law_like : FuncData
  F__law_like : Fun K "_law_like" "_law_like" s__law_like a__law_like d__law_like
  g__law_like : mg "_law_like" = some (.ref a__law_like)
  b__law_like : L2.Binds K d__law_like ["found", "due"] []
  a__law_barred : Addr
  d__law_barred : FuncData
  F__law_barred : Fun K "_law_barred" "_law_barred" s__law_barred a__law_barred d__law_barred
  g__law_barred : mg "_law_barred" = some (.ref a__law_barred)
  b__law_barred : L2.Binds K d__law_barred [] []
  a__law_is_wire : Addr
  d__law_is_wire : FuncData
  F__law_is_wire : Fun K "_law_is_wire" "_law_is_wire" s__law_is_wire a__law_is_wire d__law_is_wire
  g__law_is_wire : mg "_law_is_wire" = some (.ref a__law_is_wire)
  b__law_is_wire : L2.Binds K d__law_is_wire ["piece"] []
  a__law_wire_names : Addr
  d__law_wire_names : FuncData
  F__law_wire_names : Fun K "_law_wire_names" "_law_wire_names" s__law_wire_names a__law_wire_names d__law_wire_names
  g__law_wire_names : mg "_law_wire_names" = some (.ref a__law_wire_names)
  b__law_wire_names : L2.Binds K d__law_wire_names ["bag", "many"] []
  a__law_in_so : Addr
  d__law_in_so : FuncData
  F__law_in_so : Fun K "_law_in_so" "_law_in_so" s__law_in_so a__law_in_so d__law_in_so
  g__law_in_so : mg "_law_in_so" = some (.ref a__law_in_so)
  b__law_in_so : L2.Binds K d__law_in_so ["bag", "made", "lines"] []
  a__law_other_order : Addr
  d__law_other_order : FuncData
  F__law_other_order : Fun K "_law_other_order" "_law_other_order" s__law_other_order a__law_other_order d__law_other_order
  g__law_other_order : mg "_law_other_order" = some (.ref a__law_other_order)
  b__law_other_order : L2.Binds K d__law_other_order ["bag", "lines"] []
  a__law_wire_line : Addr
  d__law_wire_line : FuncData
  F__law_wire_line : Fun K "_law_wire_line" "_law_wire_line" s__law_wire_line a__law_wire_line d__law_wire_line
  g__law_wire_line : mg "_law_wire_line" = some (.ref a__law_wire_line)
  b__law_wire_line : L2.Binds K d__law_wire_line ["one"] []
  a__law_text_of : Addr
  d__law_text_of : FuncData
  F__law_text_of : Fun K "_law_text_of" "_law_text_of" s__law_text_of a__law_text_of d__law_text_of
  g__law_text_of : mg "_law_text_of" = some (.ref a__law_text_of)
  b__law_text_of : L2.Binds K d__law_text_of ["lines"] []
  a_Circuit___repr__ : Addr
  d_Circuit___repr__ : FuncData
  F_Circuit___repr__ : Fun K "__repr__" "Circuit.__repr__" s_Circuit___repr__ a_Circuit___repr__ d_Circuit___repr__
  b_Circuit___repr__ : L2.Binds K d_Circuit___repr__ ["self"] []
  sp_Circuit___repr__ : PySem.W.findIn K (.ref A_Circuit) "__repr__" = some (some (.ref a_Circuit___repr__))
  fn_Circuit___repr__ : PySem.W.isFn K (.ref a_Circuit___repr__) = true
  a_Circuit___str__ : Addr
  d_Circuit___str__ : FuncData
  F_Circuit___str__ : Fun K "__str__" "Circuit.__str__" s_Circuit___str__ a_Circuit___str__ d_Circuit___str__
  b_Circuit___str__ : L2.Binds K d_Circuit___str__ ["self"] []
  sp_Circuit___str__ : PySem.W.findIn K (.ref A_Circuit) "__str__" = some (some (.ref a_Circuit___str__))
  fn_Circuit___str__ : PySem.W.isFn K (.ref a_Circuit___str__) = true
  a_Circuit_cells : Addr
  d_Circuit_cells : FuncData
  F_Circuit_cells : Fun K "cells" "Circuit.cells" s_Circuit_cells a_Circuit_cells d_Circuit_cells
  b_Circuit_cells : L2.Binds K d_Circuit_cells ["self"] []
  sp_Circuit_cells : PySem.W.findIn K (.ref A_Circuit) "cells" = some (some (.ref a_Circuit_cells))
  fn_Circuit_cells : PySem.W.isFn K (.ref a_Circuit_cells) = true
  me_Circuit_cells : Meth K A_Circuit "cells" a_Circuit_cells
  a_Circuit_gates : Addr
  d_Circuit_gates : FuncData
  F_Circuit_gates : Fun K "gates" "Circuit.gates" s_Circuit_gates a_Circuit_gates d_Circuit_gates
  b_Circuit_gates : L2.Binds K d_Circuit_gates ["self"] []
  sp_Circuit_gates : PySem.W.findIn K (.ref A_Circuit) "gates" = some (some (.ref a_Circuit_gates))
  fn_Circuit_gates : PySem.W.isFn K (.ref a_Circuit_gates) = true
  me_Circuit_gates : Meth K A_Circuit "gates" a_Circuit_gates
  a_Circuit_ins : Addr
  d_Circuit_ins : FuncData
  F_Circuit_ins : Fun K "ins" "Circuit.ins" s_Circuit_ins a_Circuit_ins d_Circuit_ins
  b_Circuit_ins : L2.Binds K d_Circuit_ins ["self"] []
  sp_Circuit_ins : PySem.W.findIn K (.ref A_Circuit) "ins" = some (some (.ref a_Circuit_ins))
  fn_Circuit_ins : PySem.W.isFn K (.ref a_Circuit_ins) = true
  me_Circuit_ins : Meth K A_Circuit "ins" a_Circuit_ins
  a_Circuit_opens : Addr
  d_Circuit_opens : FuncData
  F_Circuit_opens : Fun K "opens" "Circuit.opens" s_Circuit_opens a_Circuit_opens d_Circuit_opens
  b_Circuit_opens : L2.Binds K d_Circuit_opens ["self"] []
  sp_Circuit_opens : PySem.W.findIn K (.ref A_Circuit) "opens" = some (some (.ref a_Circuit_opens))
  fn_Circuit_opens : PySem.W.isFn K (.ref a_Circuit_opens) = true
  me_Circuit_opens : Meth K A_Circuit "opens" a_Circuit_opens
  a_Circuit_secret_cells : Addr
  d_Circuit_secret_cells : FuncData
  F_Circuit_secret_cells : Fun K "secret_cells" "Circuit.secret_cells" s_Circuit_secret_cells a_Circuit_secret_cells d_Circuit_secret_cells
  b_Circuit_secret_cells : L2.Binds K d_Circuit_secret_cells ["self"] []
  sp_Circuit_secret_cells : PySem.W.findIn K (.ref A_Circuit) "secret_cells" = some (some (.ref a_Circuit_secret_cells))
  fn_Circuit_secret_cells : PySem.W.isFn K (.ref a_Circuit_secret_cells) = true
  me_Circuit_secret_cells : Meth K A_Circuit "secret_cells" a_Circuit_secret_cells
  a_Circuit_text : Addr
  d_Circuit_text : FuncData
  F_Circuit_text : Fun K "text" "Circuit.text" s_Circuit_text a_Circuit_text d_Circuit_text
  b_Circuit_text : L2.Binds K d_Circuit_text ["self"] []
  sp_Circuit_text : PySem.W.findIn K (.ref A_Circuit) "text" = some (some (.ref a_Circuit_text))
  fn_Circuit_text : PySem.W.isFn K (.ref a_Circuit_text) = true
  me_Circuit_text : Meth K A_Circuit "text" a_Circuit_text
  a_Circuit_wires : Addr
  d_Circuit_wires : FuncData
  F_Circuit_wires : Fun K "wires" "Circuit.wires" s_Circuit_wires a_Circuit_wires d_Circuit_wires
  b_Circuit_wires : L2.Binds K d_Circuit_wires ["self"] []
  sp_Circuit_wires : PySem.W.findIn K (.ref A_Circuit) "wires" = some (some (.ref a_Circuit_wires))
  fn_Circuit_wires : PySem.W.isFn K (.ref a_Circuit_wires) = true
  me_Circuit_wires : Meth K A_Circuit "wires" a_Circuit_wires
  a__law_told_so : Addr
  d__law_told_so : FuncData
  F__law_told_so : Fun K "_law_told_so" "_law_told_so" s__law_told_so a__law_told_so d__law_told_so
  g__law_told_so : mg "_law_told_so" = some (.ref a__law_told_so)
  b__law_told_so : L2.Binds K d__law_told_so ["made", "lines", "given"] []
  a_law : Addr
  d_law : FuncData
  F_law : Fun K "law" "law" s_law a_law d_law
  g_law : mg "law" = some (.ref a_law)
  b_law : L2.Binds K d_law ["script"] []
  mk_Circuit : Mk K A_Circuit a_Circuit___init__
  kb_Circuit___init__ : KwI K d_Circuit___init__ "self" ["text"]
  p_CIRCUIT_WORDS : V
  u_CIRCUIT_WORDS : Value
  g_CIRCUIT_WORDS : mg "CIRCUIT_WORDS" = some u_CIRCUIT_WORDS
  r_CIRCUIT_WORDS : L2.RelV p_CIRCUIT_WORDS u_CIRCUIT_WORDS
  v_CIRCUIT_WORDS : ∀ ρ H, RV K mg ρ H p_CIRCUIT_WORDS c_CIRCUIT_WORDS
  p_LETTERS : V
  u_LETTERS : Value
  g_LETTERS : mg "LETTERS" = some u_LETTERS
  r_LETTERS : L2.RelV p_LETTERS u_LETTERS
  v_LETTERS : ∀ ρ H, RV K mg ρ H p_LETTERS c_LETTERS
  p_MOST_CELLS : V
  u_MOST_CELLS : Value
  g_MOST_CELLS : mg "MOST_CELLS" = some u_MOST_CELLS
  r_MOST_CELLS : L2.RelV p_MOST_CELLS u_MOST_CELLS
  v_MOST_CELLS : ∀ ρ H, RV K mg ρ H p_MOST_CELLS c_MOST_CELLS
  p_MOST_GATES : V
  u_MOST_GATES : Value
  g_MOST_GATES : mg "MOST_GATES" = some u_MOST_GATES
  r_MOST_GATES : L2.RelV p_MOST_GATES u_MOST_GATES
  v_MOST_GATES : ∀ ρ H, RV K mg ρ H p_MOST_GATES c_MOST_GATES
  p_MOST_INS : V
  u_MOST_INS : Value
  g_MOST_INS : mg "MOST_INS" = some u_MOST_INS
  r_MOST_INS : L2.RelV p_MOST_INS u_MOST_INS
  v_MOST_INS : ∀ ρ H, RV K mg ρ H p_MOST_INS c_MOST_INS
  p_MOST_OPENS : V
  u_MOST_OPENS : Value
  g_MOST_OPENS : mg "MOST_OPENS" = some u_MOST_OPENS
  r_MOST_OPENS : L2.RelV p_MOST_OPENS u_MOST_OPENS
  v_MOST_OPENS : ∀ ρ H, RV K mg ρ H p_MOST_OPENS c_MOST_OPENS
  p_MOST_SIGNS : V
  u_MOST_SIGNS : Value
  g_MOST_SIGNS : mg "MOST_SIGNS" = some u_MOST_SIGNS
  r_MOST_SIGNS : L2.RelV p_MOST_SIGNS u_MOST_SIGNS
  v_MOST_SIGNS : ∀ ρ H, RV K mg ρ H p_MOST_SIGNS c_MOST_SIGNS
  p_RUN_SIGNS : V
  u_RUN_SIGNS : Value
  g_RUN_SIGNS : mg "RUN_SIGNS" = some u_RUN_SIGNS
  r_RUN_SIGNS : L2.RelV p_RUN_SIGNS u_RUN_SIGNS
  v_RUN_SIGNS : ∀ ρ H, RV K mg ρ H p_RUN_SIGNS c_RUN_SIGNS
section
variable {P : Program} {w : World} {K : PySem.W.Frag} {mg : Str → Option Value} {base : Heap}
theorem ok_Circuit___eq__ (T : Txt K mg) : FnOk P w K mg base (L2.CX P w) 1 T.a_Circuit___eq__ T.d_Circuit___eq__ ["self", "other"] (spM K mg 2 f_Circuit___eq__) := fn_m T.F_Circuit___eq__ sc_Circuit___eq__ fun cdv A outer s H E hr => by
  have tk := takes_of (X := cxOf (L2.CX P w) P w K mg base ["self", "other"] "Circuit.__eq__" (defScope s_Circuit___eq__) T.a_Circuit___eq__ cdv A outer s H E) (E := E) rfl rfl rfl rfl
  exact (b_one (s_ret (q_and (q_isO T.gC_Circuit T.ii_Circuit T.ci_Circuit T.ct_Circuit T.n_isinstance (q_var 1)) (q_one (q_eq hr.units (q_fld T.gC_Circuit T.cl_Circuit T.na_Circuit__text (q_var 0)) (q_fld T.gC_Circuit T.cl_Circuit T.na_Circuit__text (q_var 1)))))))
theorem ok__check_many (T : Txt K mg) : FnOk P w K mg base (L2.CX P w) 1 T.a__check_many T.d__check_many ["what", "many", "most"] (spM K mg 3 f__check_many) := fn_m T.F__check_many sc__check_many fun cdv A outer s H E hr => by
  have tk := takes_of (X := cxOf (L2.CX P w) P w K mg base ["what", "many", "most"] "_check_many" (defScope s__check_many) T.a__check_many cdv A outer s H E) (E := E) rfl rfl rfl rfl
  exact (b_one (s_if (t_gt (q_var 1) (q_var 2)) (b_one s_never) b_nil))
theorem ok__check_from_wires (T : Txt K mg) : FnOk P w K mg base (L2.CX P w) 1 T.a__check_from_wires T.d__check_from_wires ["forms", "given"] (spM K mg 2 f__check_from_wires) := fn_m T.F__check_from_wires sc__check_from_wires fun cdv A outer s H E hr => by
  have tk := takes_of (X := cxOf (L2.CX P w) P w K mg base ["forms", "given", "at", "form"] "_check_from_wires" (defScope s__check_from_wires) T.a__check_from_wires cdv A outer s H E) (E := E) rfl rfl rfl rfl
  exact (b_one (s_for (passes_of rfl) (i_enum T.n_enumerate (l_cons (q_var 0) l_nil)) (g_tup (gs_cons (g_name 2 sc__check_from_wires.nd) (gs_cons (g_name 3 sc__check_from_wires.nd) gs_nil))) (b_one (s_if (t_w (tw_and (t_eq hr.units (q_sub_ix (q_var 3) q_int) q_str) (tw_and1 (t_dnotin (hu_of hr) (q_sub_ix (q_sub_ix (q_var 3) q_int) q_int) (q_var 1))))) (b_one s_never) b_nil))))
theorem ok_is_letter_run (T : Txt K mg) : FnOk P w K mg base (L2.CX P w) 1 T.a_is_letter_run T.d_is_letter_run ["text"] (spM K mg 1 f_is_letter_run) := fn_m T.F_is_letter_run sc_is_letter_run fun cdv A outer s H E hr => by
  have tk := takes_of (X := cxOf (L2.CX P w) P w K mg base ["text", "sign"] "is_letter_run" (defScope s_is_letter_run) T.a_is_letter_run cdv A outer s H E) (E := E) rfl rfl rfl rfl
  exact (b_one (s_ret (q_and (q_ne hr.units (q_var 0) q_str) (q_and (q_in (q_sub_ix (q_var 0) q_int) (q_lit (pe_glob (by rfl) T.g_LETTERS T.r_LETTERS) T.v_LETTERS)) (q_one (q_all (by rfl) T.n_all (l_cons (q_lc [("sign", 1)] sc_is_letter_run.nd (i_val (q_var 0)) (blkOk_by (N := ["text", "sign"]) (sc := defScope s_is_letter_run) (own := [("sign", 1)]) (by decide +kernel)) (fun _ _ _ _ _ => (g_name 1 sc_is_letter_run.nd)) (fun _ _ _ _ _ => c_nil) (fun _ _ _ _ _ => (q_in (q_var 1) (q_lit (pe_glob (by rfl) T.g_RUN_SIGNS T.r_RUN_SIGNS) T.v_RUN_SIGNS)))) l_nil)))))))
theorem ok_is_name (T : Txt K mg) : FnOk P w K mg base (L2.CX P w) 2 T.a_is_name T.d_is_name ["value"] (spM K mg 1 f_is_name) := fn_m T.F_is_name sc_is_name fun cdv A outer s H E hr => by
  have tk := takes_of (X := cxOf (L2.CX P w) P w K mg base ["value"] "is_name" (defScope s_is_name) T.a_is_name cdv A outer s H E) (E := E) rfl rfl rfl rfl
  exact (b_one (s_ret (q_and (q_isi T.n_isinstance (q_var 0) T.n_str bt_str) (q_and (q_le (q_len T.n_len (l_cons (q_var 0) l_nil)) (q_lit (pe_glob (by rfl) T.g_MOST_SIGNS T.r_MOST_SIGNS) T.v_MOST_SIGNS)) (q_one (q_call (ok_is_letter_run T) (hr.mono (by decide)) tk T.g_is_letter_run T.F_is_letter_run.kp T.b_is_letter_run (l_cons (q_var 0) l_nil)))))))
theorem ok_wire_name (T : Txt K mg) : FnOk P w K mg base (L2.CX P w) 3 T.a_wire_name T.d_wire_name ["value"] (spM K mg 1 f_wire_name) := fn_m T.F_wire_name sc_wire_name fun cdv A outer s H E hr => by
  have tk := takes_of (X := cxOf (L2.CX P w) P w K mg base ["value"] "wire_name" (defScope s_wire_name) T.a_wire_name cdv A outer s H E) (E := E) rfl rfl rfl rfl
  exact (b_one (s_ret (q_and (q_call (ok_is_name T) (hr.mono (by decide)) tk T.g_is_name T.F_is_name.kp T.b_is_name (l_cons (q_var 0) l_nil)) (q_one (q_notin (q_var 0) (q_lit (pe_glob (by rfl) T.g_CIRCUIT_WORDS T.r_CIRCUIT_WORDS) T.v_CIRCUIT_WORDS))))))
theorem ok__fault_of (T : Txt K mg) : FnOk P w K mg base (L2.CX P w) 4 T.a__fault_of T.d__fault_of ["form", "given"] (spM K mg 2 f__fault_of) := fn_m T.F__fault_of sc__fault_of fun cdv A outer s H E hr => by
  have tk := takes_of (X := cxOf (L2.CX P w) P w K mg base ["form", "given", "kind", "wire", "_", "reads", "name"] "_fault_of" (defScope s__fault_of) T.a__fault_of cdv A outer s H E) (E := E) rfl rfl rfl rfl
  exact (b_cons (s_asg (g_tup (gs_cons (g_name 2 sc__fault_of.nd) (gs_cons (g_name 3 sc__fault_of.nd) (gs_cons (g_name 4 sc__fault_of.nd) (gs_cons (g_name 5 sc__fault_of.nd) gs_nil))))) (q_var 0))
    (b_cons (s_if (t_w (tw_and (t_ne hr.units (q_var 2) q_str) (tw_and1 (t_not (t_val (q_call (ok_wire_name T) (hr.mono (by decide)) tk T.g_wire_name T.F_wire_name.kp T.b_wire_name (l_cons (q_var 3) l_nil))))))) (b_one (s_ret q_str)) b_nil)
    (b_cons (s_if (t_w (tw_and (t_ne hr.units (q_var 2) q_str) (tw_and1 (t_din (hu_of hr) (q_var 3) (q_var 1))))) (b_one (s_ret q_str)) b_nil)
    (b_cons (s_for (passes_of rfl) (i_val (q_var 5)) (g_name 6 sc__fault_of.nd) (b_one (s_if (t_dnotin (hu_of hr) (q_var 6) (q_var 1)) (b_one (s_ret q_str)) b_nil)))
    (b_one (s_ret q_non))))))
theorem ok_gate_of (T : Txt K mg) : FnOk P w K mg base (L2.CX P w) 1 T.a_gate_of T.d_gate_of ["words"] (spM K mg 1 f_gate_of) := fn_m T.F_gate_of sc_gate_of fun cdv A outer s H E hr => by
  have tk := takes_of (X := cxOf (L2.CX P w) P w K mg base ["words"] "gate_of" (defScope s_gate_of) T.a_gate_of cdv A outer s H E) (E := E) rfl rfl rfl rfl
  exact (b_cons (s_if (t_w (tw_and (t_eq hr.units (q_len T.n_len (l_cons (q_var 0) l_nil)) q_int) (tw_and (t_eq hr.units (q_sub_ix (q_var 0) q_int) q_str) (tw_and1 (t_eq hr.units (q_sub_ix (q_var 0) q_int) q_str))))) (b_one (s_ret (q_tup (l_cons (q_sub_ix (q_var 0) q_int) (l_cons q_str (l_cons (q_sub_ix (q_var 0) q_int) (l_cons q_non l_nil))))))) b_nil)
    (b_cons (s_if (t_w (tw_and (t_eq hr.units (q_len T.n_len (l_cons (q_var 0) l_nil)) q_int) (tw_and (t_eq hr.units (q_sub_ix (q_var 0) q_int) q_str) (tw_and1 (t_in (q_sub_ix (q_var 0) q_int) (q_tup (l_cons q_str (l_cons q_str l_nil)))))))) (b_one (s_ret (q_tup (l_cons (q_sub_ix (q_var 0) q_int) (l_cons (q_sub_ix (q_var 0) q_int) (l_cons (q_sub_ix (q_var 0) q_int) (l_cons (q_sub_ix (q_var 0) q_int) l_nil))))))) b_nil)
    (b_one (s_ret q_non))))
theorem ok_read_by (T : Txt K mg) : FnOk P w K mg base (L2.CX P w) 1 T.a_read_by T.d_read_by ["gate"] (spM K mg 1 f_read_by) := fn_m T.F_read_by sc_read_by fun cdv A outer s H E hr => by
  have tk := takes_of (X := cxOf (L2.CX P w) P w K mg base ["gate"] "read_by" (defScope s_read_by) T.a_read_by cdv A outer s H E) (E := E) rfl rfl rfl rfl
  exact (b_one (s_ret (q_ite (t_eq hr.units (q_sub_ix (q_var 0) q_int) q_str) (q_tup (l_cons (q_sub_ix (q_var 0) q_int) l_nil)) (q_tup (l_cons (q_sub_ix (q_var 0) q_int) (l_cons (q_sub_ix (q_var 0) q_int) l_nil))))))
theorem ok__form_of (T : Txt K mg) : FnOk P w K mg base (L2.CX P w) 2 T.a__form_of T.d__form_of ["words"] (spM K mg 1 f__form_of) := fn_m T.F__form_of sc__form_of fun cdv A outer s H E hr => by
  have tk := takes_of (X := cxOf (L2.CX P w) P w K mg base ["words", "reads", "gate"] "_form_of" (defScope s__form_of) T.a__form_of cdv A outer s H E) (E := E) rfl rfl rfl rfl
  exact (b_cons (s_if (t_in q_str (q_var 0)) (b_one (s_ret q_non)) b_nil)
    (b_cons (s_if (t_w (tw_and (t_eq hr.units (q_len T.n_len (l_cons (q_var 0) l_nil)) q_int) (tw_and1 (t_in (q_sub_ix (q_var 0) q_int) (q_tup (l_cons q_str (l_cons q_str l_nil))))))) (b_cons (s_set 1 sc__form_of.nd (q_ite (t_eq hr.units (q_sub_ix (q_var 0) q_int) q_str) (q_tup l_nil) (q_tup (l_cons (q_sub_ix (q_var 0) q_int) l_nil))))
    (b_one (s_ret (q_tup (l_cons (q_sub_ix (q_var 0) q_int) (l_cons (q_sub_ix (q_var 0) q_int) (l_cons (q_sub_ix (q_var 0) q_int) (l_cons (q_var 1) l_nil)))))))) b_nil)
    (b_cons (s_if (t_w (tw_and (t_eq hr.units (q_len T.n_len (l_cons (q_var 0) l_nil)) q_int) (tw_and (t_eq hr.units (q_sub_ix (q_var 0) q_int) q_str) (tw_and1 (t_eq hr.units (q_sub_ix (q_var 0) q_int) q_str))))) (b_one (s_ret (q_tup (l_cons q_str (l_cons (q_sub_ix (q_var 0) q_int) (l_cons (q_tup (l_cons (q_sub_ix (q_var 0) q_int) (l_cons q_non (l_cons (q_sub_ix (q_var 0) q_int) l_nil)))) (l_cons (q_tup l_nil) l_nil))))))) b_nil)
    (b_cons (s_if (t_w (tw_and (t_eq hr.units (q_len T.n_len (l_cons (q_var 0) l_nil)) q_int) (tw_and (t_eq hr.units (q_sub_ix (q_var 0) q_int) q_str) (tw_and (t_in (q_sub_ix (q_var 0) q_int) (q_tup (l_cons q_str (l_cons q_str l_nil)))) (tw_and1 (t_eq hr.units (q_sub_ix (q_var 0) q_int) q_str)))))) (b_one (s_ret (q_tup (l_cons q_str (l_cons (q_sub_ix (q_var 0) q_int) (l_cons (q_tup (l_cons (q_sub_ix (q_var 0) q_int) (l_cons (q_intc T.n_int (l_cons (q_sub_ix (q_var 0) q_int) l_nil)) (l_cons (q_sub_ix (q_var 0) q_int) l_nil)))) (l_cons (q_tup l_nil) l_nil))))))) b_nil)
    (b_cons (s_set 2 sc__form_of.nd (q_call (ok_gate_of T) (hr.mono (by decide)) tk T.g_gate_of T.F_gate_of.kp T.b_gate_of (l_cons (q_var 0) l_nil)))
    (b_one (s_ret (q_ite (t_is (q_var 2) q_non) q_non (q_tup (l_cons q_str (l_cons (q_sub_ix (q_var 2) q_int) (l_cons (q_var 2) (l_cons (q_call (ok_read_by T) (hr.mono (by decide)) tk T.g_read_by T.F_read_by.kp T.b_read_by (l_cons (q_var 2) l_nil)) l_nil)))))))))))))
theorem ok_cut_lines (T : Txt K mg) : FnOk P w K mg base (L2.CX P w) 1 T.a_cut_lines T.d_cut_lines ["text"] (spM K mg 1 f_cut_lines) := fn_m T.F_cut_lines sc_cut_lines fun cdv A outer s H E hr => by
  have tk := takes_of (X := cxOf (L2.CX P w) P w K mg base ["text", "lines"] "cut_lines" (defScope s_cut_lines) T.a_cut_lines cdv A outer s H E) (E := E) rfl rfl rfl rfl
  exact (b_cons (s_set 1 sc_cut_lines.nd (q_split (q_var 0) q_str))
    (b_cons (s_if (t_eq hr.units (q_sub_ix (q_var 1) (q_neg q_int)) q_str) (b_one (s_ret (q_tup (l_cons (q_slice (q_var 1) p_none (p_some (q_neg q_int))) (l_cons q_bl l_nil))))) b_nil)
    (b_one (s_ret (q_tup (l_cons (q_var 1) (l_cons q_bl l_nil)))))))
theorem ok__forms_in (T : Txt K mg) : FnOk P w K mg base (L2.CX P w) 5 T.a__forms_in T.d__forms_in ["text"] (spM K mg 1 f__forms_in) := fn_m T.F__forms_in sc__forms_in fun cdv A outer s H E hr => by
  have tk := takes_of (X := cxOf (L2.CX P w) P w K mg base ["text", "lines", "lacks_end", "forms", "given", "at", "line", "form", "why"] "_forms_in" (defScope s__forms_in) T.a__forms_in cdv A outer s H E) (E := E) rfl rfl rfl rfl
  exact (b_cons (s_if (t_not (t_val (q_isi T.n_isinstance (q_var 0) T.n_str bt_str))) (b_one s_never) b_nil)
    (b_cons (s_asg (g_tup (gs_cons (g_name 1 sc__forms_in.nd) (gs_cons (g_name 2 sc__forms_in.nd) gs_nil))) (q_call (ok_cut_lines T) (hr.mono (by decide)) tk T.g_cut_lines T.F_cut_lines.kp T.b_cut_lines (l_cons (q_var 0) l_nil)))
    (b_cons (s_set 3 sc__forms_in.nd (q_lst l_nil))
    (b_cons (s_set 4 sc__forms_in.nd q_dnew)
    (b_cons (s_for (passes_of rfl) (i_enum T.n_enumerate (l_cons (q_var 1) l_nil)) (g_tup (gs_cons (g_name 5 sc__forms_in.nd) (gs_cons (g_name 6 sc__forms_in.nd) gs_nil))) (b_cons (s_set 7 sc__forms_in.nd (q_call (ok__form_of T) (hr.mono (by decide)) tk T.g__form_of T.F__form_of.kp T.b__form_of (l_cons (q_split (q_var 6) q_str) l_nil)))
    (b_cons (s_if (t_w (tw_or (t_is (q_var 7) q_non) (tw_or1 (t_w (tw_and (t_val (q_var 2)) (tw_and1 (t_eq hr.units (q_var 5) (q_sub (q_len T.n_len (l_cons (q_var 1) l_nil)) q_int)))))))) (b_one s_never) b_nil)
    (b_cons (s_set 8 sc__forms_in.nd (q_call (ok__fault_of T) (hr.mono (by decide)) tk T.g__fault_of T.F__fault_of.kp T.b__fault_of (l_cons (q_var 7) (l_cons (q_var 4) l_nil))))
    (b_cons (s_if (t_isnot (q_var 8) q_non) (b_one s_never) b_nil)
    (b_cons (s_putD (hu_of hr) (q_var 4) (q_sub_ix (q_var 7) q_int) q_bl)
    (b_one (s_expr (q_append (q_var 3) (q_var 7))))))))))
    (b_cons (s_expr (q_call (ok__check_from_wires T) (hr.mono (by decide)) tk T.g__check_from_wires T.F__check_from_wires.kp T.b__check_from_wires (l_cons (q_var 3) (l_cons (q_var 4) l_nil))))
    (b_one (s_ret (q_var 3)))))))))
theorem ok__giver_of (T : Txt K mg) : FnOk P w K mg base (L2.CX P w) 1 T.a__giver_of T.d__giver_of ["form"] (spM K mg 1 f__giver_of) := fn_m T.F__giver_of sc__giver_of fun cdv A outer s H E hr => by
  have tk := takes_of (X := cxOf (L2.CX P w) P w K mg base ["form"] "_giver_of" (defScope s__giver_of) T.a__giver_of cdv A outer s H E) (E := E) rfl rfl rfl rfl
  exact (b_one (s_ret (q_ite (t_eq hr.units (q_sub_ix (q_var 0) q_int) q_str) (q_sub_ix (q_sub_ix (q_var 0) q_int) q_int) (q_sub_ix (q_var 0) q_int))))
theorem ok__told_by (T : Txt K mg) : FnOk P w K mg base (L2.CX P w) 1 T.a__told_by T.d__told_by ["forms", "kind"] (spM K mg 2 f__told_by) := fn_m T.F__told_by sc__told_by fun cdv A outer s H E hr => by
  have tk := takes_of (X := cxOf (L2.CX P w) P w K mg base ["forms", "kind", "form"] "_told_by" (defScope s__told_by) T.a__told_by cdv A outer s H E) (E := E) rfl rfl rfl rfl
  exact (b_one (s_ret (q_lc [("form", 2)] sc__told_by.nd (i_val (q_var 0)) (blkOk_by (N := ["forms", "kind", "form"]) (sc := defScope s__told_by) (own := [("form", 2)]) (by decide +kernel)) (fun _ _ _ _ _ => (g_name 2 sc__told_by.nd)) (fun _ _ _ _ _ => (c_one (t_eq hr.units (q_sub_ix (q_var 2) q_int) (q_var 1)))) (fun _ _ _ _ _ => (q_sub_ix (q_var 2) q_int)))))
theorem ok_Circuit___init__ (T : Txt K mg) : FnOk P w K mg base (L2.CX P w) 6 T.a_Circuit___init__ T.d_Circuit___init__ ["self", "text"] (spM K mg 2 f_Circuit___init__) := fn_m T.F_Circuit___init__ sc_Circuit___init__ fun cdv A outer s H E hr => by
  have tk := takes_of (X := cxOf (L2.CX P w) P w K mg base ["self", "text", "forms", "form"] "Circuit.__init__" (defScope s_Circuit___init__) T.a_Circuit___init__ cdv A outer s H E) (E := E) rfl rfl rfl rfl
  exact (b_cons (s_set 2 sc_Circuit___init__.nd (q_call (ok__forms_in T) (hr.mono (by decide)) tk T.g__forms_in T.F__forms_in.kp T.b__forms_in (l_cons (q_var 1) l_nil)))
    (b_cons (s_fld T.gC_Circuit T.cl_Circuit T.na_Circuit__text (q_var 0) (q_var 1))
    (b_cons (s_fld T.gC_Circuit T.cl_Circuit T.na_Circuit__cells (q_var 0) (q_call (ok__told_by T) (hr.mono (by decide)) tk T.g__told_by T.F__told_by.kp T.b__told_by (l_cons (q_var 2) (l_cons q_str l_nil))))
    (b_cons (s_fld T.gC_Circuit T.cl_Circuit T.na_Circuit__ins (q_var 0) (q_call (ok__told_by T) (hr.mono (by decide)) tk T.g__told_by T.F__told_by.kp T.b__told_by (l_cons (q_var 2) (l_cons q_str l_nil))))
    (b_cons (s_fld T.gC_Circuit T.cl_Circuit T.na_Circuit__gates (q_var 0) (q_call (ok__told_by T) (hr.mono (by decide)) tk T.g__told_by T.F__told_by.kp T.b__told_by (l_cons (q_var 2) (l_cons q_str l_nil))))
    (b_cons (s_fld T.gC_Circuit T.cl_Circuit T.na_Circuit__opens (q_var 0) (q_call (ok__told_by T) (hr.mono (by decide)) tk T.g__told_by T.F__told_by.kp T.b__told_by (l_cons (q_var 2) (l_cons q_str l_nil))))
    (b_cons (s_fld T.gC_Circuit T.cl_Circuit T.na_Circuit__kinds (q_var 0) (q_dc [("form", 3)] sc_Circuit___init__.nd (i_val (q_var 2)) (blkOk_by (N := ["self", "text", "forms", "form"]) (sc := defScope s_Circuit___init__) (own := [("form", 3)]) (by decide +kernel)) (fun _ _ _ _ _ => (g_name 3 sc_Circuit___init__.nd)) (fun _ _ _ _ _ => (c_one (t_ne hr.units (q_sub_ix (q_var 3) q_int) q_str))) (fun _ _ _ _ _ => (q_sub_ix (q_var 3) q_int)) (fun _ _ _ _ _ => (q_call (ok__giver_of T) (hr.mono (by decide)) takes0 T.g__giver_of T.F__giver_of.kp T.b__giver_of (l_cons (q_var 3) l_nil)))))
    (b_cons (s_expr (q_call (ok__check_many T) (hr.mono (by decide)) tk T.g__check_many T.F__check_many.kp T.b__check_many (l_cons q_str (l_cons (q_len T.n_len (l_cons (q_fld T.gC_Circuit T.cl_Circuit T.na_Circuit__cells (q_var 0)) l_nil)) (l_cons (q_lit (pe_glob (by rfl) T.g_MOST_CELLS T.r_MOST_CELLS) T.v_MOST_CELLS) l_nil)))))
    (b_cons (s_expr (q_call (ok__check_many T) (hr.mono (by decide)) tk T.g__check_many T.F__check_many.kp T.b__check_many (l_cons q_str (l_cons (q_len T.n_len (l_cons (q_fld T.gC_Circuit T.cl_Circuit T.na_Circuit__ins (q_var 0)) l_nil)) (l_cons (q_lit (pe_glob (by rfl) T.g_MOST_INS T.r_MOST_INS) T.v_MOST_INS) l_nil)))))
    (b_cons (s_expr (q_call (ok__check_many T) (hr.mono (by decide)) tk T.g__check_many T.F__check_many.kp T.b__check_many (l_cons q_str (l_cons (q_len T.n_len (l_cons (q_fld T.gC_Circuit T.cl_Circuit T.na_Circuit__gates (q_var 0)) l_nil)) (l_cons (q_lit (pe_glob (by rfl) T.g_MOST_GATES T.r_MOST_GATES) T.v_MOST_GATES) l_nil)))))
    (b_one (s_expr (q_call (ok__check_many T) (hr.mono (by decide)) tk T.g__check_many T.F__check_many.kp T.b__check_many (l_cons q_str (l_cons (q_len T.n_len (l_cons (q_fld T.gC_Circuit T.cl_Circuit T.na_Circuit__opens (q_var 0)) l_nil)) (l_cons (q_lit (pe_glob (by rfl) T.g_MOST_OPENS T.r_MOST_OPENS) T.v_MOST_OPENS) l_nil))))))))))))))))
theorem ok__law_bag (T : Txt K mg) : FnOk P w K mg base (L2.CX P w) 1 T.a__law_bag T.d__law_bag ["script"] (spM K mg 1 f__law_bag) := fn_m T.F__law_bag sc__law_bag fun cdv A outer s H E hr => by
  have tk := takes_of (X := cxOf (L2.CX P w) P w K mg base ["script", "mix", "cell"] "_law_bag" (defScope s__law_bag) T.a__law_bag cdv A outer s H E) (E := E) rfl rfl rfl rfl
  exact (b_cons (s_set 1 sc__law_bag.nd q_int)
    (b_cons (s_for (passes_of rfl) (i_val (q_slice (q_var 0) p_none (p_some q_int))) (g_name 2 sc__law_bag.nd) (b_one (s_set 1 sc__law_bag.nd (q_mod (q_intc T.n_int (l_cons (q_add (q_add (q_mul (q_var 1) q_int) (q_mod (q_intc T.n_int (l_cons (q_var 2) l_nil)) q_int)) q_int) l_nil)) q_int))))
    (b_one (s_ret (q_lst (l_cons (q_listc T.n_list (l_cons (q_slice (q_var 0) p_none (p_some q_int)) l_nil)) (l_cons q_int (l_cons q_int (l_cons (q_var 1) (l_cons q_int l_nil))))))))))
theorem ok__law_draw (T : Txt K mg) : FnOk P w K mg base (L2.CX P w) 1 T.a__law_draw T.d__law_draw ["bag", "size"] (spM K mg 2 f__law_draw) := fn_m T.F__law_draw sc__law_draw fun cdv A outer s H E hr => by
  have tk := takes_of (X := cxOf (L2.CX P w) P w K mg base ["bag", "size", "cell", "digit", "seed"] "_law_draw" (defScope s__law_draw) T.a__law_draw cdv A outer s H E) (E := E) rfl rfl rfl rfl
  exact (b_cons (s_putL (q_var 0) q_int (q_add (q_sub_ix (q_var 0) q_int) q_int))
    (b_cons (s_if (t_w (tw_and (t_eq hr.units (q_sub_ix (q_var 0) q_int) q_int) (tw_and1 (t_lt (q_sub_ix (q_var 0) q_int) (q_len T.n_len (l_cons (q_sub_ix (q_var 0) q_int) l_nil)))))) (b_cons (s_set 2 sc__law_draw.nd (q_sub_ix (q_sub_ix (q_var 0) q_int) (q_sub_ix (q_var 0) q_int)))
    (b_cons (s_putL (q_var 0) q_int (q_add (q_sub_ix (q_var 0) q_int) q_int))
    (b_one (s_if (t_ge (q_var 2) (q_pow q_int q_int)) (b_one (s_putL (q_var 0) q_int (q_var 2))) (b_one (s_putL (q_var 0) q_int (q_mod (q_intc T.n_int (l_cons (q_add (q_add (q_mul (q_sub_ix (q_var 0) q_int) q_int) (q_mul (q_mod (q_intc T.n_int (l_cons (q_var 2) l_nil)) q_int) q_int)) q_int) l_nil)) q_int))))))) b_nil)
    (b_cons (s_if (t_gt (q_sub_ix (q_var 0) q_int) q_int) (b_cons (s_set 3 sc__law_draw.nd (q_mod (q_intc T.n_int (l_cons (q_sub_ix (q_var 0) q_int) l_nil)) (q_var 1)))
    (b_cons (s_putL (q_var 0) q_int (q_fdiv (q_sub_ix (q_var 0) q_int) (q_var 1)))
    (b_one (s_ret (q_var 3))))) b_nil)
    (b_cons (s_set 4 sc__law_draw.nd (q_intc T.n_int (l_cons (q_sub_ix (q_var 0) q_int) l_nil)))
    (b_cons (s_putL (q_var 0) q_int (q_mod (q_intc T.n_int (l_cons (q_add (q_add (q_add (q_pow (q_var 4) q_int) (q_mul (q_var 4) q_int)) (q_mul (q_sub_ix (q_var 0) q_int) q_int)) q_int) l_nil)) q_int))
    (b_one (s_ret (q_mod (q_intc T.n_int (l_cons (q_add (q_fdiv (q_sub_ix (q_var 0) q_int) q_int) (q_mul (q_mod (q_intc T.n_int (l_cons (q_sub_ix (q_var 0) q_int) l_nil)) q_int) q_int)) l_nil)) (q_var 1)))))))))
theorem ok__law_of (T : Txt K mg) : FnOk P w K mg base (L2.CX P w) 2 T.a__law_of T.d__law_of ["bag", "things"] (spM K mg 2 f__law_of) := fn_m T.F__law_of sc__law_of fun cdv A outer s H E hr => by
  have tk := takes_of (X := cxOf (L2.CX P w) P w K mg base ["bag", "things"] "_law_of" (defScope s__law_of) T.a__law_of cdv A outer s H E) (E := E) rfl rfl rfl rfl
  exact (b_one (s_ret (q_sub_ix (q_var 1) (q_call (ok__law_draw T) (hr.mono (by decide)) tk T.g__law_draw T.F__law_draw.kp T.b__law_draw (l_cons (q_var 0) (l_cons (q_len T.n_len (l_cons (q_var 1) l_nil)) l_nil))))))
theorem ok__law_changed (T : Txt K mg) : FnOk P w K mg base (L2.CX P w) 3 T.a__law_changed T.d__law_changed ["bag", "lines"] (spM K mg 2 f__law_changed) := fn_m T.F__law_changed sc__law_changed fun cdv A outer s H E hr => by
  have tk := takes_of (X := cxOf (L2.CX P w) P w K mg base ["bag", "lines", "spot", "found", "one", "known", "ahead", "line_z"] "_law_changed" (defScope s__law_changed) T.a__law_changed cdv A outer s H E) (E := E) rfl rfl rfl rfl
  exact (b_cons (s_par 2 3 sc__law_changed.nd (l_cons (q_call (ok__law_draw T) (hr.mono (by decide)) tk T.g__law_draw T.F__law_draw.kp T.b__law_draw (l_cons (q_var 0) (l_cons (q_len T.n_len (l_cons (q_var 1) l_nil)) l_nil))) (l_cons (q_listc T.n_list (l_cons (q_var 1) l_nil)) l_nil)))
    (b_cons (s_par 4 5 sc__law_changed.nd (l_cons (q_sub_ix (q_var 1) (q_var 2)) (l_cons (q_lc [("line_z", 7)] sc__law_changed.nd (i_val (q_var 1)) (blkOk_by (N := ["bag", "lines", "spot", "found", "one", "known", "ahead", "line_z"]) (sc := defScope s__law_changed) (own := [("line_z", 7)]) (by decide +kernel)) (fun _ _ _ _ _ => (g_name 7 sc__law_changed.nd)) (fun _ _ _ _ _ => (c_one (t_ne hr.units (q_sub_ix (q_var 7) q_int) q_str))) (fun _ _ _ _ _ => (q_sub_ix (q_var 7) q_int))) l_nil)))
    (b_cons (s_lc 6 [("line_z", 7)] sc__law_changed.nd (i_val (q_slice (q_var 1) p_none (p_some (q_var 2)))) (blkOk_by (N := ["bag", "lines", "spot", "found", "one", "known", "ahead", "line_z"]) (sc := defScope s__law_changed) (own := [("line_z", 7)]) (by decide +kernel)) (fun _ _ _ _ _ => (g_name 7 sc__law_changed.nd)) (fun _ _ _ _ _ => (c_one (t_ne hr.units (q_sub_ix (q_var 7) q_int) q_str))) (fun _ _ _ _ _ => (q_sub_ix (q_var 7) q_int)) (sw_true rfl rfl rfl (by decide +kernel)))
    (b_cons (s_if (t_w (tw_and (t_eq hr.units (q_sub_ix (q_var 4) q_int) q_str) (tw_and1 (t_eq hr.units (q_call (ok__law_draw T) (hr.mono (by decide)) tk T.g__law_draw T.F__law_draw.kp T.b__law_draw (l_cons (q_var 0) (l_cons q_int l_nil))) q_int)))) (b_one (s_putL (q_var 3) (q_var 2) (q_tup (l_cons q_str (l_cons (q_sub_ix (q_var 4) q_int) (l_cons (q_sub q_int (q_sub_ix (q_var 4) q_int)) (l_cons (q_sub_ix (q_var 4) q_int) l_nil))))))) (b_one (s_if (t_in (q_sub_ix (q_var 4) q_int) (q_tup (l_cons q_str (l_cons q_str l_nil)))) (b_one (s_putL (q_var 3) (q_var 2) (q_add (q_slice (q_var 4) p_none (p_some (q_neg q_int))) (q_tup (l_cons (q_call (ok__law_of T) (hr.mono (by decide)) tk T.g__law_of T.F__law_of.kp T.b__law_of (l_cons (q_var 0) (l_cons (q_var 5) l_nil))) l_nil))))) (b_one (s_if (t_eq hr.units (q_sub_ix (q_var 4) q_int) q_str) (b_one (s_putL (q_var 3) (q_var 2) (q_tup (l_cons q_str (l_cons (q_call (ok__law_of T) (hr.mono (by decide)) tk T.g__law_of T.F__law_of.kp T.b__law_of (l_cons (q_var 0) (l_cons (q_var 6) l_nil))) l_nil))))) (b_one (s_if (t_w (tw_and (t_eq hr.units (q_sub_ix (q_var 4) q_int) q_str) (tw_and1 (t_ne hr.units (q_sub_ix (q_var 4) q_int) q_str)))) (b_one (s_putL (q_var 3) (q_var 2) (q_tup (l_cons q_str (l_cons (q_sub_ix (q_var 4) q_int) (l_cons (q_call (ok__law_of T) (hr.mono (by decide)) tk T.g__law_of T.F__law_of.kp T.b__law_of (l_cons (q_var 0) (l_cons (q_lst (l_cons q_str (l_cons q_str l_nil))) l_nil))) (l_cons (q_call (ok__law_of T) (hr.mono (by decide)) tk T.g__law_of T.F__law_of.kp T.b__law_of (l_cons (q_var 0) (l_cons (q_var 6) l_nil))) (l_cons (q_call (ok__law_of T) (hr.mono (by decide)) tk T.g__law_of T.F__law_of.kp T.b__law_of (l_cons (q_var 0) (l_cons (q_var 6) l_nil))) l_nil)))))))) (b_one (s_set 3 sc__law_changed.nd (q_ite (t_eq hr.units (q_lc [("line_z", 7)] sc__law_changed.nd (i_val (q_var 1)) (blkOk_by (N := ["bag", "lines", "spot", "found", "one", "known", "ahead", "line_z"]) (sc := defScope s__law_changed) (own := [("line_z", 7)]) (by decide +kernel)) (fun _ _ _ _ _ => (g_name 7 sc__law_changed.nd)) (fun _ _ _ _ _ => (c_one (t_eq hr.units (q_sub_ix (q_var 7) q_int) q_str))) (fun _ _ _ _ _ => (q_var 7))) (q_lst l_nil)) (q_add (q_var 3) (q_lst (l_cons (q_tup (l_cons q_str (l_cons (q_sub_ix (q_var 4) q_int) l_nil))) l_nil))) (q_add (q_var 3) (q_lst (l_cons (q_tup (l_cons q_str (l_cons q_str (l_cons (q_sub_ix (q_var 4) q_int) l_nil)))) l_nil)))))))))))))
    (b_one (s_ret (q_var 3)))))))
theorem ok__law_grown (T : Txt K mg) : FnOk P w K mg base (L2.CX P w) 3 T.a__law_grown T.d__law_grown ["bag", "heads", "names"] (spM K mg 3 f__law_grown) := fn_m T.F__law_grown sc__law_grown fun cdv A outer s H E hr => by
  have tk := takes_of (X := cxOf (L2.CX P w) P w K mg base ["bag", "heads", "names", "found", "known", "k", "head", "kind", "a", "one"] "_law_grown" (defScope s__law_grown) T.a__law_grown cdv A outer s H E) (E := E) rfl rfl rfl rfl
  exact (b_cons (s_asg (g_tup (gs_cons (g_name 3 sc__law_grown.nd) (gs_cons (g_name 4 sc__law_grown.nd) (gs_cons (g_name 1 sc__law_grown.nd) gs_nil)))) (q_tup (l_cons (q_lst l_nil) (l_cons (q_lst l_nil) (l_cons (q_listc T.n_list (l_cons (q_var 1) l_nil)) l_nil)))))
    (b_cons (s_for (passes_of rfl) (i_range1 (q_len T.n_len (l_cons (q_var 1) l_nil)) T.n_range) (g_name 5 sc__law_grown.nd) (b_cons (s_set 6 sc__law_grown.nd (q_popAt (q_var 1) (q_call (ok__law_draw T) (hr.mono (by decide)) tk T.g__law_draw T.F__law_draw.kp T.b__law_draw (l_cons (q_var 0) (l_cons (q_len T.n_len (l_cons (q_var 1) l_nil)) l_nil)))))
    (b_cons (s_if (t_w (tw_and (t_eq hr.units (q_var 6) q_str) (tw_and1 (t_ne hr.units (q_var 4) (q_lst l_nil))))) (b_one (s_expr (q_append (q_var 3) (q_tup (l_cons q_str (l_cons (q_call (ok__law_of T) (hr.mono (by decide)) tk T.g__law_of T.F__law_of.kp T.b__law_of (l_cons (q_var 0) (l_cons (q_var 4) l_nil))) l_nil)))))) b_nil)
    (b_cons (s_if (t_w (tw_and (t_eq hr.units (q_var 6) q_str) (tw_and1 (t_ne hr.units (q_var 4) (q_lst l_nil))))) (b_cons (s_par 7 8 sc__law_grown.nd (l_cons (q_call (ok__law_of T) (hr.mono (by decide)) tk T.g__law_of T.F__law_of.kp T.b__law_of (l_cons (q_var 0) (l_cons (q_lst (l_cons q_str (l_cons q_str (l_cons q_str (l_cons q_str l_nil))))) l_nil))) (l_cons (q_call (ok__law_of T) (hr.mono (by decide)) tk T.g__law_of T.F__law_of.kp T.b__law_of (l_cons (q_var 0) (l_cons (q_var 4) l_nil))) l_nil)))
    (b_cons (s_expr (q_append (q_var 3) (q_tup (l_cons q_str (l_cons (q_sub_ix (q_var 2) (q_var 5)) (l_cons (q_var 7) (l_cons (q_var 8) (l_cons (q_ite (t_eq hr.units (q_var 7) q_str) q_non (q_call (ok__law_of T) (hr.mono (by decide)) tk T.g__law_of T.F__law_of.kp T.b__law_of (l_cons (q_var 0) (l_cons (q_var 4) l_nil)))) l_nil))))))))
    (b_one (s_set 4 sc__law_grown.nd (q_add (q_var 4) (q_lst (l_cons (q_sub_ix (q_var 2) (q_var 5)) l_nil))))))) b_nil)
    (b_one (s_if (t_in (q_var 6) (q_tup (l_cons q_str (l_cons q_str (l_cons q_str l_nil))))) (b_cons (s_expr (q_append (q_var 3) (q_ite (t_eq hr.units (q_var 6) q_str) (q_tup (l_cons q_str (l_cons (q_sub_ix (q_var 2) (q_var 5)) (l_cons (q_call (ok__law_draw T) (hr.mono (by decide)) tk T.g__law_draw T.F__law_draw.kp T.b__law_draw (l_cons (q_var 0) (l_cons q_int l_nil))) (l_cons q_str l_nil))))) (q_ite (t_eq hr.units (q_var 6) q_str) (q_tup (l_cons q_str (l_cons (q_sub_ix (q_var 2) (q_var 5)) (l_cons q_str l_nil)))) (q_tup (l_cons q_str (l_cons (q_sub_ix (q_var 2) (q_var 5)) l_nil)))))))
    (b_one (s_set 4 sc__law_grown.nd (q_add (q_var 4) (q_lst (l_cons (q_sub_ix (q_var 2) (q_var 5)) l_nil)))))) b_nil))))))
    (b_one (s_ret (q_lc [("one", 9)] sc__law_grown.nd (i_val (q_var 3)) (blkOk_by (N := ["bag", "heads", "names", "found", "known", "k", "head", "kind", "a", "one"]) (sc := defScope s__law_grown) (own := [("one", 9)]) (by decide +kernel)) (fun _ _ _ _ _ => (g_name 9 sc__law_grown.nd)) (fun _ _ _ _ _ => c_nil) (fun _ _ _ _ _ => (q_ite (t_in (q_sub_ix (q_var 9) q_int) (q_tup (l_cons q_str (l_cons q_str l_nil)))) (q_add (q_slice (q_var 9) p_none (p_some (q_neg q_int))) (q_tup (l_cons (q_call (ok__law_of T) (hr.mono (by decide)) takes0 T.g__law_of T.F__law_of.kp T.b__law_of (l_cons (q_var 0) (l_cons (q_var 4) l_nil))) l_nil))) (q_var 9))))))))
theorem ok_Circuit___contains__ (T : Txt K mg) : FnOk P w K mg base (L2.CX P w) 1 T.a_Circuit___contains__ T.d_Circuit___contains__ ["self", "value"] (spM K mg 2 f_Circuit___contains__) := fn_m T.F_Circuit___contains__ sc_Circuit___contains__ fun cdv A outer s H E hr => by
  have tk := takes_of (X := cxOf (L2.CX P w) P w K mg base ["self", "value"] "Circuit.__contains__" (defScope s_Circuit___contains__) T.a_Circuit___contains__ cdv A outer s H E) (E := E) rfl rfl rfl rfl
  exact (b_one (s_ret (q_and (q_isi T.n_isinstance (q_var 1) T.n_str bt_str) (q_one (q_din (hu_of hr) (q_var 1) (q_fld T.gC_Circuit T.cl_Circuit T.na_Circuit__kinds (q_var 0)))))))
theorem ok__law_like (T : Txt K mg) : ∀ k : Nat, FnOk P w K mg base (L2.CX P w) (0 + k) T.a__law_like T.d__law_like ["found", "due"] (spM K mg 2 (f__law_like k))
  | 0 => no_fuel (ps := ["found", "due"])
  | k + 1 => fn_m T.F__law_like sc__law_like fun cdv A outer s H E hr => by
    have tk := takes_of (X := cxOf (L2.CX P w) P w K mg base ["found", "due", "key", "one", "two"] "_law_like" (defScope s__law_like) T.a__law_like cdv A outer s H E) (E := E) rfl rfl rfl rfl
    have G := ok__law_like T k
    have hrG : Room (0 + k) _ := hr
    have hr : Room (0 + k) _ := hr
    exact (b_cons (s_if (t_w (tw_or (t_is (q_var 1) q_non) (tw_or1 (t_is (q_var 0) q_non)))) (b_one (s_ret (q_and (q_is (q_var 1) q_non) (q_one (q_is (q_var 0) q_non))))) b_nil)
    (b_cons (s_if (t_w (tw_or (t_val (q_isi T.n_isinstance (q_var 1) T.n_dict bt_dict)) (tw_or1 (t_val (q_isi T.n_isinstance (q_var 0) T.n_dict bt_dict))))) (b_cons (s_if (t_w (tw_or (t_not (t_val (q_isi T.n_isinstance (q_var 1) T.n_dict bt_dict))) (tw_or (t_not (t_val (q_isi T.n_isinstance (q_var 0) T.n_dict bt_dict))) (tw_or1 (t_ne hr.units (q_len T.n_len (l_cons (q_var 0) l_nil)) (q_len T.n_len (l_cons (q_var 1) l_nil))))))) (b_one (s_ret q_bl)) b_nil)
    (b_one s_never)) b_nil)
    (b_cons (s_if (t_val (q_isi2 T.n_isinstance (q_var 1) T.n_list bt_list T.n_tuple bt_tuple)) (b_cons (s_if (t_w (tw_or (t_ne hr.units (q_isi T.n_isinstance (q_var 0) T.n_list bt_list) (q_isi T.n_isinstance (q_var 1) T.n_list bt_list)) (tw_or1 (t_ne hr.units (q_isi T.n_isinstance (q_var 0) T.n_tuple bt_tuple) (q_isi T.n_isinstance (q_var 1) T.n_tuple bt_tuple))))) (b_one (s_ret q_bl)) b_nil)
    (b_one (s_ret (q_and (q_eq hr.units (q_len T.n_len (l_cons (q_var 0) l_nil)) (q_len T.n_len (l_cons (q_var 1) l_nil))) (q_one (q_all (by rfl) T.n_all (l_cons (q_lc [("one", 3), ("two", 4)] sc__law_like.nd (i_zip T.n_zip (l_cons (q_var 0) (l_cons (q_var 1) l_nil))) (blkOk_by (N := ["found", "due", "key", "one", "two"]) (sc := defScope s__law_like) (own := [("one", 3), ("two", 4)]) (by decide +kernel)) (fun _ _ _ _ _ => (g_tup (gs_cons (g_name 3 sc__law_like.nd) (gs_cons (g_name 4 sc__law_like.nd) gs_nil)))) (fun _ _ _ _ _ => c_nil) (fun _ _ _ _ _ => (q_call G hrG takes0 T.g__law_like T.F__law_like.kp T.b__law_like (l_cons (q_var 3) (l_cons (q_var 4) l_nil))))) l_nil))))))) b_nil)
    (b_cons (s_if (t_w (tw_or (t_val (q_isi2 T.n_isinstance (q_var 0) T.n_list bt_list T.n_tuple bt_tuple)) (tw_or1 (t_ne hr.units (q_isi T.n_isinstance (q_var 0) T.n_bool bt_bool) (q_isi T.n_isinstance (q_var 1) T.n_bool bt_bool))))) (b_one (s_ret q_bl)) b_nil)
    (b_cons (s_if (t_w (tw_or (t_ne hr.units (q_isi T.n_isinstance (q_var 0) T.n_str bt_str) (q_isi T.n_isinstance (q_var 1) T.n_str bt_str)) (tw_or1 (t_ne hr.units (q_isi T.n_isinstance (q_var 0) T.n_int bt_int) (q_isi T.n_isinstance (q_var 1) T.n_int bt_int))))) (b_one (s_ret q_bl)) b_nil)
    (b_one (s_ret (q_eq hr.units (q_var 0) (q_var 1)))))))))
theorem ok__law_barred (T : Txt K mg) : FnOk P w K mg base (L2.CX P w) 1 T.a__law_barred T.d__law_barred [] (spM K mg 0 f__law_barred) := fn_m T.F__law_barred sc__law_barred fun cdv A outer s H E hr => by
  have tk := takes_of (X := cxOf (L2.CX P w) P w K mg base [] "_law_barred" (defScope s__law_barred) T.a__law_barred cdv A outer s H E) (E := E) rfl rfl rfl rfl
  exact (b_one (s_ret (q_lst (l_cons q_str (l_cons q_str (l_cons q_str (l_cons q_str (l_cons q_str (l_cons q_str (l_cons q_str (l_cons q_str (l_cons q_str (l_cons q_str (l_cons q_str l_nil))))))))))))))
theorem ok__law_is_wire (T : Txt K mg) : FnOk P w K mg base (L2.CX P w) 2 T.a__law_is_wire T.d__law_is_wire ["piece"] (spM K mg 1 f__law_is_wire) := fn_m T.F__law_is_wire sc__law_is_wire fun cdv A outer s H E hr => by
  have tk := takes_of (X := cxOf (L2.CX P w) P w K mg base ["piece", "sign"] "_law_is_wire" (defScope s__law_is_wire) T.a__law_is_wire cdv A outer s H E) (E := E) rfl rfl rfl rfl
  exact (b_cons (s_if (t_w (tw_or (t_not (t_lele q_int (q_len T.n_len (l_cons (q_var 0) l_nil)) q_int)) (tw_or (t_in (q_var 0) (q_call0 (ok__law_barred T) (hr.mono (by decide)) tk T.g__law_barred T.F__law_barred.kp T.b__law_barred)) (tw_or1 (t_notin (q_sub_ix (q_var 0) q_int) q_str))))) (b_one (s_ret q_bl)) b_nil)
    (b_one (s_ret (q_eq hr.units (q_lc [("sign", 1)] sc__law_is_wire.nd (i_val (q_var 0)) (blkOk_by (N := ["piece", "sign"]) (sc := defScope s__law_is_wire) (own := [("sign", 1)]) (by decide +kernel)) (fun _ _ _ _ _ => (g_name 1 sc__law_is_wire.nd)) (fun _ _ _ _ _ => (c_one (t_notin (q_var 1) q_str))) (fun _ _ _ _ _ => (q_var 1))) (q_lst l_nil)))))
theorem ok__law_wire_names (T : Txt K mg) : FnOk P w K mg base (L2.CX P w) 3 T.a__law_wire_names T.d__law_wire_names ["bag", "many"] (spM K mg 2 f__law_wire_names) := fn_m T.F__law_wire_names sc__law_wire_names fun cdv A outer s H E hr => by
  have tk := takes_of (X := cxOf (L2.CX P w) P w K mg base ["bag", "many", "stem", "cut", "pool", "letter", "one", "k"] "_law_wire_names" (defScope s__law_wire_names) T.a__law_wire_names cdv A outer s H E) (E := E) rfl rfl rfl rfl
  exact (b_cons (s_set 2 sc__law_wire_names.nd (q_call (ok__law_of T) (hr.mono (by decide)) tk T.g__law_of T.F__law_of.kp T.b__law_of (l_cons (q_var 0) (l_cons (q_lst (l_cons q_str (l_cons q_str (l_cons q_str (l_cons q_str (l_cons q_str (l_cons q_str (l_cons q_str (l_cons q_str (l_cons q_str (l_cons q_str (l_cons q_str l_nil)))))))))))) l_nil))))
    (b_cons (s_if (t_eq hr.units (q_var 2) q_str) (b_one (s_set 2 sc__law_wire_names.nd (q_join q_str (q_lc [("k", 7)] sc__law_wire_names.nd (i_range1 (q_add q_int (q_call (ok__law_draw T) (hr.mono (by decide)) tk T.g__law_draw T.F__law_draw.kp T.b__law_draw (l_cons (q_var 0) (l_cons q_int l_nil)))) T.n_range) (blkOk_by (N := ["bag", "many", "stem", "cut", "pool", "letter", "one", "k"]) (sc := defScope s__law_wire_names) (own := [("k", 7)]) (by decide +kernel)) (fun _ _ _ _ _ => (g_name 7 sc__law_wire_names.nd)) (fun _ _ _ _ _ => c_nil) (fun _ _ _ _ _ => (q_call (ok__law_of T) (hr.mono (by decide)) takes0 T.g__law_of T.F__law_of.kp T.b__law_of (l_cons (q_var 0) (l_cons q_str l_nil)))))))) b_nil)
    (b_cons (s_asg (g_tup (gs_cons (g_name 3 sc__law_wire_names.nd) (gs_cons (g_name 4 sc__law_wire_names.nd) gs_nil))) (q_tup (l_cons (q_call (ok__law_draw T) (hr.mono (by decide)) tk T.g__law_draw T.F__law_draw.kp T.b__law_draw (l_cons (q_var 0) (l_cons (q_add (q_len T.n_len (l_cons (q_var 2) l_nil)) q_int) l_nil))) (l_cons (q_lst (l_cons q_str (l_cons q_str (l_cons q_str (l_cons q_str (l_cons q_str (l_cons q_str (l_cons q_str (l_cons q_str (l_cons q_str l_nil)))))))))) l_nil))))
    (b_cons (s_for (passes_of rfl) (i_val q_str) (g_name 5 sc__law_wire_names.nd) (b_cons (s_set 6 sc__law_wire_names.nd (q_add (q_add (q_slice (q_var 2) p_none (p_some (q_var 3))) (q_var 5)) (q_slice (q_var 2) (p_some (q_var 3)) p_none)))
    (b_one (s_if (t_w (tw_and (t_val (q_call (ok__law_is_wire T) (hr.mono (by decide)) tk T.g__law_is_wire T.F__law_is_wire.kp T.b__law_is_wire (l_cons (q_var 6) l_nil))) (tw_and1 (t_notin (q_var 6) (q_var 4))))) (b_one (s_expr (q_append (q_var 4) (q_var 6)))) b_nil))))
    (b_cons (s_for (passes_of rfl) (i_range1 q_int T.n_range) (g_name 7 sc__law_wire_names.nd) (b_one (s_if (t_w (tw_and (t_lt (q_len T.n_len (l_cons (q_var 4) l_nil)) q_int) (tw_and1 (t_notin (q_add q_str (q_strc T.n_str (l_cons (q_var 7) l_nil))) (q_var 4))))) (b_one (s_expr (q_append (q_var 4) (q_add q_str (q_strc T.n_str (l_cons (q_var 7) l_nil)))))) b_nil)))
    (b_one (s_ret (q_lc [("k", 7)] sc__law_wire_names.nd (i_range1 (q_var 1) T.n_range) (blkOk_by (N := ["bag", "many", "stem", "cut", "pool", "letter", "one", "k"]) (sc := defScope s__law_wire_names) (own := [("k", 7)]) (by decide +kernel)) (fun _ _ _ _ _ => (g_name 7 sc__law_wire_names.nd)) (fun _ _ _ _ _ => c_nil) (fun _ _ _ _ _ => (q_popAt (q_var 4) (q_call (ok__law_draw T) (hr.mono (by decide)) takes0 T.g__law_draw T.F__law_draw.kp T.b__law_draw (l_cons (q_var 0) (l_cons (q_len T.n_len (l_cons (q_var 4) l_nil)) l_nil)))))))))))))
theorem ok__law_in_so (T : Txt K mg) : FnOk P w K mg base (L2.CX P w) 9 T.a__law_in_so T.d__law_in_so ["bag", "made", "lines"] (spM K mg 3 f__law_in_so) := fn_m T.F__law_in_so sc__law_in_so fun cdv A outer s H E hr => by
  have tk := takes_of (X := cxOf (L2.CX P w) P w K mg base ["bag", "made", "lines", "known", "drawn", "some", "one", "thing", "due"] "_law_in_so" (defScope s__law_in_so) T.a__law_in_so cdv A outer s H E) (E := E) rfl rfl rfl rfl
  exact (b_cons (s_lc 3 [("one", 6)] sc__law_in_so.nd (i_val (q_var 2)) (blkOk_by (N := ["bag", "made", "lines", "known", "drawn", "some", "one", "thing", "due"]) (sc := defScope s__law_in_so) (own := [("one", 6)]) (by decide +kernel)) (fun _ _ _ _ _ => (g_name 6 sc__law_in_so.nd)) (fun _ _ _ _ _ => (c_one (t_ne hr.units (q_sub_ix (q_var 6) q_int) q_str))) (fun _ _ _ _ _ => (q_sub_ix (q_var 6) q_int)) (sw_true rfl rfl rfl (by decide +kernel)))
    (b_cons (s_set 4 sc__law_in_so.nd (q_call (ok__law_wire_names T) (hr.mono (by decide)) tk T.g__law_wire_names T.F__law_wire_names.kp T.b__law_wire_names (l_cons (q_var 0) (l_cons q_int l_nil))))
    (b_cons (s_set 5 sc__law_in_so.nd (q_add (q_var 4) (q_lst (l_cons q_non (l_cons q_bl (l_cons q_int (l_cons q_int (l_cons q_str (l_cons q_str (l_cons q_str (l_cons (q_tup l_nil) (l_cons (q_lst l_nil) (l_cons (q_lst (l_cons q_str l_nil)) (l_cons (q_tup (l_cons q_str l_nil)) (l_cons q_dnew (l_cons (q_disp (d_cons q_str q_int d_nil)) l_nil))))))))))))))))
    (b_cons (s_if (t_ne hr.units (q_var 3) (q_lst l_nil)) (b_cons (s_set 6 sc__law_in_so.nd (q_call (ok__law_of T) (hr.mono (by decide)) tk T.g__law_of T.F__law_of.kp T.b__law_of (l_cons (q_var 0) (l_cons (q_var 3) l_nil))))
    (b_one (s_set 5 sc__law_in_so.nd (q_add (q_var 5) (q_lst (l_cons (q_lst (l_cons (q_var 6) l_nil)) (l_cons (q_tup (l_cons (q_var 6) l_nil)) (l_cons (q_add (q_var 6) q_str) (l_cons (q_add (q_var 6) q_str) (l_cons (q_slice (q_var 6) p_none (p_some (q_neg q_int))) (l_cons (q_add (q_var 6) (q_var 6)) (l_cons (q_upper (q_var 6)) (l_cons (q_disp (d_cons (q_var 6) (q_var 6) d_nil)) l_nil))))))))))))) b_nil)
    (b_cons (s_for (passes_of rfl) (i_val (q_var 5)) (g_name 7 sc__law_in_so.nd) (b_cons (s_set 8 sc__law_in_so.nd (q_and (q_isi T.n_isinstance (q_var 7) T.n_str bt_str) (q_one (q_in (q_var 7) (q_var 3)))))
    (b_one (s_if (t_not (t_val (q_call (ok__law_like T 8) (hr.mono (by decide)) tk T.g__law_like T.F__law_like.kp T.b__law_like (l_cons (q_lst (l_cons (q_inO T.gC_Circuit T.sp_Circuit___contains__ T.fn_Circuit___contains__ (ok_Circuit___contains__ T) (hr.mono (by decide)) T.b_Circuit___contains__ (q_var 7) (q_var 1)) (l_cons (q_notinO T.gC_Circuit T.sp_Circuit___contains__ T.fn_Circuit___contains__ (ok_Circuit___contains__ T) (hr.mono (by decide)) T.b_Circuit___contains__ (q_var 7) (q_var 1)) l_nil))) (l_cons (q_lst (l_cons (q_var 8) (l_cons (q_not (q_var 8)) l_nil))) l_nil))))) (b_one (s_ret q_bl)) b_nil))))
    (b_one (s_ret q_bl)))))))
theorem ok__law_other_order (T : Txt K mg) : FnOk P w K mg base (L2.CX P w) 3 T.a__law_other_order T.d__law_other_order ["bag", "lines"] (spM K mg 2 f__law_other_order) := fn_m T.F__law_other_order sc__law_other_order fun cdv A outer s H E hr => by
  have tk := takes_of (X := cxOf (L2.CX P w) P w K mg base ["bag", "lines", "left", "found", "known", "k", "free", "one", "spot"] "_law_other_order" (defScope s__law_other_order) T.a__law_other_order cdv A outer s H E) (E := E) rfl rfl rfl rfl
  exact (b_cons (s_asg (g_tup (gs_cons (g_name 2 sc__law_other_order.nd) (gs_cons (g_name 3 sc__law_other_order.nd) (gs_cons (g_name 4 sc__law_other_order.nd) gs_nil)))) (q_tup (l_cons (q_listc T.n_list (l_cons (q_var 1) l_nil)) (l_cons (q_lst l_nil) (l_cons (q_lst l_nil) l_nil)))))
    (b_cons (s_for (passes_of rfl) (i_range1 (q_len T.n_len (l_cons (q_var 1) l_nil)) T.n_range) (g_name 5 sc__law_other_order.nd) (b_cons (s_lc 6 [("one", 7)] sc__law_other_order.nd (i_val (q_var 2)) (blkOk_by (N := ["bag", "lines", "left", "found", "known", "k", "free", "one", "spot"]) (sc := defScope s__law_other_order) (own := [("one", 7)]) (by decide +kernel)) (fun _ _ _ _ _ => (g_name 7 sc__law_other_order.nd)) (fun _ _ _ _ _ => (c_one (t_w (tw_or (t_in (q_sub_ix (q_var 7) q_int) (q_tup (l_cons q_str (l_cons q_str (l_cons q_str l_nil))))) (tw_or (t_w (tw_and (t_eq hr.units (q_sub_ix (q_var 7) q_int) q_str) (tw_and1 (t_in (q_sub_ix (q_var 7) q_int) (q_var 4))))) (tw_or1 (t_w (tw_and (t_eq hr.units (q_sub_ix (q_var 7) q_int) q_str) (tw_and (t_in (q_sub_ix (q_var 7) q_int) (q_var 4)) (tw_and1 (t_w (tw_or (t_is (q_sub_ix (q_var 7) q_int) q_non) (tw_or1 (t_in (q_sub_ix (q_var 7) q_int) (q_var 4))))))))))))))) (fun _ _ _ _ _ => (q_var 7)) (sw_true rfl rfl rfl (by decide +kernel)))
    (b_cons (s_set 7 sc__law_other_order.nd (q_call (ok__law_of T) (hr.mono (by decide)) tk T.g__law_of T.F__law_of.kp T.b__law_of (l_cons (q_var 0) (l_cons (q_var 6) l_nil))))
    (b_cons (s_set 8 sc__law_other_order.nd (q_index (hu65 hr) (q_var 2) (q_var 7)))
    (b_cons (s_set 2 sc__law_other_order.nd (q_add (q_slice (q_var 2) p_none (p_some (q_var 8))) (q_slice (q_var 2) (p_some (q_add (q_var 8) q_int)) p_none)))
    (b_cons (s_expr (q_append (q_var 3) (q_var 7)))
    (b_one (s_set 4 sc__law_other_order.nd (q_add (q_var 4) (q_ite (t_ne hr.units (q_sub_ix (q_var 7) q_int) q_str) (q_lst (l_cons (q_sub_ix (q_var 7) q_int) l_nil)) (q_lst l_nil)))))))))))
    (b_one (s_ret (q_var 3)))))
theorem ok__law_wire_line (T : Txt K mg) : FnOk P w K mg base (L2.CX P w) 1 T.a__law_wire_line T.d__law_wire_line ["one"] (spM K mg 1 f__law_wire_line) := fn_m T.F__law_wire_line sc__law_wire_line fun cdv A outer s H E hr => by
  have tk := takes_of (X := cxOf (L2.CX P w) P w K mg base ["one"] "_law_wire_line" (defScope s__law_wire_line) T.a__law_wire_line cdv A outer s H E) (E := E) rfl rfl rfl rfl
  exact (b_cons (s_if (t_eq hr.units (q_sub_ix (q_var 0) q_int) q_str) (b_one (s_ret (q_add (q_add (q_add q_str (q_sub_ix (q_var 0) q_int)) q_str) (q_sub_ix (q_var 0) q_int)))) b_nil)
    (b_cons (s_if (t_eq hr.units (q_sub_ix (q_var 0) q_int) q_str) (b_one (s_ret (q_add (q_add (q_add (q_add (q_add q_str (q_sub_ix (q_var 0) q_int)) q_str) (q_strc T.n_str (l_cons (q_sub_ix (q_var 0) q_int) l_nil))) q_str) (q_sub_ix (q_var 0) q_int)))) b_nil)
    (b_cons (s_if (t_eq hr.units (q_sub_ix (q_var 0) q_int) q_str) (b_one (s_ret (q_add (q_sub_ix (q_var 0) q_int) (q_ite (t_eq hr.units (q_sub_ix (q_var 0) q_int) q_str) (q_add q_str (q_sub_ix (q_var 0) q_int)) (q_add (q_add (q_add (q_add (q_add q_str (q_sub_ix (q_var 0) q_int)) q_str) (q_sub_ix (q_var 0) q_int)) q_str) (q_sub_ix (q_var 0) q_int)))))) b_nil)
    (b_one (s_ret (q_add (q_add (q_sub_ix (q_var 0) q_int) q_str) (q_sub_ix (q_var 0) q_int)))))))
theorem ok__law_text_of (T : Txt K mg) : FnOk P w K mg base (L2.CX P w) 2 T.a__law_text_of T.d__law_text_of ["lines"] (spM K mg 1 f__law_text_of) := fn_m T.F__law_text_of sc__law_text_of fun cdv A outer s H E hr => by
  have tk := takes_of (X := cxOf (L2.CX P w) P w K mg base ["lines", "one"] "_law_text_of" (defScope s__law_text_of) T.a__law_text_of cdv A outer s H E) (E := E) rfl rfl rfl rfl
  exact (b_one (s_ret (q_join q_str (q_lc [("one", 1)] sc__law_text_of.nd (i_val (q_var 0)) (blkOk_by (N := ["lines", "one"]) (sc := defScope s__law_text_of) (own := [("one", 1)]) (by decide +kernel)) (fun _ _ _ _ _ => (g_name 1 sc__law_text_of.nd)) (fun _ _ _ _ _ => c_nil) (fun _ _ _ _ _ => (q_add (q_call (ok__law_wire_line T) (hr.mono (by decide)) takes0 T.g__law_wire_line T.F__law_wire_line.kp T.b__law_wire_line (l_cons (q_var 1) l_nil)) q_str))))))
theorem ok_Circuit___repr__ (T : Txt K mg) : FnOk P w K mg base (L2.CX P w) 1 T.a_Circuit___repr__ T.d_Circuit___repr__ ["self"] (spM K mg 1 f_Circuit___repr__) := fn_m T.F_Circuit___repr__ sc_Circuit___repr__ fun cdv A outer s H E hr => by
  have tk := takes_of (X := cxOf (L2.CX P w) P w K mg base ["self"] "Circuit.__repr__" (defScope s_Circuit___repr__) T.a_Circuit___repr__ cdv A outer s H E) (E := E) rfl rfl rfl rfl
  exact (b_one (s_ret (q_joined (.cons q_str (.cons (q_fmt (q_len T.n_len (l_cons (q_fld T.gC_Circuit T.cl_Circuit T.na_Circuit__cells (q_var 0)) l_nil))) (.cons q_str (.cons (q_fmt (q_len T.n_len (l_cons (q_fld T.gC_Circuit T.cl_Circuit T.na_Circuit__ins (q_var 0)) l_nil))) (.cons q_str (.cons (q_fmt (q_len T.n_len (l_cons (q_fld T.gC_Circuit T.cl_Circuit T.na_Circuit__gates (q_var 0)) l_nil))) (.cons q_str .nil))))))))))
theorem ok_Circuit___str__ (T : Txt K mg) : FnOk P w K mg base (L2.CX P w) 1 T.a_Circuit___str__ T.d_Circuit___str__ ["self"] (spM K mg 1 f_Circuit___str__) := fn_m T.F_Circuit___str__ sc_Circuit___str__ fun cdv A outer s H E hr => by
  have tk := takes_of (X := cxOf (L2.CX P w) P w K mg base ["self"] "Circuit.__str__" (defScope s_Circuit___str__) T.a_Circuit___str__ cdv A outer s H E) (E := E) rfl rfl rfl rfl
  exact (b_one (s_ret (q_strc T.n_str (l_cons (q_fld T.gC_Circuit T.cl_Circuit T.na_Circuit__text (q_var 0)) l_nil))))
theorem ok_Circuit_cells (T : Txt K mg) : FnOk P w K mg base (L2.CX P w) 1 T.a_Circuit_cells T.d_Circuit_cells ["self"] (spM K mg 1 f_Circuit_cells) := fn_m T.F_Circuit_cells sc_Circuit_cells fun cdv A outer s H E hr => by
  have tk := takes_of (X := cxOf (L2.CX P w) P w K mg base ["self"] "Circuit.cells" (defScope s_Circuit_cells) T.a_Circuit_cells cdv A outer s H E) (E := E) rfl rfl rfl rfl
  exact (b_one (s_ret (q_listc T.n_list (l_cons (q_fld T.gC_Circuit T.cl_Circuit T.na_Circuit__cells (q_var 0)) l_nil))))
theorem ok_Circuit_gates (T : Txt K mg) : FnOk P w K mg base (L2.CX P w) 1 T.a_Circuit_gates T.d_Circuit_gates ["self"] (spM K mg 1 f_Circuit_gates) := fn_m T.F_Circuit_gates sc_Circuit_gates fun cdv A outer s H E hr => by
  have tk := takes_of (X := cxOf (L2.CX P w) P w K mg base ["self"] "Circuit.gates" (defScope s_Circuit_gates) T.a_Circuit_gates cdv A outer s H E) (E := E) rfl rfl rfl rfl
  exact (b_one (s_ret (q_listc T.n_list (l_cons (q_fld T.gC_Circuit T.cl_Circuit T.na_Circuit__gates (q_var 0)) l_nil))))
theorem ok_Circuit_ins (T : Txt K mg) : FnOk P w K mg base (L2.CX P w) 1 T.a_Circuit_ins T.d_Circuit_ins ["self"] (spM K mg 1 f_Circuit_ins) := fn_m T.F_Circuit_ins sc_Circuit_ins fun cdv A outer s H E hr => by
  have tk := takes_of (X := cxOf (L2.CX P w) P w K mg base ["self"] "Circuit.ins" (defScope s_Circuit_ins) T.a_Circuit_ins cdv A outer s H E) (E := E) rfl rfl rfl rfl
  exact (b_one (s_ret (q_listc T.n_list (l_cons (q_fld T.gC_Circuit T.cl_Circuit T.na_Circuit__ins (q_var 0)) l_nil))))
theorem ok_Circuit_opens (T : Txt K mg) : FnOk P w K mg base (L2.CX P w) 1 T.a_Circuit_opens T.d_Circuit_opens ["self"] (spM K mg 1 f_Circuit_opens) := fn_m T.F_Circuit_opens sc_Circuit_opens fun cdv A outer s H E hr => by
  have tk := takes_of (X := cxOf (L2.CX P w) P w K mg base ["self"] "Circuit.opens" (defScope s_Circuit_opens) T.a_Circuit_opens cdv A outer s H E) (E := E) rfl rfl rfl rfl
  exact (b_one (s_ret (q_listc T.n_list (l_cons (q_fld T.gC_Circuit T.cl_Circuit T.na_Circuit__opens (q_var 0)) l_nil))))
theorem ok_Circuit_secret_cells (T : Txt K mg) : FnOk P w K mg base (L2.CX P w) 1 T.a_Circuit_secret_cells T.d_Circuit_secret_cells ["self"] (spM K mg 1 f_Circuit_secret_cells) := fn_m T.F_Circuit_secret_cells sc_Circuit_secret_cells fun cdv A outer s H E hr => by
  have tk := takes_of (X := cxOf (L2.CX P w) P w K mg base ["self", "cell"] "Circuit.secret_cells" (defScope s_Circuit_secret_cells) T.a_Circuit_secret_cells cdv A outer s H E) (E := E) rfl rfl rfl rfl
  exact (b_one (s_ret (q_lc [("cell", 1)] sc_Circuit_secret_cells.nd (i_val (q_fld T.gC_Circuit T.cl_Circuit T.na_Circuit__cells (q_var 0))) (blkOk_by (N := ["self", "cell"]) (sc := defScope s_Circuit_secret_cells) (own := [("cell", 1)]) (by decide +kernel)) (fun _ _ _ _ _ => (g_name 1 sc_Circuit_secret_cells.nd)) (fun _ _ _ _ _ => (c_one (t_is (q_sub_ix (q_var 1) q_int) q_non))) (fun _ _ _ _ _ => (q_sub_ix (q_var 1) q_int)))))
theorem ok_Circuit_text (T : Txt K mg) : FnOk P w K mg base (L2.CX P w) 1 T.a_Circuit_text T.d_Circuit_text ["self"] (spM K mg 1 f_Circuit_text) := fn_m T.F_Circuit_text sc_Circuit_text fun cdv A outer s H E hr => by
  have tk := takes_of (X := cxOf (L2.CX P w) P w K mg base ["self"] "Circuit.text" (defScope s_Circuit_text) T.a_Circuit_text cdv A outer s H E) (E := E) rfl rfl rfl rfl
  exact (b_one (s_ret (q_fld T.gC_Circuit T.cl_Circuit T.na_Circuit__text (q_var 0))))
theorem ok_Circuit_wires (T : Txt K mg) : FnOk P w K mg base (L2.CX P w) 1 T.a_Circuit_wires T.d_Circuit_wires ["self"] (spM K mg 1 f_Circuit_wires) := fn_m T.F_Circuit_wires sc_Circuit_wires fun cdv A outer s H E hr => by
  have tk := takes_of (X := cxOf (L2.CX P w) P w K mg base ["self"] "Circuit.wires" (defScope s_Circuit_wires) T.a_Circuit_wires cdv A outer s H E) (E := E) rfl rfl rfl rfl
  exact (b_one (s_ret (q_listD rfl T.n_list (l_cons (q_fld T.gC_Circuit T.cl_Circuit T.na_Circuit__kinds (q_var 0)) l_nil))))
theorem ok__law_told_so (T : Txt K mg) : FnOk P w K mg base (L2.CX P w) 9 T.a__law_told_so T.d__law_told_so ["made", "lines", "given"] (spM K mg 3 f__law_told_so) := fn_m T.F__law_told_so sc__law_told_so fun cdv A outer s H E hr => by
  have tk := takes_of (X := cxOf (L2.CX P w) P w K mg base ["made", "lines", "given", "cells", "secrets", "ins_now", "gates_now", "opened", "wires_now", "short", "lap", "told", "one"] "_law_told_so" (defScope s__law_told_so) T.a__law_told_so cdv A outer s H E) (E := E) rfl rfl rfl rfl
  exact (b_cons (s_lc 3 [("one", 12)] sc__law_told_so.nd (i_val (q_var 1)) (blkOk_by (N := ["made", "lines", "given", "cells", "secrets", "ins_now", "gates_now", "opened", "wires_now", "short", "lap", "told", "one"]) (sc := defScope s__law_told_so) (own := [("one", 12)]) (by decide +kernel)) (fun _ _ _ _ _ => (g_name 12 sc__law_told_so.nd)) (fun _ _ _ _ _ => (c_one (t_in (q_sub_ix (q_var 12) q_int) (q_tup (l_cons q_str (l_cons q_str l_nil)))))) (fun _ _ _ _ _ => (q_ite (t_eq hr.units (q_sub_ix (q_var 12) q_int) q_str) (q_tup (l_cons (q_sub_ix (q_var 12) q_int) (l_cons (q_sub_ix (q_var 12) q_int) (l_cons (q_sub_ix (q_var 12) q_int) l_nil)))) (q_tup (l_cons (q_sub_ix (q_var 12) q_int) (l_cons q_non (l_cons (q_sub_ix (q_var 12) q_int) l_nil)))))) (sw_true rfl rfl rfl (by decide +kernel)))
    (b_cons (s_par 4 5 sc__law_told_so.nd (l_cons (q_lc [("one", 12)] sc__law_told_so.nd (i_val (q_var 1)) (blkOk_by (N := ["made", "lines", "given", "cells", "secrets", "ins_now", "gates_now", "opened", "wires_now", "short", "lap", "told", "one"]) (sc := defScope s__law_told_so) (own := [("one", 12)]) (by decide +kernel)) (fun _ _ _ _ _ => (g_name 12 sc__law_told_so.nd)) (fun _ _ _ _ _ => (c_one (t_eq hr.units (q_sub_ix (q_var 12) q_int) q_str))) (fun _ _ _ _ _ => (q_sub_ix (q_var 12) q_int))) (l_cons (q_lc [("one", 12)] sc__law_told_so.nd (i_val (q_var 1)) (blkOk_by (N := ["made", "lines", "given", "cells", "secrets", "ins_now", "gates_now", "opened", "wires_now", "short", "lap", "told", "one"]) (sc := defScope s__law_told_so) (own := [("one", 12)]) (by decide +kernel)) (fun _ _ _ _ _ => (g_name 12 sc__law_told_so.nd)) (fun _ _ _ _ _ => (c_one (t_eq hr.units (q_sub_ix (q_var 12) q_int) q_str))) (fun _ _ _ _ _ => (q_sub_ix (q_var 12) q_int))) l_nil)))
    (b_cons (s_par 6 7 sc__law_told_so.nd (l_cons (q_lc [("one", 12)] sc__law_told_so.nd (i_val (q_var 1)) (blkOk_by (N := ["made", "lines", "given", "cells", "secrets", "ins_now", "gates_now", "opened", "wires_now", "short", "lap", "told", "one"]) (sc := defScope s__law_told_so) (own := [("one", 12)]) (by decide +kernel)) (fun _ _ _ _ _ => (g_name 12 sc__law_told_so.nd)) (fun _ _ _ _ _ => (c_one (t_eq hr.units (q_sub_ix (q_var 12) q_int) q_str))) (fun _ _ _ _ _ => (q_slice (q_var 12) (p_some q_int) p_none))) (l_cons (q_lc [("one", 12)] sc__law_told_so.nd (i_val (q_var 1)) (blkOk_by (N := ["made", "lines", "given", "cells", "secrets", "ins_now", "gates_now", "opened", "wires_now", "short", "lap", "told", "one"]) (sc := defScope s__law_told_so) (own := [("one", 12)]) (by decide +kernel)) (fun _ _ _ _ _ => (g_name 12 sc__law_told_so.nd)) (fun _ _ _ _ _ => (c_one (t_eq hr.units (q_sub_ix (q_var 12) q_int) q_str))) (fun _ _ _ _ _ => (q_sub_ix (q_var 12) q_int))) l_nil)))
    (b_cons (s_lc 8 [("one", 12)] sc__law_told_so.nd (i_val (q_var 1)) (blkOk_by (N := ["made", "lines", "given", "cells", "secrets", "ins_now", "gates_now", "opened", "wires_now", "short", "lap", "told", "one"]) (sc := defScope s__law_told_so) (own := [("one", 12)]) (by decide +kernel)) (fun _ _ _ _ _ => (g_name 12 sc__law_told_so.nd)) (fun _ _ _ _ _ => (c_one (t_ne hr.units (q_sub_ix (q_var 12) q_int) q_str))) (fun _ _ _ _ _ => (q_sub_ix (q_var 12) q_int)) (sw_true rfl rfl rfl (by decide +kernel)))
    (b_cons (s_set 9 sc__law_told_so.nd (q_add (q_add (q_add (q_add (q_add (q_add q_str (q_strc T.n_str (l_cons (q_len T.n_len (l_cons (q_var 3) l_nil)) l_nil))) q_str) (q_strc T.n_str (l_cons (q_len T.n_len (l_cons (q_var 5) l_nil)) l_nil))) q_str) (q_strc T.n_str (l_cons (q_len T.n_len (l_cons (q_var 6) l_nil)) l_nil))) q_str))
    (b_cons (s_for (passes_of rfl) (i_range1 q_int T.n_range) (g_name 10 sc__law_told_so.nd) (b_cons (s_set 11 sc__law_told_so.nd (q_lst (l_cons (q_meth0 T.gC_Circuit T.cl_Circuit T.me_Circuit_cells (ok_Circuit_cells T) (hr.mono (by decide)) tk T.b_Circuit_cells .nil (fun _ _ => .nil) (q_var 0)) (l_cons (q_meth0 T.gC_Circuit T.cl_Circuit T.me_Circuit_secret_cells (ok_Circuit_secret_cells T) (hr.mono (by decide)) tk T.b_Circuit_secret_cells .nil (fun _ _ => .nil) (q_var 0)) (l_cons (q_meth0 T.gC_Circuit T.cl_Circuit T.me_Circuit_ins (ok_Circuit_ins T) (hr.mono (by decide)) tk T.b_Circuit_ins .nil (fun _ _ => .nil) (q_var 0)) (l_cons (q_meth0 T.gC_Circuit T.cl_Circuit T.me_Circuit_gates (ok_Circuit_gates T) (hr.mono (by decide)) tk T.b_Circuit_gates .nil (fun _ _ => .nil) (q_var 0)) (l_cons (q_meth0 T.gC_Circuit T.cl_Circuit T.me_Circuit_opens (ok_Circuit_opens T) (hr.mono (by decide)) tk T.b_Circuit_opens .nil (fun _ _ => .nil) (q_var 0)) (l_cons (q_meth0 T.gC_Circuit T.cl_Circuit T.me_Circuit_wires (ok_Circuit_wires T) (hr.mono (by decide)) tk T.b_Circuit_wires .nil (fun _ _ => .nil) (q_var 0)) l_nil))))))))
    (b_cons (s_if (t_not (t_val (q_call (ok__law_like T 8) (hr.mono (by decide)) tk T.g__law_like T.F__law_like.kp T.b__law_like (l_cons (q_var 11) (l_cons (q_lst (l_cons (q_var 3) (l_cons (q_var 4) (l_cons (q_var 5) (l_cons (q_var 6) (l_cons (q_var 7) (l_cons (q_var 8) l_nil))))))) l_nil))))) (b_one (s_ret q_bl)) b_nil)
    (b_cons (s_if (t_not (t_val (q_call (ok__law_like T 8) (hr.mono (by decide)) tk T.g__law_like T.F__law_like.kp T.b__law_like (l_cons (q_lst (l_cons (q_meth0 T.gC_Circuit T.cl_Circuit T.me_Circuit_text (ok_Circuit_text T) (hr.mono (by decide)) tk T.b_Circuit_text .nil (fun _ _ => .nil) (q_var 0)) (l_cons (q_strO T.gC_Circuit T.sp_Circuit___str__ T.fn_Circuit___str__ (ok_Circuit___str__ T) (hr.mono (by decide)) T.b_Circuit___str__ T.n_str (l_cons (q_var 0) l_nil)) (l_cons (q_reprO T.gC_Circuit T.sp_Circuit___repr__ T.fn_Circuit___repr__ (ok_Circuit___repr__ T) (hr.mono (by decide)) T.b_Circuit___repr__ T.n_repr (l_cons (q_var 0) l_nil)) l_nil)))) (l_cons (q_lst (l_cons (q_var 2) (l_cons (q_var 2) (l_cons (q_var 9) l_nil)))) l_nil))))) (b_one (s_ret q_bl)) b_nil)
    (b_one (s_for (passes_of rfl) (i_val (q_var 11)) (g_name 12 sc__law_told_so.nd) (b_cons (s_expr (q_reverse (q_var 12)))
    (b_one (s_expr (q_append (q_var 12) q_str))))))))))
    (b_one (s_ret (q_call (ok__law_like T 8) (hr.mono (by decide)) tk T.g__law_like T.F__law_like.kp T.b__law_like (l_cons (q_lc [("one", 12)] sc__law_told_so.nd (i_val (q_var 8)) (blkOk_by (N := ["made", "lines", "given", "cells", "secrets", "ins_now", "gates_now", "opened", "wires_now", "short", "lap", "told", "one"]) (sc := defScope s__law_told_so) (own := [("one", 12)]) (by decide +kernel)) (fun _ _ _ _ _ => (g_name 12 sc__law_told_so.nd)) (fun _ _ _ _ _ => c_nil) (fun _ _ _ _ _ => (q_inO T.gC_Circuit T.sp_Circuit___contains__ T.fn_Circuit___contains__ (ok_Circuit___contains__ T) (hr.mono (by decide)) T.b_Circuit___contains__ (q_var 12) (q_var 0)))) (l_cons (q_lc [("one", 12)] sc__law_told_so.nd (i_val (q_var 8)) (blkOk_by (N := ["made", "lines", "given", "cells", "secrets", "ins_now", "gates_now", "opened", "wires_now", "short", "lap", "told", "one"]) (sc := defScope s__law_told_so) (own := [("one", 12)]) (by decide +kernel)) (fun _ _ _ _ _ => (g_name 12 sc__law_told_so.nd)) (fun _ _ _ _ _ => c_nil) (fun _ _ _ _ _ => q_bl)) l_nil)))))))))))
theorem ok_law (T : Txt K mg) : FnOk P w K mg base (L2.CX P w) 10 T.a_law T.d_law ["script"] (spM K mg 1 f_law) := fn_m T.F_law sc_law fun cdv A outer s H E hr => by
  have tk := takes_of (X := cxOf (L2.CX P w) P w K mg base ["script", "bag", "kept", "lap", "heads", "lines", "turn", "given", "made", "one", "other"] "law" (defScope s_law) T.a_law cdv A outer s H E) (E := E) rfl rfl rfl rfl
  exact (b_cons (s_set 1 sc_law.nd (q_call (ok__law_bag T) (hr.mono (by decide)) tk T.g__law_bag T.F__law_bag.kp T.b__law_bag (l_cons (q_var 0) l_nil)))
    (b_cons (s_set 2 sc_law.nd (q_lst l_nil))
    (b_cons (s_for (passes_of rfl) (i_range1 q_int T.n_range) (g_name 3 sc_law.nd) (b_cons (s_set 4 sc_law.nd (q_add (q_add (q_mul (q_lst (l_cons q_str l_nil)) (q_call (ok__law_draw T) (hr.mono (by decide)) tk T.g__law_draw T.F__law_draw.kp T.b__law_draw (l_cons (q_var 1) (l_cons q_int l_nil)))) (q_mul (q_lst (l_cons q_str l_nil)) (q_call (ok__law_draw T) (hr.mono (by decide)) tk T.g__law_draw T.F__law_draw.kp T.b__law_draw (l_cons (q_var 1) (l_cons q_int l_nil))))) (q_mul (q_lst (l_cons q_str l_nil)) (q_call (ok__law_draw T) (hr.mono (by decide)) tk T.g__law_draw T.F__law_draw.kp T.b__law_draw (l_cons (q_var 1) (l_cons q_int l_nil))))))
    (b_cons (s_set 4 sc_law.nd (q_add (q_add (q_var 4) (q_mul (q_lst (l_cons q_str l_nil)) (q_call (ok__law_of T) (hr.mono (by decide)) tk T.g__law_of T.F__law_of.kp T.b__law_of (l_cons (q_var 1) (l_cons (q_lst (l_cons q_int (l_cons q_int (l_cons q_int (l_cons q_int (l_cons q_int l_nil)))))) l_nil))))) (q_mul (q_lst (l_cons q_str l_nil)) (q_call (ok__law_draw T) (hr.mono (by decide)) tk T.g__law_draw T.F__law_draw.kp T.b__law_draw (l_cons (q_var 1) (l_cons q_int l_nil))))))
    (b_cons (s_set 5 sc_law.nd (q_call (ok__law_grown T) (hr.mono (by decide)) tk T.g__law_grown T.F__law_grown.kp T.b__law_grown (l_cons (q_var 1) (l_cons (q_var 4) (l_cons (q_call (ok__law_wire_names T) (hr.mono (by decide)) tk T.g__law_wire_names T.F__law_wire_names.kp T.b__law_wire_names (l_cons (q_var 1) (l_cons q_int l_nil))) l_nil)))))
    (b_one (s_for (passes_of rfl) (i_range1 q_int T.n_range) (g_name 6 sc_law.nd) (b_cons (s_set 7 sc_law.nd (q_call (ok__law_text_of T) (hr.mono (by decide)) tk T.g__law_text_of T.F__law_text_of.kp T.b__law_text_of (l_cons (q_var 5) l_nil)))
    (b_cons (s_expr (q_append (q_var 2) (q_tup (l_cons (q_ite (t_eq hr.units (q_var 6) q_int) (q_make T.gC_Circuit T.mk_Circuit (ok_Circuit___init__ T) (hr.mono (by decide)) tk T.b_Circuit___init__ .nil (fun _ _ => .nil) (l_cons (q_var 7) l_nil)) (q_makeK T.gC_Circuit T.mk_Circuit (ok_Circuit___init__ T) (hr.mono (by decide)) tk T.kb_Circuit___init__ (k_cons (q_var 7) k_nil))) (l_cons (q_var 5) (l_cons (q_var 7) l_nil))))))
    (b_one (s_if (t_ne hr.units (q_var 5) (q_lst l_nil)) (b_one (s_set 5 sc_law.nd (q_ite (t_eq hr.units (q_var 6) q_int) (q_call (ok__law_other_order T) (hr.mono (by decide)) tk T.g__law_other_order T.F__law_other_order.kp T.b__law_other_order (l_cons (q_var 1) (l_cons (q_var 5) l_nil))) (q_call (ok__law_changed T) (hr.mono (by decide)) tk T.g__law_changed T.F__law_changed.kp T.b__law_changed (l_cons (q_var 1) (l_cons (q_var 5) l_nil)))))) b_nil))))))))))
    (b_cons (s_expr (q_append (q_var 2) (q_tup (l_cons (q_make T.gC_Circuit T.mk_Circuit (ok_Circuit___init__ T) (hr.mono (by decide)) tk T.b_Circuit___init__ .nil (fun _ _ => .nil) (l_cons q_str l_nil)) (l_cons (q_lst l_nil) (l_cons q_str l_nil))))))
    (b_cons (s_for (passes_of rfl) (i_val (q_var 2)) (g_tup (gs_cons (g_name 8 sc_law.nd) (gs_cons (g_name 5 sc_law.nd) (gs_cons (g_name 7 sc_law.nd) gs_nil)))) (b_one (s_if (t_w (tw_or (t_not (t_val (q_call (ok__law_told_so T) (hr.mono (by decide)) tk T.g__law_told_so T.F__law_told_so.kp T.b__law_told_so (l_cons (q_var 8) (l_cons (q_var 5) (l_cons (q_var 7) l_nil)))))) (tw_or1 (t_not (t_val (q_call (ok__law_in_so T) (hr.mono (by decide)) tk T.g__law_in_so T.F__law_in_so.kp T.b__law_in_so (l_cons (q_var 1) (l_cons (q_var 8) (l_cons (q_var 5) l_nil))))))))) (b_one (s_ret q_bl)) b_nil)))
    (b_cons (s_for (passes_of rfl) (i_range1 q_int T.n_range) (g_name 3 sc_law.nd) (b_cons (s_par 9 10 sc_law.nd (l_cons (q_call (ok__law_of T) (hr.mono (by decide)) tk T.g__law_of T.F__law_of.kp T.b__law_of (l_cons (q_var 1) (l_cons (q_var 2) l_nil))) (l_cons (q_call (ok__law_of T) (hr.mono (by decide)) tk T.g__law_of T.F__law_of.kp T.b__law_of (l_cons (q_var 1) (l_cons (q_var 2) l_nil))) l_nil)))
    (b_one (s_if (t_not (t_val (q_call (ok__law_like T 8) (hr.mono (by decide)) tk T.g__law_like T.F__law_like.kp T.b__law_like (l_cons (q_lst (l_cons (q_eqO T.gC_Circuit T.sp_Circuit___eq__ T.fn_Circuit___eq__ (ok_Circuit___eq__ T) (hr.mono (by decide)) T.b_Circuit___eq__ (q_sub_ix (q_var 9) q_int) (q_sub_ix (q_var 10) q_int)) (l_cons (q_neO T.gC_Circuit T.ne_Circuit T.mo_Circuit T.sp_Circuit___eq__ T.fn_Circuit___eq__ (ok_Circuit___eq__ T) (hr.mono (by decide)) T.b_Circuit___eq__ (q_sub_ix (q_var 9) q_int) (q_sub_ix (q_var 10) q_int)) (l_cons (q_eqO T.gC_Circuit T.sp_Circuit___eq__ T.fn_Circuit___eq__ (ok_Circuit___eq__ T) (hr.mono (by decide)) T.b_Circuit___eq__ (q_make T.gC_Circuit T.mk_Circuit (ok_Circuit___init__ T) (hr.mono (by decide)) tk T.b_Circuit___init__ .nil (fun _ _ => .nil) (l_cons (q_sub_ix (q_var 9) q_int) l_nil)) (q_sub_ix (q_var 9) q_int)) l_nil)))) (l_cons (q_lst (l_cons (q_eq hr.units (q_sub_ix (q_var 9) q_int) (q_sub_ix (q_var 10) q_int)) (l_cons (q_ne hr.units (q_sub_ix (q_var 9) q_int) (q_sub_ix (q_var 10) q_int)) (l_cons q_bl l_nil)))) l_nil))))) (b_one (s_ret q_bl)) b_nil))))
    (b_one (s_ret (q_call (ok__law_like T 8) (hr.mono (by decide)) tk T.g__law_like T.F__law_like.kp T.b__law_like (l_cons (q_lst (l_cons (q_eqO T.gC_Circuit T.sp_Circuit___eq__ T.fn_Circuit___eq__ (ok_Circuit___eq__ T) (hr.mono (by decide)) T.b_Circuit___eq__ (q_sub_ix (q_sub_ix (q_var 2) q_int) q_int) (q_sub_ix (q_sub_ix (q_var 2) q_int) q_int)) (l_cons (q_eqO T.gC_Circuit T.sp_Circuit___eq__ T.fn_Circuit___eq__ (ok_Circuit___eq__ T) (hr.mono (by decide)) T.b_Circuit___eq__ (q_sub_ix (q_sub_ix (q_var 2) q_int) q_int) q_non) (l_cons (q_eqO T.gC_Circuit T.sp_Circuit___eq__ T.fn_Circuit___eq__ (ok_Circuit___eq__ T) (hr.mono (by decide)) T.b_Circuit___eq__ (q_sub_ix (q_sub_ix (q_var 2) q_int) q_int) (q_sub_ix (q_sub_ix (q_var 2) q_int) q_int)) l_nil)))) (l_cons (q_lst (l_cons q_bl (l_cons q_bl (l_cons q_bl l_nil)))) l_nil)))))))))))
end
end K10

namespace Mo
open PySem PySem.Spec PyProof.Rows L2
/-! ### texts as lists of signs; split undoes join -/
def lS (s : Str) : List Nat := s.cps.toList
theorem lS_ext : ∀ {s t : Str}, lS s = lS t → s = t
  | ⟨a⟩, ⟨b⟩, h => congrArg Str.mk (Array.toList_inj.mp h)
theorem lS_app {s t : Str} : lS (s ++ t) = lS s ++ lS t := Array.toList_append
theorem lS_len {s : Str} : s.length = (lS s).length := by simp [lS, Str.length]
def gl (c : List Nat) : List (List Nat) → List Nat
  | [] => []
  | [x] => x
  | x :: y :: r => x ++ c ++ gl c (y :: r)
theorem lS_join (c : Str) (xs : List Str) : lS (Txt.join c xs) = gl (lS c) (xs.map lS) := by
  have key : ∀ (rest : List Str) (a : List Nat) (acc : Array Nat), acc.toList = a → (rest.foldl (fun acc p => acc ++ c.cps ++ p.cps) acc).toList = gl (lS c) (a :: rest.map lS) := fun rest => by
    induction rest with
    | nil => intro a acc e; exact e
    | cons y rest ih =>
      intro a acc e
      rw [List.foldl_cons, ih (a ++ lS c ++ lS y) _ (by simp [e, lS])]
      cases rest with
      | nil => simp [gl]
      | cons z r => simp [gl, List.append_assoc]
  show ((xs.drop 1).foldl (fun acc p => acc ++ c.cps ++ p.cps) (xs.headD Str.empty).cps).toList = _
  cases xs with
  | nil => rfl
  | cons x r => exact key r _ _ rfl
theorem gl_cons2 {c x : List Nat} {l : List (List Nat)} (h : l ≠ []) : gl c (x :: l) = x ++ c ++ gl c l := by
  cases l with
  | nil => exact absurd rfl h
  | cons y r => rfl
theorem lS_sj (c : Str) : ∀ xs : List Str, lS (Str.join c xs) = gl (lS c) (xs.map lS)
  | [] => rfl
  | [x] => by rw [Str.join.eq_2]; rfl
  | x :: y :: r => by
    rw [Str.join.eq_3 _ _ _ (by simp), lS_app, lS_app, lS_sj c (y :: r)]; rfl
theorem cut_uniq {c : Nat} : ∀ {a b r s : List Nat}, c ∉ a → c ∉ b → a ++ c :: r = b ++ c :: s → a = b ∧ r = s
  | [], [], r, s, _, _, e => ⟨rfl, (List.cons.inj e).2⟩
  | [], y :: b, r, s, _, h, e => absurd ((List.cons.inj e).1 ▸ List.mem_cons_self ..) h
  | x :: a, [], r, s, h, _, e => absurd ((List.cons.inj e).1 ▸ List.mem_cons_self ..) h
  | x :: a, y :: b, r, s, h, k, e => by
    have ⟨e1, e2⟩ := List.cons.inj e
    have ⟨f1, f2⟩ := cut_uniq (fun z => h (List.mem_cons_of_mem _ z)) (fun z => k (List.mem_cons_of_mem _ z)) e2
    exact ⟨by rw [e1, f1], f2⟩
theorem gl_uniq {c : Nat} : ∀ {xs ys : List (List Nat)}, xs ≠ [] → ys ≠ [] → (∀ x ∈ xs, c ∉ x) → (∀ x ∈ ys, c ∉ x) → gl [c] xs = gl [c] ys → xs = ys
  | [], _, h, _, _, _, _ => absurd rfl h
  | _ :: _, [], _, h, _, _, _ => absurd rfl h
  | [x], [y], _, _, _, _, e => by rw [show x = y from e]
  | [x], y :: z :: r, _, _, h, _, e => by
    refine absurd ?_ (h x (by simp))
    rw [show x = y ++ [c] ++ gl [c] (z :: r) from e]; simp
  | x :: z :: r, [y], _, _, _, h, e => by
    refine absurd ?_ (h y (by simp))
    rw [show y = x ++ [c] ++ gl [c] (z :: r) from e.symm]; simp
  | x :: x2 :: r, y :: y2 :: s, _, _, h, k, e => by
    have e' : x ++ c :: gl [c] (x2 :: r) = y ++ c :: gl [c] (y2 :: s) := by simpa [gl] using e
    have ⟨f1, f2⟩ := cut_uniq (h x (by simp)) (k y (by simp)) e'
    rw [f1, gl_uniq (by simp) (by simp) (fun z hz => h z (List.mem_cons_of_mem _ hz)) (fun z hz => k z (List.mem_cons_of_mem _ hz)) f2]
theorem split_ne (x y : Str) : Txt.split x y ≠ [] := by
  unfold Txt.split
  split
  · simp
  · split
    · simp
    · intro z
      have := congrArg List.length z
      rw [length_partsBetween] at this
      simp at this
theorem split_join {c : Nat} {ws : List Str} (h0 : ws ≠ []) (h : ∀ w ∈ ws, c ∉ lS w) : Txt.split (Txt.join ⟨#[c]⟩ ws) ⟨#[c]⟩ = ws := by
  have e := StrLaws.join_split (Txt.join ⟨#[c]⟩ ws) ⟨#[c]⟩
  have e2 : gl [c] ((Txt.split (Txt.join ⟨#[c]⟩ ws) ⟨#[c]⟩).map lS) = gl [c] (ws.map lS) := by
    have := congrArg lS e
    rw [lS_sj, lS_join] at this
    exact this
  have e3 := gl_uniq (by simpa using split_ne _ _) (by simpa using h0) (fun x hx => by
    obtain ⟨p, hp, rfl⟩ := List.mem_map.mp hx
    exact StrLaws.split_free _ c p hp) (fun x hx => by
    obtain ⟨p, hp, rfl⟩ := List.mem_map.mp hx
    exact h p hp) e2
  have inj : ∀ {a b : List Str}, a.map lS = b.map lS → a = b := fun {a} => by
    induction a with
    | nil => intro b e; cases b with
      | nil => rfl
      | cons => cases e
    | cons x a ih => intro b e; cases b with
      | nil => cases e
      | cons y b => rw [lS_ext (List.cons.inj e).1, ih (List.cons.inj e).2]
  exact inj e3
end Mo

namespace K10
open PySem PySem.Spec PyProof.Rows L2 Mo
/-! ### names and lines -/
def abcS : Str := Str.ofString "abcdefghijklmnopqrstuvwxyz"
def a9S : Str := Str.ofString "abcdefghijklmnopqrstuvwxyz0123456789"
def barred : List Str := [Str.ofString "and", Str.ofString "cell", Str.ofString "coin", Str.ofString "from", Str.ofString "in", Str.ofString "not", Str.ofString "open", Str.ofString "out", Str.ofString "piece", Str.ofString "secret", Str.ofString "xor"]
structure Nm (s : Str) : Prop where
  hd : ∃ c r, lS s = c :: r ∧ c ∈ lS abcS
  all : ∀ c ∈ lS s, c ∈ lS a9S
  len : s.length ≤ 8
  nb : s ∉ barred
theorem signs_ok : (∀ c ∈ lS a9S, c < 0x110000 ∧ c ≠ 32 ∧ c ≠ 10) ∧ (∀ c ∈ lS abcS, c ≠ 61 ∧ c ≠ 48 ∧ c ≠ 49) := by decide +kernel
theorem Nm.pos {s : Str} (h : Nm s) : 1 ≤ s.length := by
  obtain ⟨c, r, e, _⟩ := h.hd
  rw [lS_len, e]; simp
theorem Nm.ne {s : Str} (h : Nm s) {t : Str} (ht : t ∈ barred) : (s = t) = False := eq_false fun e => h.nb (e ▸ ht)
theorem Nm.neh {s : Str} (h : Nm s) {t : Str} (ht : ((lS t).head?.all fun c => !decide (c ∈ lS abcS)) = true) : (s = t) = False := eq_false fun e => by
  obtain ⟨c, r, e1, e2⟩ := h.hd
  rw [← e, e1] at ht
  simp at ht
  exact ht e2
@[simp] theorem k_0_1 : (Str.ofString "" = Str.ofString "secret") = False := eq_false (by decide +kernel)
@[simp] theorem k_0_2 : (Str.ofString "" = Str.ofString "cell") = False := eq_false (by decide +kernel)
@[simp] theorem k_0_3 : (Str.ofString "" = Str.ofString "in") = False := eq_false (by decide +kernel)
@[simp] theorem k_0_4 : (Str.ofString "" = Str.ofString "open") = False := eq_false (by decide +kernel)
@[simp] theorem k_0_5 : (Str.ofString "" = Str.ofString "gate") = False := eq_false (by decide +kernel)
@[simp] theorem k_0_6 : (Str.ofString "" = Str.ofString "from") = False := eq_false (by decide +kernel)
@[simp] theorem k_0_7 : (Str.ofString "" = Str.ofString "=") = False := eq_false (by decide +kernel)
@[simp] theorem k_0_8 : (Str.ofString "" = Str.ofString "not") = False := eq_false (by decide +kernel)
@[simp] theorem k_0_9 : (Str.ofString "" = Str.ofString "and") = False := eq_false (by decide +kernel)
@[simp] theorem k_0_10 : (Str.ofString "" = Str.ofString "xor") = False := eq_false (by decide +kernel)
@[simp] theorem k_0_11 : (Str.ofString "" = Str.ofString "0") = False := eq_false (by decide +kernel)
@[simp] theorem k_0_12 : (Str.ofString "" = Str.ofString "1") = False := eq_false (by decide +kernel)
@[simp] theorem k_1_0 : (Str.ofString "secret" = Str.ofString "") = False := eq_false (by decide +kernel)
@[simp] theorem k_1_2 : (Str.ofString "secret" = Str.ofString "cell") = False := eq_false (by decide +kernel)
@[simp] theorem k_1_3 : (Str.ofString "secret" = Str.ofString "in") = False := eq_false (by decide +kernel)
@[simp] theorem k_1_4 : (Str.ofString "secret" = Str.ofString "open") = False := eq_false (by decide +kernel)
@[simp] theorem k_1_5 : (Str.ofString "secret" = Str.ofString "gate") = False := eq_false (by decide +kernel)
@[simp] theorem k_1_6 : (Str.ofString "secret" = Str.ofString "from") = False := eq_false (by decide +kernel)
@[simp] theorem k_1_7 : (Str.ofString "secret" = Str.ofString "=") = False := eq_false (by decide +kernel)
@[simp] theorem k_1_8 : (Str.ofString "secret" = Str.ofString "not") = False := eq_false (by decide +kernel)
@[simp] theorem k_1_9 : (Str.ofString "secret" = Str.ofString "and") = False := eq_false (by decide +kernel)
@[simp] theorem k_1_10 : (Str.ofString "secret" = Str.ofString "xor") = False := eq_false (by decide +kernel)
@[simp] theorem k_1_11 : (Str.ofString "secret" = Str.ofString "0") = False := eq_false (by decide +kernel)
@[simp] theorem k_1_12 : (Str.ofString "secret" = Str.ofString "1") = False := eq_false (by decide +kernel)
@[simp] theorem k_2_0 : (Str.ofString "cell" = Str.ofString "") = False := eq_false (by decide +kernel)
@[simp] theorem k_2_1 : (Str.ofString "cell" = Str.ofString "secret") = False := eq_false (by decide +kernel)
@[simp] theorem k_2_3 : (Str.ofString "cell" = Str.ofString "in") = False := eq_false (by decide +kernel)
@[simp] theorem k_2_4 : (Str.ofString "cell" = Str.ofString "open") = False := eq_false (by decide +kernel)
@[simp] theorem k_2_5 : (Str.ofString "cell" = Str.ofString "gate") = False := eq_false (by decide +kernel)
@[simp] theorem k_2_6 : (Str.ofString "cell" = Str.ofString "from") = False := eq_false (by decide +kernel)
@[simp] theorem k_2_7 : (Str.ofString "cell" = Str.ofString "=") = False := eq_false (by decide +kernel)
@[simp] theorem k_2_8 : (Str.ofString "cell" = Str.ofString "not") = False := eq_false (by decide +kernel)
@[simp] theorem k_2_9 : (Str.ofString "cell" = Str.ofString "and") = False := eq_false (by decide +kernel)
@[simp] theorem k_2_10 : (Str.ofString "cell" = Str.ofString "xor") = False := eq_false (by decide +kernel)
@[simp] theorem k_2_11 : (Str.ofString "cell" = Str.ofString "0") = False := eq_false (by decide +kernel)
@[simp] theorem k_2_12 : (Str.ofString "cell" = Str.ofString "1") = False := eq_false (by decide +kernel)
@[simp] theorem k_3_0 : (Str.ofString "in" = Str.ofString "") = False := eq_false (by decide +kernel)
@[simp] theorem k_3_1 : (Str.ofString "in" = Str.ofString "secret") = False := eq_false (by decide +kernel)
@[simp] theorem k_3_2 : (Str.ofString "in" = Str.ofString "cell") = False := eq_false (by decide +kernel)
@[simp] theorem k_3_4 : (Str.ofString "in" = Str.ofString "open") = False := eq_false (by decide +kernel)
@[simp] theorem k_3_5 : (Str.ofString "in" = Str.ofString "gate") = False := eq_false (by decide +kernel)
@[simp] theorem k_3_6 : (Str.ofString "in" = Str.ofString "from") = False := eq_false (by decide +kernel)
@[simp] theorem k_3_7 : (Str.ofString "in" = Str.ofString "=") = False := eq_false (by decide +kernel)
@[simp] theorem k_3_8 : (Str.ofString "in" = Str.ofString "not") = False := eq_false (by decide +kernel)
@[simp] theorem k_3_9 : (Str.ofString "in" = Str.ofString "and") = False := eq_false (by decide +kernel)
@[simp] theorem k_3_10 : (Str.ofString "in" = Str.ofString "xor") = False := eq_false (by decide +kernel)
@[simp] theorem k_3_11 : (Str.ofString "in" = Str.ofString "0") = False := eq_false (by decide +kernel)
@[simp] theorem k_3_12 : (Str.ofString "in" = Str.ofString "1") = False := eq_false (by decide +kernel)
@[simp] theorem k_4_0 : (Str.ofString "open" = Str.ofString "") = False := eq_false (by decide +kernel)
@[simp] theorem k_4_1 : (Str.ofString "open" = Str.ofString "secret") = False := eq_false (by decide +kernel)
@[simp] theorem k_4_2 : (Str.ofString "open" = Str.ofString "cell") = False := eq_false (by decide +kernel)
@[simp] theorem k_4_3 : (Str.ofString "open" = Str.ofString "in") = False := eq_false (by decide +kernel)
@[simp] theorem k_4_5 : (Str.ofString "open" = Str.ofString "gate") = False := eq_false (by decide +kernel)
@[simp] theorem k_4_6 : (Str.ofString "open" = Str.ofString "from") = False := eq_false (by decide +kernel)
@[simp] theorem k_4_7 : (Str.ofString "open" = Str.ofString "=") = False := eq_false (by decide +kernel)
@[simp] theorem k_4_8 : (Str.ofString "open" = Str.ofString "not") = False := eq_false (by decide +kernel)
@[simp] theorem k_4_9 : (Str.ofString "open" = Str.ofString "and") = False := eq_false (by decide +kernel)
@[simp] theorem k_4_10 : (Str.ofString "open" = Str.ofString "xor") = False := eq_false (by decide +kernel)
@[simp] theorem k_4_11 : (Str.ofString "open" = Str.ofString "0") = False := eq_false (by decide +kernel)
@[simp] theorem k_4_12 : (Str.ofString "open" = Str.ofString "1") = False := eq_false (by decide +kernel)
@[simp] theorem k_5_0 : (Str.ofString "gate" = Str.ofString "") = False := eq_false (by decide +kernel)
@[simp] theorem k_5_1 : (Str.ofString "gate" = Str.ofString "secret") = False := eq_false (by decide +kernel)
@[simp] theorem k_5_2 : (Str.ofString "gate" = Str.ofString "cell") = False := eq_false (by decide +kernel)
@[simp] theorem k_5_3 : (Str.ofString "gate" = Str.ofString "in") = False := eq_false (by decide +kernel)
@[simp] theorem k_5_4 : (Str.ofString "gate" = Str.ofString "open") = False := eq_false (by decide +kernel)
@[simp] theorem k_5_6 : (Str.ofString "gate" = Str.ofString "from") = False := eq_false (by decide +kernel)
@[simp] theorem k_5_7 : (Str.ofString "gate" = Str.ofString "=") = False := eq_false (by decide +kernel)
@[simp] theorem k_5_8 : (Str.ofString "gate" = Str.ofString "not") = False := eq_false (by decide +kernel)
@[simp] theorem k_5_9 : (Str.ofString "gate" = Str.ofString "and") = False := eq_false (by decide +kernel)
@[simp] theorem k_5_10 : (Str.ofString "gate" = Str.ofString "xor") = False := eq_false (by decide +kernel)
@[simp] theorem k_5_11 : (Str.ofString "gate" = Str.ofString "0") = False := eq_false (by decide +kernel)
@[simp] theorem k_5_12 : (Str.ofString "gate" = Str.ofString "1") = False := eq_false (by decide +kernel)
@[simp] theorem k_6_0 : (Str.ofString "from" = Str.ofString "") = False := eq_false (by decide +kernel)
@[simp] theorem k_6_1 : (Str.ofString "from" = Str.ofString "secret") = False := eq_false (by decide +kernel)
@[simp] theorem k_6_2 : (Str.ofString "from" = Str.ofString "cell") = False := eq_false (by decide +kernel)
@[simp] theorem k_6_3 : (Str.ofString "from" = Str.ofString "in") = False := eq_false (by decide +kernel)
@[simp] theorem k_6_4 : (Str.ofString "from" = Str.ofString "open") = False := eq_false (by decide +kernel)
@[simp] theorem k_6_5 : (Str.ofString "from" = Str.ofString "gate") = False := eq_false (by decide +kernel)
@[simp] theorem k_6_7 : (Str.ofString "from" = Str.ofString "=") = False := eq_false (by decide +kernel)
@[simp] theorem k_6_8 : (Str.ofString "from" = Str.ofString "not") = False := eq_false (by decide +kernel)
@[simp] theorem k_6_9 : (Str.ofString "from" = Str.ofString "and") = False := eq_false (by decide +kernel)
@[simp] theorem k_6_10 : (Str.ofString "from" = Str.ofString "xor") = False := eq_false (by decide +kernel)
@[simp] theorem k_6_11 : (Str.ofString "from" = Str.ofString "0") = False := eq_false (by decide +kernel)
@[simp] theorem k_6_12 : (Str.ofString "from" = Str.ofString "1") = False := eq_false (by decide +kernel)
@[simp] theorem k_7_0 : (Str.ofString "=" = Str.ofString "") = False := eq_false (by decide +kernel)
@[simp] theorem k_7_1 : (Str.ofString "=" = Str.ofString "secret") = False := eq_false (by decide +kernel)
@[simp] theorem k_7_2 : (Str.ofString "=" = Str.ofString "cell") = False := eq_false (by decide +kernel)
@[simp] theorem k_7_3 : (Str.ofString "=" = Str.ofString "in") = False := eq_false (by decide +kernel)
@[simp] theorem k_7_4 : (Str.ofString "=" = Str.ofString "open") = False := eq_false (by decide +kernel)
@[simp] theorem k_7_5 : (Str.ofString "=" = Str.ofString "gate") = False := eq_false (by decide +kernel)
@[simp] theorem k_7_6 : (Str.ofString "=" = Str.ofString "from") = False := eq_false (by decide +kernel)
@[simp] theorem k_7_8 : (Str.ofString "=" = Str.ofString "not") = False := eq_false (by decide +kernel)
@[simp] theorem k_7_9 : (Str.ofString "=" = Str.ofString "and") = False := eq_false (by decide +kernel)
@[simp] theorem k_7_10 : (Str.ofString "=" = Str.ofString "xor") = False := eq_false (by decide +kernel)
@[simp] theorem k_7_11 : (Str.ofString "=" = Str.ofString "0") = False := eq_false (by decide +kernel)
@[simp] theorem k_7_12 : (Str.ofString "=" = Str.ofString "1") = False := eq_false (by decide +kernel)
@[simp] theorem k_8_0 : (Str.ofString "not" = Str.ofString "") = False := eq_false (by decide +kernel)
@[simp] theorem k_8_1 : (Str.ofString "not" = Str.ofString "secret") = False := eq_false (by decide +kernel)
@[simp] theorem k_8_2 : (Str.ofString "not" = Str.ofString "cell") = False := eq_false (by decide +kernel)
@[simp] theorem k_8_3 : (Str.ofString "not" = Str.ofString "in") = False := eq_false (by decide +kernel)
@[simp] theorem k_8_4 : (Str.ofString "not" = Str.ofString "open") = False := eq_false (by decide +kernel)
@[simp] theorem k_8_5 : (Str.ofString "not" = Str.ofString "gate") = False := eq_false (by decide +kernel)
@[simp] theorem k_8_6 : (Str.ofString "not" = Str.ofString "from") = False := eq_false (by decide +kernel)
@[simp] theorem k_8_7 : (Str.ofString "not" = Str.ofString "=") = False := eq_false (by decide +kernel)
@[simp] theorem k_8_9 : (Str.ofString "not" = Str.ofString "and") = False := eq_false (by decide +kernel)
@[simp] theorem k_8_10 : (Str.ofString "not" = Str.ofString "xor") = False := eq_false (by decide +kernel)
@[simp] theorem k_8_11 : (Str.ofString "not" = Str.ofString "0") = False := eq_false (by decide +kernel)
@[simp] theorem k_8_12 : (Str.ofString "not" = Str.ofString "1") = False := eq_false (by decide +kernel)
@[simp] theorem k_9_0 : (Str.ofString "and" = Str.ofString "") = False := eq_false (by decide +kernel)
@[simp] theorem k_9_1 : (Str.ofString "and" = Str.ofString "secret") = False := eq_false (by decide +kernel)
@[simp] theorem k_9_2 : (Str.ofString "and" = Str.ofString "cell") = False := eq_false (by decide +kernel)
@[simp] theorem k_9_3 : (Str.ofString "and" = Str.ofString "in") = False := eq_false (by decide +kernel)
@[simp] theorem k_9_4 : (Str.ofString "and" = Str.ofString "open") = False := eq_false (by decide +kernel)
@[simp] theorem k_9_5 : (Str.ofString "and" = Str.ofString "gate") = False := eq_false (by decide +kernel)
@[simp] theorem k_9_6 : (Str.ofString "and" = Str.ofString "from") = False := eq_false (by decide +kernel)
@[simp] theorem k_9_7 : (Str.ofString "and" = Str.ofString "=") = False := eq_false (by decide +kernel)
@[simp] theorem k_9_8 : (Str.ofString "and" = Str.ofString "not") = False := eq_false (by decide +kernel)
@[simp] theorem k_9_10 : (Str.ofString "and" = Str.ofString "xor") = False := eq_false (by decide +kernel)
@[simp] theorem k_9_11 : (Str.ofString "and" = Str.ofString "0") = False := eq_false (by decide +kernel)
@[simp] theorem k_9_12 : (Str.ofString "and" = Str.ofString "1") = False := eq_false (by decide +kernel)
@[simp] theorem k_10_0 : (Str.ofString "xor" = Str.ofString "") = False := eq_false (by decide +kernel)
@[simp] theorem k_10_1 : (Str.ofString "xor" = Str.ofString "secret") = False := eq_false (by decide +kernel)
@[simp] theorem k_10_2 : (Str.ofString "xor" = Str.ofString "cell") = False := eq_false (by decide +kernel)
@[simp] theorem k_10_3 : (Str.ofString "xor" = Str.ofString "in") = False := eq_false (by decide +kernel)
@[simp] theorem k_10_4 : (Str.ofString "xor" = Str.ofString "open") = False := eq_false (by decide +kernel)
@[simp] theorem k_10_5 : (Str.ofString "xor" = Str.ofString "gate") = False := eq_false (by decide +kernel)
@[simp] theorem k_10_6 : (Str.ofString "xor" = Str.ofString "from") = False := eq_false (by decide +kernel)
@[simp] theorem k_10_7 : (Str.ofString "xor" = Str.ofString "=") = False := eq_false (by decide +kernel)
@[simp] theorem k_10_8 : (Str.ofString "xor" = Str.ofString "not") = False := eq_false (by decide +kernel)
@[simp] theorem k_10_9 : (Str.ofString "xor" = Str.ofString "and") = False := eq_false (by decide +kernel)
@[simp] theorem k_10_11 : (Str.ofString "xor" = Str.ofString "0") = False := eq_false (by decide +kernel)
@[simp] theorem k_10_12 : (Str.ofString "xor" = Str.ofString "1") = False := eq_false (by decide +kernel)
@[simp] theorem k_11_0 : (Str.ofString "0" = Str.ofString "") = False := eq_false (by decide +kernel)
@[simp] theorem k_11_1 : (Str.ofString "0" = Str.ofString "secret") = False := eq_false (by decide +kernel)
@[simp] theorem k_11_2 : (Str.ofString "0" = Str.ofString "cell") = False := eq_false (by decide +kernel)
@[simp] theorem k_11_3 : (Str.ofString "0" = Str.ofString "in") = False := eq_false (by decide +kernel)
@[simp] theorem k_11_4 : (Str.ofString "0" = Str.ofString "open") = False := eq_false (by decide +kernel)
@[simp] theorem k_11_5 : (Str.ofString "0" = Str.ofString "gate") = False := eq_false (by decide +kernel)
@[simp] theorem k_11_6 : (Str.ofString "0" = Str.ofString "from") = False := eq_false (by decide +kernel)
@[simp] theorem k_11_7 : (Str.ofString "0" = Str.ofString "=") = False := eq_false (by decide +kernel)
@[simp] theorem k_11_8 : (Str.ofString "0" = Str.ofString "not") = False := eq_false (by decide +kernel)
@[simp] theorem k_11_9 : (Str.ofString "0" = Str.ofString "and") = False := eq_false (by decide +kernel)
@[simp] theorem k_11_10 : (Str.ofString "0" = Str.ofString "xor") = False := eq_false (by decide +kernel)
@[simp] theorem k_11_12 : (Str.ofString "0" = Str.ofString "1") = False := eq_false (by decide +kernel)
@[simp] theorem k_12_0 : (Str.ofString "1" = Str.ofString "") = False := eq_false (by decide +kernel)
@[simp] theorem k_12_1 : (Str.ofString "1" = Str.ofString "secret") = False := eq_false (by decide +kernel)
@[simp] theorem k_12_2 : (Str.ofString "1" = Str.ofString "cell") = False := eq_false (by decide +kernel)
@[simp] theorem k_12_3 : (Str.ofString "1" = Str.ofString "in") = False := eq_false (by decide +kernel)
@[simp] theorem k_12_4 : (Str.ofString "1" = Str.ofString "open") = False := eq_false (by decide +kernel)
@[simp] theorem k_12_5 : (Str.ofString "1" = Str.ofString "gate") = False := eq_false (by decide +kernel)
@[simp] theorem k_12_6 : (Str.ofString "1" = Str.ofString "from") = False := eq_false (by decide +kernel)
@[simp] theorem k_12_7 : (Str.ofString "1" = Str.ofString "=") = False := eq_false (by decide +kernel)
@[simp] theorem k_12_8 : (Str.ofString "1" = Str.ofString "not") = False := eq_false (by decide +kernel)
@[simp] theorem k_12_9 : (Str.ofString "1" = Str.ofString "and") = False := eq_false (by decide +kernel)
@[simp] theorem k_12_10 : (Str.ofString "1" = Str.ofString "xor") = False := eq_false (by decide +kernel)
@[simp] theorem k_12_11 : (Str.ofString "1" = Str.ofString "0") = False := eq_false (by decide +kernel)
structure NmF (s : Str) : Prop where
  a : (s = Str.ofString "secret") = False
  b : (s = Str.ofString "cell") = False
  c : (s = Str.ofString "in") = False
  d : (s = Str.ofString "open") = False
  e : (s = Str.ofString "from") = False
  f : (s = Str.ofString "not") = False
  g : (s = Str.ofString "and") = False
  i : (s = Str.ofString "xor") = False
  j : (s = Str.ofString "0") = False
  k : (s = Str.ofString "1") = False
  l : (s = Str.ofString "=") = False
  m : (s = Str.ofString "") = False
theorem Nm.f {s : Str} (h : Nm s) : NmF s := ⟨h.ne (by decide +kernel), h.ne (by decide +kernel), h.ne (by decide +kernel), h.ne (by decide +kernel), h.ne (by decide +kernel), h.ne (by decide +kernel), h.ne (by decide +kernel), h.ne (by decide +kernel), h.neh (by decide +kernel), h.neh (by decide +kernel), h.neh (by decide +kernel),
  eq_false fun e => by have := h.pos; rw [e] at this; revert this; decide +kernel⟩
inductive Ln | sec (n f : Str) | cel (n : Str) (b : Bool) (f : Str) | inn (n : Str) | opn (n : Str) | gno (n a : Str) | gbi (n : Str) (x : Bool) (a b : Str)
deriving DecidableEq
def bI (b : Bool) : Int := if b then 1 else 0
def bS (b : Bool) : Str := if b then Str.ofString "1" else Str.ofString "0"
def kS (x : Bool) : Str := if x then Str.ofString "xor" else Str.ofString "and"
def Ln.d : Ln → D
  | .sec n f => .tup [.str (Str.ofString "secret"), .str n, .str f]
  | .cel n b f => .tup [.str (Str.ofString "cell"), .str n, .int (bI b), .str f]
  | .inn n => .tup [.str (Str.ofString "in"), .str n]
  | .opn n => .tup [.str (Str.ofString "open"), .str n]
  | .gno n a => .tup [.str (Str.ofString "gate"), .str n, .str (Str.ofString "not"), .str a, .non]
  | .gbi n x a b => .tup [.str (Str.ofString "gate"), .str n, .str (kS x), .str a, .str b]
def Ln.words : Ln → List Str
  | .sec n f => [Str.ofString "secret", n, Str.ofString "from", f]
  | .cel n b f => [Str.ofString "cell", n, bS b, Str.ofString "from", f]
  | .inn n => [Str.ofString "in", n]
  | .opn n => [Str.ofString "open", n]
  | .gno n a => [n, Str.ofString "=", Str.ofString "not", a]
  | .gbi n x a b => [n, Str.ofString "=", a, kS x, b]
def Ln.kind : Ln → Str
  | .sec _ _ => Str.ofString "cell"
  | .cel _ _ _ => Str.ofString "cell"
  | .inn _ => Str.ofString "in"
  | .opn _ => Str.ofString "open"
  | .gno _ _ => Str.ofString "gate"
  | .gbi _ _ _ _ => Str.ofString "gate"
def Ln.wire : Ln → Str
  | .sec n _ => n
  | .cel n _ _ => n
  | .inn n => n
  | .opn n => n
  | .gno n _ => n
  | .gbi n _ _ _ => n
def Ln.told : Ln → D
  | .sec n f => .tup [.str n, .non, .str f]
  | .cel n b f => .tup [.str n, .int (bI b), .str f]
  | .inn n => .str n
  | .opn n => .str n
  | .gno n a => .tup [.str n, .str (Str.ofString "not"), .str a, .non]
  | .gbi n x a b => .tup [.str n, .str (kS x), .str a, .str b]
def Ln.reads : Ln → List Str
  | .opn n => [n]
  | .gno _ a => [a]
  | .gbi _ _ a b => [a, b]
  | _ => []
def Ln.froms : Ln → List Str
  | .sec _ f => [f]
  | .cel _ _ f => [f]
  | _ => []
def Ln.isOpn : Ln → Bool
  | .opn _ => true
  | _ => false
def Ln.form (l : Ln) : D := .tup [.str l.kind, .str l.wire, l.told, .tup (l.reads.map D.str)]
def Ln.line (l : Ln) : Str := Txt.join (Str.ofString " ") l.words
def known (ls : List Ln) : List Str := (ls.filter fun l => !l.isOpn).map Ln.wire
/-- every name of the line is one -/
def Ln.Nms (l : Ln) : Prop := Nm l.wire ∧ (∀ s ∈ l.reads, Nm s) ∧ ∀ s ∈ l.froms, Nm s
end K10

namespace K10
open PySem PySem.Spec PyProof.Rows L2 Mo
theorem app_get {h t : Mh} {n : Nat} {o : MO} (e : h[n]? = some o) : (h ++ t)[n]? = some o := by rw [List.getElem?_append_left (lt_of e)]; exact e
structure Bag (h : Mh) (b : Nat) (c : Nat) (cells : List Int) (i rest mix cnt : Int) : Prop where
  bag : h[b]? = some (.lst [.ref c, .int i, .int rest, .int mix, .int cnt])
  cel : h[c]? = some (.lst (cells.map D.int))
  ne : c < b
  i0 : 0 ≤ i
  r0 : 0 ≤ rest
  m0 : 0 ≤ mix
  m1 : mix < 2147483629
def BagOk (h : Mh) (b : Nat) : Prop := ∃ c cells i rest mix cnt, Bag h b c cells i rest mix cnt
theorem BagOk.lt {h b} (B : BagOk h b) : b < h.length := by
  obtain ⟨c, cells, i, rest, mix, cnt, B⟩ := B
  exact lt_of B.bag
theorem BagOk.ex {h h' b} (B : BagOk h b) (e : Ex h h') : BagOk h' b := by
  obtain ⟨c, cells, i, rest, mix, cnt, B⟩ := B
  exact ⟨c, cells, i, rest, mix, cnt, e.get B.bag, e.get B.cel, B.ne, B.i0, B.r0, B.m0, B.m1⟩
theorem BagOk.put {h b n o} (B : BagOk h b) (l : b < n) : BagOk (h.set n o) b := by
  obtain ⟨c, cells, i, rest, mix, cnt, B⟩ := B
  have := B.ne
  exact ⟨c, cells, i, rest, mix, cnt, (set_off (by omega)).trans B.bag, (set_off (by omega)).trans B.cel, B.ne, B.i0, B.r0, B.m0, B.m1⟩
theorem draw_ok {h : Mh} {b : Nat} {size : Int} (B : BagOk h b) (s0 : 0 < size) (s1 : size < 1073741824) : (f__law_draw [.ref b, .int size] h).wp fun d h' => ∃ k : Int, d = .int k ∧ 0 ≤ k ∧ k < size ∧ BagOk h' b ∧ Gr b h h' := by
  obtain ⟨c, cells, i, rest, mix, cnt, B⟩ := B
  have hb := B.bag
  have hc := B.cel
  have hbl := lt_of hb
  have hcl := lt_of hc
  have cb : c ≠ b := Nat.ne_of_lt B.ne
  have bc := cb.symm
  have hs : ∀ o, (h.set b o)[b]? = some o := fun o => set_at hbl
  have hcs : ∀ o, (h.set b o)[c]? = some (.lst (cells.map D.int)) := fun o => (set_off bc).trans hc
  clear hbl hcl
  have hm : ∀ x : Int, 0 ≤ x → x < 2147483629 → x.natAbs < 1267650600228229401496703205376 := fun x _ _ => by omega
  have hmix := hm mix B.m0 B.m1
  have fin : ∀ (i rest mix cnt : Int), 0 ≤ i → 0 ≤ rest → 0 ≤ mix → mix < 2147483629 → BagOk (h.set b (.lst [.ref c, .int i, .int rest, .int mix, .int cnt])) b ∧ Gr b h (h.set b (.lst [.ref c, .int i, .int rest, .int mix, .int cnt])) := fun i rest mix cnt h1 h2 h3 h4 => ⟨⟨c, cells, i, rest, mix, cnt, hs _, hcs _, B.ne, h1, h2, h3, h4⟩, Gr.rfl.put (.inr rfl)⟩
  have s2 : size < 18446744073709551616 := by omega
  have i0 := B.i0
  have r0 := B.r0
  have last : ∀ (i : Int) (mx : Int) (cnt : Int), 0 ≤ i → ∃ k : Int, D.int (((mx % 2147483629) / 71 + (mx % 2147483629) % 7907 * 61) % size) = D.int k ∧ 0 ≤ k ∧ k < size ∧ BagOk (h.set b (.lst [.ref c, .int i, .int 0, .int (mx % 2147483629), .int cnt])) b ∧ Gr b h (h.set b (.lst [.ref c, .int i, .int 0, .int (mx % 2147483629), .int cnt])) := fun i mx cnt hi => ⟨_, rfl, Int.emod_nonneg _ (by omega), Int.emod_lt_of_pos _ s0, fin _ _ _ _ hi (by omega) (by omega) (by omega)⟩
  unfold f__law_draw m__law_draw
  simp [startD, List.replicate, hb, hc, atI, ixN, hs, hcs, s0, s1, s2, hmix, i0]
  split
  · rename_i z
    subst z
    split
    · rename_i l
      have l' : i.toNat < cells.length := by omega
      simp [startD, List.replicate, hb, hc, atI, ixN, hs, hcs, s0, s1, s2, hmix, i0, List.getElem?_eq_getElem l']
      split
      · rename_i big
        have : 0 < cells[i.toNat] := by omega
        simp [startD, List.replicate, hb, hc, atI, ixN, hs, hcs, s0, s1, s2, hmix, i0, this]
        exact ⟨Int.emod_nonneg _ (by omega), Int.emod_lt_of_pos _ s0, fin _ _ _ _ (by omega) (Int.ediv_nonneg (by omega) (by omega)) B.m0 B.m1⟩
      · generalize hq : (mix * 39451 + cells[i.toNat] % 2147483543 * 10009 + 31) % 2147483629 = q
        have q1 : 0 ≤ q := by omega
        have q2 : q < 2147483629 := by omega
        simp [startD, List.replicate, hb, hc, atI, ixN, hs, hcs, s0, s1, s2, hm q q1 q2, i0]
        simpa using last _ _ _ (by omega : 0 ≤ i + 1)
    · simp [startD, List.replicate, hb, hc, atI, ixN, hs, hcs, s0, s1, s2, hmix, i0]
      simpa using last _ _ _ i0
  · have : 0 < rest := by omega
    simp [startD, List.replicate, hb, hc, atI, ixN, hs, hcs, s0, s1, s2, hmix, i0, this]
    exact ⟨Int.emod_nonneg _ (by omega), Int.emod_lt_of_pos _ s0, fin _ _ _ _ i0 (Int.ediv_nonneg (by omega) (by omega)) B.m0 B.m1⟩
theorem of_ok {h : Mh} {b r : Nat} {ds : List D} (B : BagOk h b) (hr : h[r]? = some (.lst ds)) (rb : r ≠ b) (l0 : 0 < ds.length) (l1 : ds.length < 1073741824) : (f__law_of [.ref b, .ref r] h).wp fun d h' => (∃ k : Nat, ds[k]? = some d) ∧ BagOk h' b ∧ Gr b h h' := by
  unfold f__law_of m__law_of
  simp [startD, List.replicate, hr]
  refine (draw_ok B (by omega) (by omega)).mono fun d h' ⟨k, e, k0, k1, B', G⟩ => ?_
  subst e
  have l : k.toNat < ds.length := by omega
  simp [G.get rb hr, atI, ixN, k0, k1, List.getElem?_eq_getElem l]
  exact ⟨⟨_, List.getElem?_eq_getElem l⟩, B', G⟩
theorem ofs_ok {h : Mh} {b : Nat} {z : Str} (B : BagOk h b) (l0 : 0 < z.length) (l1 : z.length ≤ 1000) : (f__law_of [.ref b, .str z] h).wp fun d h' => (∃ c ∈ z.cps.toList, d = .str ⟨#[c]⟩) ∧ BagOk h' b ∧ Gr b h h' := by
  have l2 : LenE z.length := lenE l1
  unfold f__law_of m__law_of
  simp [startD, List.replicate, l2]
  refine (draw_ok B (by omega) (by omega)).mono fun d h' ⟨k, e, k0, k1, B', G⟩ => ?_
  subst e
  have l : k.toNat < z.cps.toList.length := by
    have : z.length = z.cps.toList.length := by simp [Str.length]
    omega
  have k2 : k < (z.cps.toList.length : Int) := by omega
  simp only [l_ixS, if_pos l2, atI, ixN, if_pos k0, if_pos k2, Option.bind_some, List.getElem?_eq_getElem l, wp_ok, wp_rt]
  exact ⟨⟨_, List.getElem_mem l, rfl⟩, B', G⟩
theorem bag_ok {h : Mh} {r : Nat} {ns : List Int} (hr : h[r]? = some (.fls (ns.map D.int))) (l : ns.length ≤ 63) : (f__law_bag [.ref r] h).wp fun d h' => ∃ b, d = .ref b ∧ BagOk h' b ∧ Ex h h' := by
  unfold f__law_bag m__law_bag
  simp [startD, List.replicate, hr]
  refine loop (fun j sg h' => (∃ mix x, sg = [some (.ref r), some (.int mix), x] ∧ 0 ≤ mix ∧ mix < 2147483629) ∧ h' = h ++ [.lst (Mo.cutD (ns.map D.int) none (some 63))]) ⟨⟨_, _, rfl, by decide, by decide⟩, rfl⟩ (fun j x sg h' e ⟨⟨mix, y, es, m0, m1⟩, eh⟩ => ?_) (fun sg h' ⟨⟨mix, y, es, m0, m1⟩, eh⟩ => ?_)
  · subst es eh
    have : ∃ i, x = .int i := by
      have : x ∈ Mo.cutD (ns.map D.int) none (some 63) := List.mem_of_getElem? e
      have : x ∈ ns.map D.int := List.mem_of_mem_drop (List.mem_of_mem_take this)
      obtain ⟨i, _, q⟩ := List.mem_map.mp this
      exact ⟨i, q.symm⟩
    obtain ⟨i, rfl⟩ := this
    refine ⟨srcL_at at_end e, _, rfl, ?_⟩
    simp
    constructor <;> omega
  · subst es eh
    refine ⟨srcL_fin at_end, ?_⟩
    have g : (h ++ [.lst (Mo.cutD (ns.map D.int) none (some 63))])[r]? = some (.fls (ns.map D.int)) := by rw [List.getElem?_append_left (lt_of hr)]; exact hr
    simp [g]
    obtain ⟨cells, ec⟩ : ∃ cells : List Int, Mo.cutD (ns.map D.int) none (some 63) = cells.map D.int := ⟨_, by unfold Mo.cutD; rw [List.map_take, List.map_drop]⟩
    refine ⟨⟨h.length + 2, cells, 0, 0, mix, 0, by simp, by rw [ec]; simp, by omega, by decide, by decide, m0, m1⟩, Ex.app⟩
end K10

namespace K10
open PySem PySem.Spec PyProof.Rows L2 Mo
theorem nm_lt {s : Str} (h : Nm s) : s.length < 1000 := Nat.lt_of_le_of_lt h.len (by decide)
theorem bS_1 {b : Bool} : (bS b = Str.ofString "") = False := by cases b <;> exact eq_false (by decide +kernel)
theorem kS_1 {b : Bool} : (kS b = Str.ofString "") = False := by cases b <;> exact eq_false (by decide +kernel)
theorem bS_int {b : Bool} {h : Mh} : dInt [.str (bS b)] h = .ok (.int (bI b)) h := by
  have e : PySem.intText? (bS b) = some (bI b) ∧ (bS b).length ≤ 640 := by cases b <;> decide +kernel
  unfold dInt
  dsimp only
  rw [e.1]
  exact if_pos e.2
theorem gate_not {h : Mh} {r : Nat} {n a : Str} (hr : h[r]? = some (.lst ((Ln.gno n a).words.map D.str))) : (f_gate_of [.ref r] h).wp fun d h' => d = (Ln.gno n a).told ∧ h' = h := by
  unfold f_gate_of m_gate_of
  simp [startD, List.replicate, hr, Ln.words, atI, ixN, Ln.told]
theorem gate_bin {h : Mh} {r : Nat} {n a b : Str} {x : Bool} (hr : h[r]? = some (.lst ((Ln.gbi n x a b).words.map D.str))) : (f_gate_of [.ref r] h).wp fun d h' => d = (Ln.gbi n x a b).told ∧ h' = h := by
  unfold f_gate_of m_gate_of
  cases x <;> simp [startD, List.replicate, hr, Ln.words, atI, ixN, Ln.told, kS]
theorem read_by {h : Mh} {l : Ln} (g : l.kind = Str.ofString "gate") : (f_read_by [l.told] h).wp fun d h' => d = .tup (l.reads.map D.str) ∧ h' = h := by
  unfold f_read_by m_read_by
  cases l with
  | gno n a => simp [startD, List.replicate, Ln.told, Ln.reads, atI, ixN]
  | gbi n x a b => cases x <;> simp [startD, List.replicate, Ln.told, Ln.reads, atI, ixN, kS]
  | _ => simp [Ln.kind] at g
theorem form_ok {h : Mh} {r : Nat} {l : Ln} (hr : h[r]? = some (.lst (l.words.map D.str))) (N : l.Nms) : (f__form_of [.ref r] h).wp fun d h' => d = l.form ∧ h' = h := by
  unfold f__form_of m__form_of
  obtain ⟨N1, N2, N3⟩ := N
  have e := N1.f
  cases l with
  | inn n =>
    simp only [Ln.wire] at e
    simp [startD, List.replicate, hr, Ln.words, e.a, e.b, e.c, e.m, atI, ixN, Ln.form, Ln.kind, Ln.wire, Ln.told, Ln.reads]
  | opn n =>
    simp only [Ln.wire] at e
    simp [startD, List.replicate, hr, Ln.words, e.a, e.b, e.c, e.m, atI, ixN, Ln.form, Ln.kind, Ln.wire, Ln.told, Ln.reads]
  | sec n f =>
    simp only [Ln.wire] at e
    have e2 := (N3 f (by simp [Ln.froms])).f
    simp [startD, List.replicate, hr, Ln.words, e.a, e.b, e.c, e.m, e2.m, atI, ixN, Ln.form, Ln.kind, Ln.wire, Ln.told, Ln.reads]
  | cel n b f =>
    simp only [Ln.wire] at e
    have e2 := (N3 f (by simp [Ln.froms])).f
    have hb : (¬Str.ofString "0" = bS b → ¬Str.ofString "1" = bS b → False) := by cases b <;> simp [bS]
    simp [startD, List.replicate, hr, Ln.words, e.a, e.b, e.c, e.m, e2.m, atI, ixN, Ln.form, Ln.kind, Ln.wire, Ln.told, Ln.reads, bS_1, bS_int]
    exact fun z1 z2 => (hb z1 z2).elim
  | gno n a =>
    simp only [Ln.wire] at e
    have e2 := (N2 a (by simp [Ln.reads])).f
    simp [startD, List.replicate, hr, Ln.words, e.a, e.b, e.c, e.d, e.m, e2.m, atI, ixN]
    refine (gate_not (n := n) (a := a) hr).mono fun d h' ⟨e3, e4⟩ => ?_
    subst e3 e4
    rw [show (Ln.gno n a).told = .tup [.str n, .str (Str.ofString "not"), .str a, .non] from rfl]
    simp [dIs, atI, ixN]
    refine (read_by (l := Ln.gno n a) rfl).mono fun d h' ⟨e3, e4⟩ => ?_
    subst e3 e4
    simp [Ln.form, Ln.kind, Ln.wire, Ln.told, Ln.reads]
  | gbi n x a b =>
    simp only [Ln.wire] at e
    have e2 := (N2 a (by simp [Ln.reads])).f
    have e3 := (N2 b (by simp [Ln.reads])).f
    simp [startD, List.replicate, hr, Ln.words, e.a, e.b, e.c, e.d, e.m, e2.m, e2.j, e2.k, e3.m, atI, ixN]
    rw [if_neg (by simp [kS_1])]
    refine (gate_bin (n := n) (a := a) (b := b) (x := x) hr).mono fun d h' ⟨e3, e4⟩ => ?_
    subst e3 e4
    rw [show (Ln.gbi n x a b).told = .tup [.str n, .str (kS x), .str a, .str b] from rfl]
    simp [dIs, atI, ixN]
    refine (read_by (l := Ln.gbi n x a b) rfl).mono fun d h' ⟨e3, e4⟩ => ?_
    subst e3 e4
    simp [Ln.form, Ln.kind, Ln.wire, Ln.told, Ln.reads]
end K10

namespace K10
open PySem PySem.Spec PyProof.Rows L2 Mo
theorem nm_free {s : Str} (h : Nm s) : 32 ∉ lS s ∧ 10 ∉ lS s := ⟨fun z => (signs_ok.1 32 (h.all 32 z)).2.1 rfl, fun z => (signs_ok.1 10 (h.all 10 z)).2.2 rfl⟩
theorem const_free : ∀ s ∈ ["secret", "cell", "in", "open", "from", "=", "not", "xor", "and", "0", "1"], 32 ∉ lS (Str.ofString s) ∧ 10 ∉ lS (Str.ofString s) := by decide +kernel
theorem words_free {l : Ln} (N : l.Nms) : ∀ w ∈ l.words, 32 ∉ lS w ∧ 10 ∉ lS w := by
  obtain ⟨N1, N2, N3⟩ := N
  have n1 := nm_free N1
  have k := fun s hs => const_free s hs
  have kS1 : ∀ x, 32 ∉ lS (kS x) ∧ 10 ∉ lS (kS x) := fun x => by cases x <;> exact k _ (by decide)
  have bS1 : ∀ x, 32 ∉ lS (bS x) ∧ 10 ∉ lS (bS x) := fun x => by cases x <;> exact k _ (by decide)
  cases l with
  | sec n f =>
    have n2 := nm_free (N3 f (by simp [Ln.froms]))
    intro w hw
    simp only [Ln.words, List.mem_cons, List.not_mem_nil, or_false] at hw
    rcases hw with rfl | rfl | rfl | rfl
    · exact k _ (by decide)
    · exact n1
    · exact k _ (by decide)
    · exact n2
  | cel n b f =>
    have n2 := nm_free (N3 f (by simp [Ln.froms]))
    intro w hw
    simp only [Ln.words, List.mem_cons, List.not_mem_nil, or_false] at hw
    rcases hw with rfl | rfl | rfl | rfl | rfl
    · exact k _ (by decide)
    · exact n1
    · exact bS1 b
    · exact k _ (by decide)
    · exact n2
  | inn n =>
    intro w hw
    simp only [Ln.words, List.mem_cons, List.not_mem_nil, or_false] at hw
    rcases hw with rfl | rfl
    · exact k _ (by decide)
    · exact n1
  | opn n =>
    intro w hw
    simp only [Ln.words, List.mem_cons, List.not_mem_nil, or_false] at hw
    rcases hw with rfl | rfl
    · exact k _ (by decide)
    · exact n1
  | gno n a =>
    have n2 := nm_free (N2 a (by simp [Ln.reads]))
    intro w hw
    simp only [Ln.words, List.mem_cons, List.not_mem_nil, or_false] at hw
    rcases hw with rfl | rfl | rfl | rfl
    · exact n1
    · exact k _ (by decide)
    · exact k _ (by decide)
    · exact n2
  | gbi n x a b =>
    have n2 := nm_free (N2 a (by simp [Ln.reads]))
    have n3 := nm_free (N2 b (by simp [Ln.reads]))
    intro w hw
    simp only [Ln.words, List.mem_cons, List.not_mem_nil, or_false] at hw
    rcases hw with rfl | rfl | rfl | rfl | rfl
    · exact n1
    · exact k _ (by decide)
    · exact n2
    · exact kS1 x
    · exact n3
theorem words_ne {l : Ln} : l.words ≠ [] := by cases l <;> simp [Ln.words]
theorem sp_one : Str.ofString " " = ⟨#[32]⟩ ∧ Str.ofString "\n" = ⟨#[10]⟩ := by decide +kernel
theorem split_line {l : Ln} (N : l.Nms) : Txt.split l.line (Str.ofString " ") = l.words := by
  unfold Ln.line
  rw [sp_one.1]
  exact split_join words_ne fun w hw => (words_free N w hw).1
theorem gl_free {c d : Nat} : ∀ {xs : List (List Nat)}, d ≠ c → (∀ x ∈ xs, d ∉ x) → d ∉ gl [c] xs
  | [], _, _ => by simp [gl]
  | [x], _, h => h x (by simp)
  | x :: y :: r, n, h => by
    have ih := gl_free (xs := y :: r) n fun z hz => h z (List.mem_cons_of_mem _ hz)
    simp only [gl, List.mem_append, List.mem_singleton]
    rintro ((z | z) | z)
    · exact h x (by simp) z
    · exact n z
    · exact ih z
theorem line_free {l : Ln} (N : l.Nms) : 10 ∉ lS l.line := by
  unfold Ln.line
  rw [sp_one.1, lS_join]
  exact gl_free (by decide) fun x hx => by
    obtain ⟨w, hw, rfl⟩ := List.mem_map.mp hx
    exact (words_free N w hw).2
theorem gl_len {c : Nat} {n : Nat} : ∀ {xs : List (List Nat)}, (∀ x ∈ xs, x.length ≤ n) → (gl [c] xs).length ≤ (n + 1) * xs.length
  | [], _ => by simp [gl]
  | [x], h => by have := h x (by simp); simp [gl]; omega
  | x :: y :: r, h => by
    have ih := gl_len (c := c) (n := n) (xs := y :: r) fun z hz => h z (List.mem_cons_of_mem _ hz)
    have := h x (by simp)
    simp only [gl, List.length_append, List.length_cons, List.length_nil] at *
    have e : (n + 1) * (r.length + 1 + 1) = (n + 1) * (r.length + 1) + (n + 1) := Nat.mul_succ _ _
    omega
theorem const_len : ∀ s ∈ ["secret", "cell", "in", "open", "from", "=", "not", "xor", "and", "0", "1"], (lS (Str.ofString s)).length ≤ 8 := by decide +kernel
theorem words_len {l : Ln} (N : l.Nms) : (∀ w ∈ l.words, (lS w).length ≤ 8) ∧ l.words.length ≤ 5 := by
  obtain ⟨N1, N2, N3⟩ := N
  have nl : ∀ {s}, Nm s → (lS s).length ≤ 8 := fun h => by rw [← lS_len]; exact h.len
  have n1 := nl N1
  have k := fun s hs => const_len s hs
  have kS1 : ∀ x, (lS (kS x)).length ≤ 8 := fun x => by cases x <;> exact k _ (by decide)
  have bS1 : ∀ x, (lS (bS x)).length ≤ 8 := fun x => by cases x <;> exact k _ (by decide)
  refine ⟨?_, by cases l <;> simp [Ln.words]⟩
  cases l with
  | sec n f => simpa [Ln.words] using ⟨k _ (by decide), n1, k _ (by decide), nl (N3 f (by simp [Ln.froms]))⟩
  | cel n b f => simpa [Ln.words] using ⟨k _ (by decide), n1, bS1 b, k _ (by decide), nl (N3 f (by simp [Ln.froms]))⟩
  | inn n => simpa [Ln.words] using ⟨k _ (by decide), n1⟩
  | opn n => simpa [Ln.words] using ⟨k _ (by decide), n1⟩
  | gno n a => simpa [Ln.words] using ⟨n1, k _ (by decide), k _ (by decide), nl (N2 a (by simp [Ln.reads]))⟩
  | gbi n x a b => simpa [Ln.words] using ⟨n1, k _ (by decide), nl (N2 a (by simp [Ln.reads])), kS1 x, nl (N2 b (by simp [Ln.reads]))⟩
theorem line_len {l : Ln} (N : l.Nms) : l.line.length ≤ 45 := by
  rw [lS_len]
  unfold Ln.line
  rw [sp_one.1, lS_join]
  have := gl_len (c := 32) (n := 8) (xs := l.words.map lS) fun x hx => by
    obtain ⟨w, hw, rfl⟩ := List.mem_map.mp hx
    exact (words_len N).1 w hw
  have l5 := (words_len N).2
  rw [List.length_map] at this
  exact Nat.le_trans this (by omega)
/-- the text of lines -/
def textOf (ls : List Ln) : Str := Txt.join (Str.ofString "") (ls.map fun l => l.line ++ Str.ofString "\n")
theorem lS_text (ls : List Ln) : lS (textOf ls) = gl [10] ((ls.map fun l => lS l.line) ++ [[]]) := by
  unfold textOf
  rw [lS_join, show lS (Str.ofString "") = [] from by decide +kernel, List.map_map]
  have e : (lS ∘ fun l : Ln => l.line ++ Str.ofString "\n") = fun l => lS l.line ++ [10] := funext fun l => by
    show lS (l.line ++ Str.ofString "\n") = _
    rw [lS_app, sp_one.2]; rfl
  rw [e]
  induction ls with
  | nil => rfl
  | cons l ls ih =>
    cases ls with
    | nil => simp [gl]
    | cons m r =>
      rw [show (l :: m :: r).map (fun l => lS l.line ++ [10]) = (lS l.line ++ [10]) :: (m :: r).map (fun l => lS l.line ++ [10]) from rfl, show (l :: m :: r).map (fun l => lS l.line) = lS l.line :: (m :: r).map (fun l => lS l.line) from rfl, List.cons_append, gl_cons2 (by simp), gl_cons2 (by simp), ih]
      simp
theorem split_text {ls : List Ln} (N : ∀ l ∈ ls, l.Nms) : Txt.split (textOf ls) (Str.ofString "\n") = ls.map Ln.line ++ [Str.ofString ""] := by
  have e : textOf ls = Txt.join ⟨#[10]⟩ (ls.map Ln.line ++ [Str.ofString ""]) := lS_ext (by
    rw [lS_text, lS_join, List.map_append, List.map_map]
    rfl)
  rw [e, sp_one.2]
  refine split_join (by simp) fun w hw => ?_
  rcases List.mem_append.mp hw with hw | hw
  · obtain ⟨l, hl, rfl⟩ := List.mem_map.mp hw
    exact line_free (N l hl)
  · rw [List.mem_singleton.mp hw]; decide +kernel
theorem text_len {ls : List Ln} (N : ∀ l ∈ ls, l.Nms) : (textOf ls).length ≤ 46 * (ls.length + 1) := by
  rw [lS_len, lS_text]
  have := gl_len (c := 10) (n := 45) (xs := (ls.map fun l => lS l.line) ++ [[]]) fun x hx => by
    rcases List.mem_append.mp hx with hx | hx
    · obtain ⟨l, hl, rfl⟩ := List.mem_map.mp hx
      rw [← lS_len]
      exact line_len (N l hl)
    · rw [List.mem_singleton.mp hx]; simp
  simpa using this
end K10

namespace K10
open PySem PySem.Spec PyProof.Rows L2 Mo
theorem bools_true : ∀ n : Nat, boolsOf (List.replicate n (.bl true)) = some (List.replicate n true)
  | 0 => rfl
  | n + 1 => by rw [List.replicate_succ, List.replicate_succ]; show (boolsOf _).map _ = _; rw [bools_true n]; rfl
theorem run_ok {h : Mh} {s : Str} (N : Nm s) : (f_is_letter_run [.str s] h).wp fun d h' => d = .bl true ∧ Ex h h' := by
  have le : LenE s.length := lenE (Nat.le_trans N.len (by decide))
  obtain ⟨c, r, e1, e2⟩ := N.hd
  have e1' : s.cps.toList = c :: r := e1
  have e3 : c ∈ (Str.ofString "abcdefghijklmnopqrstuvwxyz").cps := by simpa [lS, abcS] using e2
  have hall : ∀ c ∈ s.cps.toList, c ∈ (Str.ofString "abcdefghijklmnopqrstuvwxyz0123456789").cps := fun c hc => by simpa [lS, a9S] using N.all c hc
  unfold f_is_letter_run m_is_letter_run
  simp [startD, List.replicate, le, N.f.m, c_LETTERS, c_RUN_SIGNS, atI, ixN, e1', e3, wipeD]
  refine wp_of (lc_map (s := srcS s) (g := gNm 1) (items := (c :: r).map fun c => D.str ⟨#[c]⟩) (fun _ => .bl true) (Nat.le_trans (by rw [List.length_map, ← e1', ← Str.length.eq_1 s |> fun _ => (by simp [Str.length] : s.length = s.cps.toList.length)]; exact N.len) (Nat.le_trans (by decide) line_le)) (fun j x acc e => ?_) (fun acc => trivial) (by simp [e1'])) ?_
  · rw [List.getElem?_map] at e
    obtain ⟨c', ec, rfl⟩ := Option.map_eq_some_iff.mp e
    have := hall c' (by rw [e1']; exact List.mem_of_getElem? ec)
    refine ⟨trivial, _, rfl, ?_⟩
    have key : R.wp (m2 (dIn false) (mVar 1) (mLit (.str (Str.ofString "abcdefghijklmnopqrstuvwxyz0123456789"))) [some (.str s), some (.str ⟨#[c']⟩)] (h ++ [.lst acc])) (fun d h' => d = .bl true ∧ h' = h ++ [.lst acc]) ⟨⟩ := by simp [this]
    obtain ⟨d, h', e, rfl, rfl⟩ := key.out
    exact e
  · simp only [List.map_const']
    simp [dAll, bools_true]
    exact Ex.app
theorem wire_ok {h : Mh} {s : Str} (N : Nm s) : (f_wire_name [.str s] h).wp fun d h' => d = .bl true ∧ Ex h h' := by
  have le : LenE s.length := lenE (Nat.le_trans N.len (by decide))
  have l8 : (s.length : Int) ≤ 8 := by have := N.len; omega
  unfold f_wire_name m_wire_name f_is_name m_is_name
  simp [startD, List.replicate, le, dIsi1, tyD, knT, isiB, c_MOST_SIGNS, l8]
  refine (run_ok N).mono fun d h' ⟨e, X⟩ => ?_
  subst e
  have nb : s ∉ barred := N.nb
  have e : c_CIRCUIT_WORDS = .kt (barred.map D.str) := rfl
  simp [-List.map_cons, e, flat_strs, any_eq, nb, X]
  exact fun x hx ex => nb (ex ▸ hx)
def kvT (ks : List Str) : List (Key × D) := ks.map fun n => (Sum.inr n, D.bl true)
theorem kvT_keys {ks : List Str} : (kvT ks).map (·.1) = ks.map Sum.inr := by unfold kvT; rw [List.map_map]; rfl
theorem kvT_val {ks : List Str} {s : Str} : valD (kvT ks) (Sum.inr s) = if s ∈ ks then some (D.bl true) else none := by
  induction ks with
  | nil => rfl
  | cons k ks ih =>
    show valD ((Sum.inr k, D.bl true) :: kvT ks) _ = _
    rw [valD_cons, ih]
    by_cases e : k = s
    · subst e; simp
    · have e' : ¬ s = k := fun z => e z.symm
      simp [e, e']
theorem kvT_put {ks : List Str} {s : Str} : putD (kvT ks) (Sum.inr s) (.bl true) = if s ∈ ks then kvT ks else kvT (ks ++ [s]) := by
  by_cases e : s ∈ ks
  · rw [if_pos e]
    unfold putD
    rw [if_pos (any_iff.mpr (by rw [kvT_keys]; exact List.mem_map.mpr ⟨s, e, rfl⟩))]
    refine Eq.trans (List.map_congr_left (g := id) fun p hp => ?_) (List.map_id _)
    obtain ⟨n, _, rfl⟩ := List.mem_map.mp hp
    dsimp only
    split
    · rfl
    · rfl
  · rw [if_neg e, putD_out (by rw [kvT_keys]; intro z; obtain ⟨n, hn, q⟩ := List.mem_map.mp z; cases q; exact e hn)]
    unfold kvT; rw [List.map_append]; rfl
theorem kind_open {l : Ln} : (l.kind = Str.ofString "open") = (l.isOpn = true) := by cases l <;> simp [Ln.kind, Ln.isOpn]
theorem fault_ok {h : Mh} {g : Nat} {ks : List Str} {l : Ln} (hg : h[g]? = some (.dk (kvT ks))) (N : l.Nms) (new : l.isOpn = false → l.wire ∉ ks) (rd : ∀ s ∈ l.reads, s ∈ ks) : (f__fault_of [l.form, .ref g] h).wp fun d h' => d = .non ∧ Ex h h' := by
  unfold f__fault_of m__fault_of
  have fin : ∀ (h' : Mh) (sg : Sg), Ex h h' → sg = [some l.form, some (.ref g), some (.str l.kind), some (.str l.wire), some l.told, some (.tup (l.reads.map D.str)), none] →
      RS.wp (((sFor (mIter (mVar 5)) (gNm 6) (sIf (mTest (m2 (dDIn true) (mVar 6) (mVar 1))) (sRet (mLit (.str (Str.ofString "unknown")))) sNext)) sg h').th (sRet (mLit .non))) (fun _ h' => D.non = .non ∧ Ex h h') (fun d h' => d = .non ∧ Ex h h') := by
    intro h' sg X e
    subst e
    simp
    refine loop (fun j sg h2 => (∃ x, sg = [some l.form, some (.ref g), some (.str l.kind), some (.str l.wire), some l.told, some (.tup (l.reads.map D.str)), x]) ∧ h2 = h') ⟨⟨_, rfl⟩, rfl⟩ (fun j x sg h2 e ⟨⟨y, es⟩, eh⟩ => ?_) (fun sg h2 ⟨⟨y, es⟩, eh⟩ => ?_)
    · subst es eh
      obtain ⟨s, hs, rfl⟩ := List.mem_map.mp (List.mem_of_getElem? e)
      refine ⟨trivial, _, rfl, ?_⟩
      simp [X.get hg, kvT_val, rd s hs]
    · subst es eh
      simp [X]
  rw [w_run]
  cases ho : l.isOpn with
  | true =>
    have k := kind_open.mpr ho
    simp [startD, List.replicate, Ln.form, k]
    have := fin h _ Ex.rfl rfl
    simpa [Ln.form, k] using this
  | false =>
    have k : (l.kind = Str.ofString "open") = False := by rw [kind_open, ho]; simp
    simp [startD, List.replicate, Ln.form, k]
    refine (wire_ok N.1).mono fun d h' ⟨e, X⟩ => ?_
    subst e
    simp [X.get hg, kvT_val, new ho]
    have := fin h' _ X rfl
    simpa [Ln.form, k] using this
end K10

namespace K10
open PySem PySem.Spec PyProof.Rows L2 Mo
@[simp] theorem l_enum {n : Nat} {h : Mh} : dEnum [.ref n] h = match lstOf h n with
    | some xs => .ok (srcE n xs) h
    | none => .bad := by
  unfold dEnum
  dsimp only
  cases lstOf h n <;> rfl
theorem atI_last {xs : List D} {y : D} : atI (xs ++ [y]) (-1) = some y := by
  have e : ixN (xs ++ [y]).length (-1) = some xs.length := by
    unfold ixN
    rw [if_neg (by decide), if_pos (by simp; omega)]
    congr 1
    simp
    omega
  unfold atI
  rw [e]
  simp
theorem cut_last {xs : List D} {y : D} : Mo.cutD (xs ++ [y]) none (some (-1)) = xs := by
  unfold Mo.cutD
  have e1 : HT.sIx (xs ++ [y]).length (xs ++ [y]).length (some (-1)) = xs.length := by
    simp [HT.sIx]
    try omega
  have e0 : HT.sIx (xs ++ [y]).length 0 none = 0 := by simp [HT.sIx]
  rw [e1, e0]
  simp
structure SpC (a b : Str) : Prop where
  r : (b.length == 0) = false ∧ a.length + 2 ≤ sizeLine
open Classical in
@[simp] theorem l_split {a b : Str} {h : Mh} : dSplit (.str a) [.str b] h = if SpC a b then .ok (.ref h.length) (h ++ [.lst ((Txt.split a b).map D.str)]) else .bad := by
  by_cases c : SpC a b
  · rw [if_pos c]; exact if_pos c.r
  · rw [if_neg c]; exact if_neg fun z => c ⟨z⟩
theorem spC {a b : Str} (hb : (b.length == 0) = false) (ha : a.length ≤ 10000) : SpC a b := ⟨hb, Nat.le_trans (Nat.add_le_add_right ha 2) (by decide)⟩
theorem cut_ok {h : Mh} {ls : List Ln} (N : ∀ l ∈ ls, l.Nms) (hl : ls.length ≤ 100) : (f_cut_lines [.str (textOf ls)] h).wp fun d h' => ∃ r, d = .tup [.ref r, .bl false] ∧ h'[r]? = some (.lst ((ls.map Ln.line).map D.str)) ∧ Ex h h' := by
  have tl := text_len N
  have sp : SpC (textOf ls) (Str.ofString "\n") := spC (by decide +kernel) (by omega)
  unfold f_cut_lines m_cut_lines
  simp [-List.map_map, startD, List.replicate, isTy, sp, split_text N, atI_last, List.map_append, cut_last]
  exact Ex.app
structure WF (ls : List Ln) : Prop where
  nms : ∀ l ∈ ls, l.Nms
  new : ∀ (i : Nat) (l : Ln), ls[i]? = some l → l.isOpn = false → l.wire ∉ known (ls.take i)
  rd : ∀ (i : Nat) (l : Ln), ls[i]? = some l → ∀ s ∈ l.reads, s ∈ known (ls.take i)
  fr : ∀ l ∈ ls, ∀ s ∈ l.froms, s ∈ known ls
  len : ls.length ≤ 60
theorem known_snoc {ls : List Ln} {l : Ln} : known (ls ++ [l]) = if l.isOpn then known ls else known ls ++ [l.wire] := by
  unfold known
  rw [List.filter_append, List.map_append]
  cases h : l.isOpn <;> simp [h]
theorem take_snoc {α : Type} {ls : List α} {i : Nat} {l : α} (e : ls[i]? = some l) : ls.take (i + 1) = ls.take i ++ [l] := by rw [List.take_add_one, e]; rfl
theorem opn_reads {l : Ln} (h : l.isOpn = true) : l.reads = [l.wire] := by cases l <;> first | rfl | cases h
theorem WF.put {ls : List Ln} (W : WF ls) {i : Nat} {l : Ln} (e : ls[i]? = some l) : putD (kvT (known (ls.take i))) (Sum.inr l.wire) (.bl true) = kvT (known (ls.take (i + 1))) := by
  rw [kvT_put, take_snoc e, known_snoc]
  cases h : l.isOpn with
  | true =>
    rw [if_pos (W.rd i l e _ (by rw [opn_reads h]; simp))]; rfl
  | false => rw [if_neg (W.new i l e h)]; rfl
theorem known_len {ls : List Ln} : (known ls).length ≤ ls.length := by
  unfold known
  rw [List.length_map]; exact List.length_filter_le ..
theorem enum_at {n : Nat} {xs : List D} {i : Nat} {x : D} {h : Mh} (e : h[n]? = some (.lst xs)) (q : xs[i]? = some x) : (srcE n xs).at' i (.tup [.int (i : Int), x]) h := ⟨x, rfl, srcL_at e q⟩
theorem enum_fin {n : Nat} {xs : List D} {h : Mh} (e : h[n]? = some (.lst xs)) : (srcE n xs).fin xs.length h := ⟨xs, .inl e, Nat.le_refl _⟩
@[simp] theorem srcE_items {n : Nat} {xs : List D} : (srcE n xs).items = enumD 0 xs := rfl
theorem enum0 {xs : List D} {i : Nat} {d : D} (e : (enumD 0 xs)[i]? = some d) : ∃ x, xs[i]? = some x ∧ d = .tup [.int (i : Int), x] := by
  obtain ⟨x, e1, e2⟩ := enumD_get e
  exact ⟨x, e1, by rw [e2, Nat.zero_add]⟩
theorem from_ok {h : Mh} {f g : Nat} {ls : List Ln} (W : WF ls) (hf : h[f]? = some (.lst (ls.map Ln.form))) (hg : h[g]? = some (.dk (kvT (known ls)))) : (f__check_from_wires [.ref f, .ref g] h).wp fun d h' => d = .non ∧ h' = h := by
  unfold f__check_from_wires m__check_from_wires
  simp [startD, List.replicate, hf]
  refine loop (fun j sg h' => (∃ x y, sg = [some (.ref f), some (.ref g), x, y]) ∧ h' = h) ⟨⟨_, _, rfl⟩, rfl⟩ (fun j x sg h' e ⟨⟨y, z, es⟩, eh⟩ => ?_) (fun sg h' ⟨⟨y, z, es⟩, eh⟩ => ?_)
  · subst es eh
    obtain ⟨d, e1, rfl⟩ := enum0 e
    rw [List.getElem?_map] at e1
    obtain ⟨l, el, rfl⟩ := Option.map_eq_some_iff.mp e1
    refine ⟨enum_at hf (by rw [List.getElem?_map, el]; rfl), _, rfl, ?_⟩
    have lm := List.mem_of_getElem? el
    cases l with
    | sec n s =>
      have := W.fr _ lm s (by simp [Ln.froms])
      simp [Ln.form, Ln.kind, Ln.told, Ln.wire, atI, ixN, hg, kvT_val, this]
    | cel n b s =>
      have := W.fr _ lm s (by simp [Ln.froms])
      simp [Ln.form, Ln.kind, Ln.told, Ln.wire, atI, ixN, hg, kvT_val, this]
    | inn n => simp [Ln.form, Ln.kind, Ln.told, Ln.wire, atI, ixN]
    | opn n => simp [Ln.form, Ln.kind, Ln.told, Ln.wire, atI, ixN]
    | gno n a => simp [Ln.form, Ln.kind, Ln.told, Ln.wire, atI, ixN]
    | gbi n x a b => simp [Ln.form, Ln.kind, Ln.told, Ln.wire, atI, ixN]
  · subst es eh
    rw [enumD_len]
    exact ⟨enum_fin hf, by simp⟩
end K10

namespace K10
open PySem PySem.Spec PyProof.Rows L2 Mo
theorem stepT {m n : Sg → Mh → RS} {sg : Sg} {h : Mh} {N : Sg → Mh → Prop} {T : D → Mh → Prop} {z y} (M : Sg → Mh → Prop) (w : (m sg h).wp M T) (k : ∀ sg h, M sg h → (n sg h).wp N T) : (sSeq m n sg h).wp N T z y := by
  rw [w_seq, wp_ths]
  exact w.mono (fun sg h p => k sg h p) (fun _ _ z => z)
theorem form_form {l : Ln} {h : Mh} : dIs l.form .non h = .ok (.bl false) h := rfl
theorem form_1 {l : Ln} {h : Mh} : dIx l.form (.int 1) h = .ok (.str l.wire) h := rfl
theorem form_0 {l : Ln} {h : Mh} : dIx l.form (.int 0) h = .ok (.str l.kind) h := rfl
theorem form_2 {l : Ln} {h : Mh} : dIx l.form (.int 2) h = .ok l.told h := rfl
theorem forms_ok {h : Mh} {ls : List Ln} (W : WF ls) : (f__forms_in [.str (textOf ls)] h).wp fun d h' => ∃ r, d = .ref r ∧ h'[r]? = some (.lst (ls.map Ln.form)) ∧ h.length ≤ r ∧ Ex h h' := by
  unfold f__forms_in m__forms_in
  rw [w_run]
  refine stepT (fun sg h' => sg = [some (.str (textOf ls)), none, none, none, none, none, none, none, none] ∧ h' = h) (by simp [startD, List.replicate, dIsi1, tyD, knT, isiB]) fun sg h1 ⟨e, eh⟩ => ?_
  subst e eh
  refine stepT (fun sg h' => ∃ r, sg = [some (.str (textOf ls)), some (.ref r), some (.bl false), none, none, none, none, none, none] ∧ h'[r]? = some (.lst ((ls.map Ln.line).map D.str)) ∧ Ex h1 h') ?_ fun sg h2 ⟨r, e, hr, X2⟩ => ?_
  · simp
    refine (cut_ok W.nms (by have := W.len; omega)).mono fun d h2 ⟨r, e, hr, X⟩ => ?_
    subst e
    simp
    exact ⟨by simpa using hr, X⟩
  subst e
  refine stepT (fun sg h' => ∃ f, sg = [some (.str (textOf ls)), some (.ref r), some (.bl false), some (.ref f), none, none, none, none, none] ∧ h'[f]? = some (.lst []) ∧ f = h2.length ∧ h'.length = h2.length + 1 ∧ Ex h2 h') (by simp; exact Ex.app) fun sg h3 ⟨f, e, hf, ef, el, X3⟩ => ?_
  subst e
  refine stepT (fun sg h' => ∃ g, sg = [some (.str (textOf ls)), some (.ref r), some (.bl false), some (.ref f), some (.ref g), none, none, none, none] ∧ h'[g]? = some (.dk (kvT [])) ∧ h'[f]? = some (.lst []) ∧ g = h2.length + 1 ∧ Ex h2 h') (by simp [el, hf, kvT]; refine ⟨?_, X3.trans Ex.app⟩; rw [List.getElem?_append_left (by omega)]; exact hf) fun sg h4 ⟨g, e, hg, hf4, eg, X4⟩ => ?_
  subst e
  have l1 := X2.len
  have l2 := lt_of hr
  refine stepT (fun sg h' => ∃ x y z w, sg = [some (.str (textOf ls)), some (.ref r), some (.bl false), some (.ref f), some (.ref g), x, y, z, w] ∧ h'[f]? = some (.lst (ls.map Ln.form)) ∧ h'[g]? = some (.dk (kvT (known ls))) ∧ Ex h2 h') ?_ fun sg h5 ⟨x, y, z, w, e, hf5, hg5, X5⟩ => ?_
  · rw [w_for, wp_th]
    simp [-List.map_map, X4.get hr]
    refine loop (fun j sg h' => ∃ x y z w, sg = [some (.str (textOf ls)), some (.ref r), some (.bl false), some (.ref f), some (.ref g), x, y, z, w] ∧ h'[f]? = some (.lst ((ls.take j).map Ln.form)) ∧ h'[g]? = some (.dk (kvT (known (ls.take j)))) ∧ Ex h2 h') ⟨_, _, _, _, rfl, by simpa using hf4, by simpa [known] using hg, X4⟩ (fun j x sg h' e ⟨a, b, c, d, es, hf', hg', X⟩ => ?_) (fun sg h' ⟨a, b, c, d, es, hf', hg', X⟩ => ?_)
    · subst es
      obtain ⟨q, e1, rfl⟩ := enum0 e
      rw [List.getElem?_map] at e1
      obtain ⟨q2, e2, rfl⟩ := Option.map_eq_some_iff.mp e1
      rw [List.getElem?_map] at e2
      obtain ⟨l, el, rfl⟩ := Option.map_eq_some_iff.mp e2
      have N := W.nms l (List.mem_of_getElem? el)
      refine ⟨enum_at (X.get hr) (by rw [List.getElem?_map, List.getElem?_map, el]; rfl), _, rfl, ?_⟩
      have sp : SpC l.line (Str.ofString " ") := spC (by decide +kernel) (by have := line_len N; omega)
      refine stepT (fun sg h'' => sg = [some (.str (textOf ls)), some (.ref r), some (.bl false), some (.ref f), some (.ref g), some (.int (j : Int)), some (.str l.line), some l.form, d] ∧ Ex h' h'') ?_ fun sg h6 ⟨e6, X6⟩ => ?_
      · simp [isTy, sp, split_line N]
        refine (form_ok (l := l) at_end N).mono fun d h'' ⟨e3, e4⟩ => ?_
        subst e3 e4
        simp
        exact Ex.app
      subst e6
      have jl : j < ls.length := (List.getElem?_eq_some_iff.mp el).1
      refine stepT (fun sg h'' => sg = [some (.str (textOf ls)), some (.ref r), some (.bl false), some (.ref f), some (.ref g), some (.int (j : Int)), some (.str l.line), some l.form, d] ∧ h'' = h6) (by simp [form_form]) fun sg h7 ⟨e7, e8⟩ => ?_
      subst e7 e8
      refine stepT (fun sg h'' => sg = [some (.str (textOf ls)), some (.ref r), some (.bl false), some (.ref f), some (.ref g), some (.int (j : Int)), some (.str l.line), some l.form, some .non] ∧ Ex h7 h'') ?_ fun sg h8 ⟨e9, X8⟩ => ?_
      · simp
        refine (fault_ok (X6.get hg') N (W.new j l el) (W.rd j l el)).mono fun d h'' ⟨e3, X⟩ => ?_
        subst e3
        simp
        exact X
      subst e9
      have hg8 := X8.get (X6.get hg')
      have hf8 := X8.get (X6.get hf')
      have gl := lt_of hg8
      have fg : f ≠ g := by omega
      have lk : LenC (kvT (known (ls.take j))).length := lenC (by
        unfold kvT
        rw [List.length_map]
        have := known_len (ls := ls.take j)
        have := List.length_take_le j ls
        have := W.len
        omega)
      have lf : LenC ((ls.take j).map Ln.form).length := lenC (by
        rw [List.length_map]
        have := List.length_take_le j ls
        have := W.len
        omega)
      rw [List.length_map] at lf
      refine stepT (fun sg h'' => sg = [some (.str (textOf ls)), some (.ref r), some (.bl false), some (.ref f), some (.ref g), some (.int (j : Int)), some (.str l.line), some l.form, some .non] ∧ h'' = h8) (by simp [dIsNot]) fun sg h9 ⟨e9, e10⟩ => ?_
      subst e9 e10
      simp [form_1, hg8, lk, W.put el, hf8, fg, fg.symm, lf, isTy]
      have fl := lt_of hf8
      refine ⟨lenC (by have := W.len; omega), ?_, set_at gl, ?_⟩
      · rw [set_at (by simpa using fl), List.take_add_one, List.getElem?_map, el]; rfl
      · exact (((X.trans X6).trans X8).put (by omega)).put (by omega)
    · subst es
      rw [enumD_len, List.length_map, List.length_map] at *
      rw [List.take_length] at hf' hg'
      exact ⟨by have := enum_fin (X.get hr); simpa using this, _, _, _, _, rfl, hf', hg', X⟩
  · subst e
    simp
    refine (from_ok W hf5 hg5).mono fun d h6 ⟨e, e6⟩ => ?_
    subst e e6
    simp
    exact ⟨hf5, by omega, X2.trans X5⟩
end K10

namespace Mo
open PySem PySem.Spec PyProof.Rows L2
theorem putD_len {κ : Type} [DecidableEq κ] {kvs : List (κ × D)} {k : κ} {v : D} : (putD kvs k v).length ≤ kvs.length + 1 := by
  unfold putD
  split
  · rw [List.length_map]; omega
  · rw [List.length_append]; simp
/-- a dict comprehension that changes nothing else -/
theorem dc_pure {s : Src} {g : D → Sg → Option Sg} {mk me : Sg → Mh → R D} {sg : Sg} {h : Mh} (Kf : D → Key) (F : D → D) {items : List D} (hl : items.length ≤ sizeLine)
    (hx : ∀ j x kvs, items[j]? = some x → s.at' j x (h ++ [.dk kvs]) ∧ ∃ sg1, g x sg = some sg1 ∧ ∃ kd, mk sg1 (h ++ [.dk kvs]) = .ok kd (h ++ [.dk kvs]) ∧ keyD kd = some (Kf x) ∧ me sg1 (h ++ [.dk kvs]) = .ok (F x) (h ++ [.dk kvs]))
    (fin : ∀ kvs, s.fin items.length (h ++ [.dk kvs])) (hi : items = s.items := by simp) : dcL s g mYes mk me sg h.length items 0 (h ++ [.dk []]) = .ok (.ref h.length) (h ++ [.dk (items.foldl (fun kvs x => putD kvs (Kf x) (F x)) [])]) := by
  subst hi
  have key : ∀ (k i : Nat) (kvs : List (Key × D)), k + i = s.items.length → kvs.length ≤ i → dcL s g mYes mk me sg h.length (s.items.drop i) i (h ++ [.dk kvs]) = .ok (.ref h.length) (h ++ [.dk ((s.items.drop i).foldl (fun kvs x => putD kvs (Kf x) (F x)) kvs)]) := fun k => by
    induction k with
    | zero =>
      intro i kvs e _
      have e : i = s.items.length := by omega
      subst e
      rw [List.drop_length]
      unfold dcL
      rw [if_pos (fin kvs)]; rfl
    | succ k ih =>
      intro i kvs e hk
      have l : i < s.items.length := by omega
      rw [List.drop_eq_getElem_cons l]
      obtain ⟨a, sg1, e1, kd, e2, e3, e4⟩ := hx i _ kvs (List.getElem?_eq_getElem l)
      unfold dcL
      rw [if_pos a]
      have bk : ∀ {α β : Type} (a : α) (h : Mh) (f : α → Mh → R β), ((R.ok a h).nox.bind f) = f a h := fun _ _ _ => rfl
      simp only [e1, show mYes sg1 (h ++ [.dk kvs]) = .ok true (h ++ [.dk kvs]) from rfl, bk, if_true, e2, e3, e4, at_end]
      rw [if_pos (by omega), List.set_append_right _ _ (Nat.le_refl _), Nat.sub_self]
      exact ih (i + 1) _ (by omega) (Nat.le_trans putD_len (by omega))
  exact key s.items.length 0 [] (by simp) (by simp)
/-- the same, of some items -/
theorem dc_pureT {s : Src} {g : D → Sg → Option Sg} {mt : Sg → Mh → R Bool} {mk me : Sg → Mh → R D} {sg : Sg} {h : Mh} (T : D → Bool) (Kf : D → Key) (F : D → D) {items : List D} (hl : items.length ≤ sizeLine)
    (hx : ∀ j x kvs, items[j]? = some x → s.at' j x (h ++ [.dk kvs]) ∧ ∃ sg1, g x sg = some sg1 ∧ mt sg1 (h ++ [.dk kvs]) = .ok (T x) (h ++ [.dk kvs]) ∧ ∃ kd, mk sg1 (h ++ [.dk kvs]) = .ok kd (h ++ [.dk kvs]) ∧ keyD kd = some (Kf x) ∧ me sg1 (h ++ [.dk kvs]) = .ok (F x) (h ++ [.dk kvs]))
    (fin : ∀ kvs, s.fin items.length (h ++ [.dk kvs])) (hi : items = s.items := by simp) : dcL s g mt mk me sg h.length items 0 (h ++ [.dk []]) = .ok (.ref h.length) (h ++ [.dk ((items.filter T).foldl (fun kvs x => putD kvs (Kf x) (F x)) [])]) := by
  subst hi
  have key : ∀ (k i : Nat) (kvs : List (Key × D)), k + i = s.items.length → kvs.length ≤ i → dcL s g mt mk me sg h.length (s.items.drop i) i (h ++ [.dk kvs]) = .ok (.ref h.length) (h ++ [.dk (((s.items.drop i).filter T).foldl (fun kvs x => putD kvs (Kf x) (F x)) kvs)]) := fun k => by
    induction k with
    | zero =>
      intro i kvs e _
      have e : i = s.items.length := by omega
      subst e
      rw [List.drop_length]
      unfold dcL
      rw [if_pos (fin kvs)]; rfl
    | succ k ih =>
      intro i kvs e hk
      have l : i < s.items.length := by omega
      rw [List.drop_eq_getElem_cons l]
      obtain ⟨a, sg1, e1, et, kd, e2, e3, e4⟩ := hx i _ kvs (List.getElem?_eq_getElem l)
      unfold dcL
      rw [if_pos a]
      have bk : ∀ {α β : Type} (a : α) (h : Mh) (f : α → Mh → R β), ((R.ok a h).nox.bind f) = f a h := fun _ _ _ => rfl
      simp only [e1, et, bk]
      cases eT : T s.items[i] with
      | true =>
        simp only [if_true, e2, bk, e3, e4, at_end]
        rw [if_pos (by omega), List.set_append_right _ _ (Nat.le_refl _), Nat.sub_self, List.filter_cons_of_pos eT]
        exact ih (i + 1) _ (by omega) (Nat.le_trans putD_len (by omega))
      | false =>
        simp only [Bool.false_eq_true, if_false]
        rw [List.filter_cons_of_neg (by rw [eT]; decide)]
        exact ih (i + 1) _ (by omega) (by omega)
  exact key s.items.length 0 [] (by simp) (by simp)
end Mo
namespace K10
open PySem PySem.Spec PyProof.Rows L2 Mo
def toldBy (k : Str) (ls : List Ln) : List D := (ls.filter fun l => decide (l.kind = k)).map Ln.told
def pK (k : Str) : D → Bool
  | .tup (.str x :: _) => decide (x = k)
  | _ => false
def pT : D → D
  | .tup [_, _, t, _] => t
  | _ => .non
theorem told_ok {h : Mh} {r : Nat} {ls : List Ln} {k : Str} (hr : h[r]? = some (.lst (ls.map Ln.form))) (hl : ls.length ≤ 1000) : (f__told_by [.ref r, .str k] h).wp fun d h' => d = .ref h.length ∧ h' = h ++ [.lst (toldBy k ls)] := by
  unfold f__told_by m__told_by
  simp [startD, List.replicate, hr, wipeD]
  refine wp_of (lc_pure (s := srcL r (ls.map Ln.form)) (g := gNm 2) (pK k) pT (items := ls.map Ln.form) (Nat.le_trans (by rw [List.length_map]; exact hl) line_le) (fun j x acc e => ?_) (fun acc => by simpa using srcL_fin (app_get hr))) ?_
  · have e0 := e
    rw [List.getElem?_map] at e
    obtain ⟨l, el, rfl⟩ := Option.map_eq_some_iff.mp e
    refine ⟨srcL_at (app_get hr) e0, _, rfl, ?_, fun _ => ?_⟩
    · rfl
    · rfl
  · rw [wp_rt]
    refine ⟨rfl, ?_⟩
    unfold toldBy
    rw [List.filter_map, List.map_map]
    rfl
theorem many_ok {h : Mh} {s : Str} {a b : Int} (l : a ≤ b) : (f__check_many [.str s, .int a, .int b] h).wp fun d h' => d = .non ∧ h' = h := by
  unfold f__check_many m__check_many
  have : ¬ b < a := by omega
  simp [startD, List.replicate, this]
end K10

namespace K10
open PySem PySem.Spec PyProof.Rows L2 Mo
@[simp] theorem fk_0_1 : (Str.ofString "_text" = Str.ofString "_cells") = False := eq_false (by decide +kernel)
@[simp] theorem fb_0_1 : (Str.ofString "_text" == Str.ofString "_cells") = false := by decide +kernel
@[simp] theorem fk_0_2 : (Str.ofString "_text" = Str.ofString "_ins") = False := eq_false (by decide +kernel)
@[simp] theorem fb_0_2 : (Str.ofString "_text" == Str.ofString "_ins") = false := by decide +kernel
@[simp] theorem fk_0_3 : (Str.ofString "_text" = Str.ofString "_gates") = False := eq_false (by decide +kernel)
@[simp] theorem fb_0_3 : (Str.ofString "_text" == Str.ofString "_gates") = false := by decide +kernel
@[simp] theorem fk_0_4 : (Str.ofString "_text" = Str.ofString "_opens") = False := eq_false (by decide +kernel)
@[simp] theorem fb_0_4 : (Str.ofString "_text" == Str.ofString "_opens") = false := by decide +kernel
@[simp] theorem fk_0_5 : (Str.ofString "_text" = Str.ofString "_kinds") = False := eq_false (by decide +kernel)
@[simp] theorem fb_0_5 : (Str.ofString "_text" == Str.ofString "_kinds") = false := by decide +kernel
@[simp] theorem fk_1_0 : (Str.ofString "_cells" = Str.ofString "_text") = False := eq_false (by decide +kernel)
@[simp] theorem fb_1_0 : (Str.ofString "_cells" == Str.ofString "_text") = false := by decide +kernel
@[simp] theorem fk_1_2 : (Str.ofString "_cells" = Str.ofString "_ins") = False := eq_false (by decide +kernel)
@[simp] theorem fb_1_2 : (Str.ofString "_cells" == Str.ofString "_ins") = false := by decide +kernel
@[simp] theorem fk_1_3 : (Str.ofString "_cells" = Str.ofString "_gates") = False := eq_false (by decide +kernel)
@[simp] theorem fb_1_3 : (Str.ofString "_cells" == Str.ofString "_gates") = false := by decide +kernel
@[simp] theorem fk_1_4 : (Str.ofString "_cells" = Str.ofString "_opens") = False := eq_false (by decide +kernel)
@[simp] theorem fb_1_4 : (Str.ofString "_cells" == Str.ofString "_opens") = false := by decide +kernel
@[simp] theorem fk_1_5 : (Str.ofString "_cells" = Str.ofString "_kinds") = False := eq_false (by decide +kernel)
@[simp] theorem fb_1_5 : (Str.ofString "_cells" == Str.ofString "_kinds") = false := by decide +kernel
@[simp] theorem fk_2_0 : (Str.ofString "_ins" = Str.ofString "_text") = False := eq_false (by decide +kernel)
@[simp] theorem fb_2_0 : (Str.ofString "_ins" == Str.ofString "_text") = false := by decide +kernel
@[simp] theorem fk_2_1 : (Str.ofString "_ins" = Str.ofString "_cells") = False := eq_false (by decide +kernel)
@[simp] theorem fb_2_1 : (Str.ofString "_ins" == Str.ofString "_cells") = false := by decide +kernel
@[simp] theorem fk_2_3 : (Str.ofString "_ins" = Str.ofString "_gates") = False := eq_false (by decide +kernel)
@[simp] theorem fb_2_3 : (Str.ofString "_ins" == Str.ofString "_gates") = false := by decide +kernel
@[simp] theorem fk_2_4 : (Str.ofString "_ins" = Str.ofString "_opens") = False := eq_false (by decide +kernel)
@[simp] theorem fb_2_4 : (Str.ofString "_ins" == Str.ofString "_opens") = false := by decide +kernel
@[simp] theorem fk_2_5 : (Str.ofString "_ins" = Str.ofString "_kinds") = False := eq_false (by decide +kernel)
@[simp] theorem fb_2_5 : (Str.ofString "_ins" == Str.ofString "_kinds") = false := by decide +kernel
@[simp] theorem fk_3_0 : (Str.ofString "_gates" = Str.ofString "_text") = False := eq_false (by decide +kernel)
@[simp] theorem fb_3_0 : (Str.ofString "_gates" == Str.ofString "_text") = false := by decide +kernel
@[simp] theorem fk_3_1 : (Str.ofString "_gates" = Str.ofString "_cells") = False := eq_false (by decide +kernel)
@[simp] theorem fb_3_1 : (Str.ofString "_gates" == Str.ofString "_cells") = false := by decide +kernel
@[simp] theorem fk_3_2 : (Str.ofString "_gates" = Str.ofString "_ins") = False := eq_false (by decide +kernel)
@[simp] theorem fb_3_2 : (Str.ofString "_gates" == Str.ofString "_ins") = false := by decide +kernel
@[simp] theorem fk_3_4 : (Str.ofString "_gates" = Str.ofString "_opens") = False := eq_false (by decide +kernel)
@[simp] theorem fb_3_4 : (Str.ofString "_gates" == Str.ofString "_opens") = false := by decide +kernel
@[simp] theorem fk_3_5 : (Str.ofString "_gates" = Str.ofString "_kinds") = False := eq_false (by decide +kernel)
@[simp] theorem fb_3_5 : (Str.ofString "_gates" == Str.ofString "_kinds") = false := by decide +kernel
@[simp] theorem fk_4_0 : (Str.ofString "_opens" = Str.ofString "_text") = False := eq_false (by decide +kernel)
@[simp] theorem fb_4_0 : (Str.ofString "_opens" == Str.ofString "_text") = false := by decide +kernel
@[simp] theorem fk_4_1 : (Str.ofString "_opens" = Str.ofString "_cells") = False := eq_false (by decide +kernel)
@[simp] theorem fb_4_1 : (Str.ofString "_opens" == Str.ofString "_cells") = false := by decide +kernel
@[simp] theorem fk_4_2 : (Str.ofString "_opens" = Str.ofString "_ins") = False := eq_false (by decide +kernel)
@[simp] theorem fb_4_2 : (Str.ofString "_opens" == Str.ofString "_ins") = false := by decide +kernel
@[simp] theorem fk_4_3 : (Str.ofString "_opens" = Str.ofString "_gates") = False := eq_false (by decide +kernel)
@[simp] theorem fb_4_3 : (Str.ofString "_opens" == Str.ofString "_gates") = false := by decide +kernel
@[simp] theorem fk_4_5 : (Str.ofString "_opens" = Str.ofString "_kinds") = False := eq_false (by decide +kernel)
@[simp] theorem fb_4_5 : (Str.ofString "_opens" == Str.ofString "_kinds") = false := by decide +kernel
@[simp] theorem fk_5_0 : (Str.ofString "_kinds" = Str.ofString "_text") = False := eq_false (by decide +kernel)
@[simp] theorem fb_5_0 : (Str.ofString "_kinds" == Str.ofString "_text") = false := by decide +kernel
@[simp] theorem fk_5_1 : (Str.ofString "_kinds" = Str.ofString "_cells") = False := eq_false (by decide +kernel)
@[simp] theorem fb_5_1 : (Str.ofString "_kinds" == Str.ofString "_cells") = false := by decide +kernel
@[simp] theorem fk_5_2 : (Str.ofString "_kinds" = Str.ofString "_ins") = False := eq_false (by decide +kernel)
@[simp] theorem fb_5_2 : (Str.ofString "_kinds" == Str.ofString "_ins") = false := by decide +kernel
@[simp] theorem fk_5_3 : (Str.ofString "_kinds" = Str.ofString "_gates") = False := eq_false (by decide +kernel)
@[simp] theorem fb_5_3 : (Str.ofString "_kinds" == Str.ofString "_gates") = false := by decide +kernel
@[simp] theorem fk_5_4 : (Str.ofString "_kinds" = Str.ofString "_opens") = False := eq_false (by decide +kernel)
@[simp] theorem fb_5_4 : (Str.ofString "_kinds" == Str.ofString "_opens") = false := by decide +kernel
@[simp] theorem mb_0_0 : (Str.ofString "cells" == Str.ofString "_text") = false := by decide +kernel
@[simp] theorem mb_0_1 : (Str.ofString "cells" == Str.ofString "_cells") = false := by decide +kernel
@[simp] theorem mb_0_2 : (Str.ofString "cells" == Str.ofString "_ins") = false := by decide +kernel
@[simp] theorem mb_0_3 : (Str.ofString "cells" == Str.ofString "_gates") = false := by decide +kernel
@[simp] theorem mb_0_4 : (Str.ofString "cells" == Str.ofString "_opens") = false := by decide +kernel
@[simp] theorem mb_0_5 : (Str.ofString "cells" == Str.ofString "_kinds") = false := by decide +kernel
@[simp] theorem mb_1_0 : (Str.ofString "secret_cells" == Str.ofString "_text") = false := by decide +kernel
@[simp] theorem mb_1_1 : (Str.ofString "secret_cells" == Str.ofString "_cells") = false := by decide +kernel
@[simp] theorem mb_1_2 : (Str.ofString "secret_cells" == Str.ofString "_ins") = false := by decide +kernel
@[simp] theorem mb_1_3 : (Str.ofString "secret_cells" == Str.ofString "_gates") = false := by decide +kernel
@[simp] theorem mb_1_4 : (Str.ofString "secret_cells" == Str.ofString "_opens") = false := by decide +kernel
@[simp] theorem mb_1_5 : (Str.ofString "secret_cells" == Str.ofString "_kinds") = false := by decide +kernel
@[simp] theorem mb_2_0 : (Str.ofString "ins" == Str.ofString "_text") = false := by decide +kernel
@[simp] theorem mb_2_1 : (Str.ofString "ins" == Str.ofString "_cells") = false := by decide +kernel
@[simp] theorem mb_2_2 : (Str.ofString "ins" == Str.ofString "_ins") = false := by decide +kernel
@[simp] theorem mb_2_3 : (Str.ofString "ins" == Str.ofString "_gates") = false := by decide +kernel
@[simp] theorem mb_2_4 : (Str.ofString "ins" == Str.ofString "_opens") = false := by decide +kernel
@[simp] theorem mb_2_5 : (Str.ofString "ins" == Str.ofString "_kinds") = false := by decide +kernel
@[simp] theorem mb_3_0 : (Str.ofString "gates" == Str.ofString "_text") = false := by decide +kernel
@[simp] theorem mb_3_1 : (Str.ofString "gates" == Str.ofString "_cells") = false := by decide +kernel
@[simp] theorem mb_3_2 : (Str.ofString "gates" == Str.ofString "_ins") = false := by decide +kernel
@[simp] theorem mb_3_3 : (Str.ofString "gates" == Str.ofString "_gates") = false := by decide +kernel
@[simp] theorem mb_3_4 : (Str.ofString "gates" == Str.ofString "_opens") = false := by decide +kernel
@[simp] theorem mb_3_5 : (Str.ofString "gates" == Str.ofString "_kinds") = false := by decide +kernel
@[simp] theorem mb_4_0 : (Str.ofString "opens" == Str.ofString "_text") = false := by decide +kernel
@[simp] theorem mb_4_1 : (Str.ofString "opens" == Str.ofString "_cells") = false := by decide +kernel
@[simp] theorem mb_4_2 : (Str.ofString "opens" == Str.ofString "_ins") = false := by decide +kernel
@[simp] theorem mb_4_3 : (Str.ofString "opens" == Str.ofString "_gates") = false := by decide +kernel
@[simp] theorem mb_4_4 : (Str.ofString "opens" == Str.ofString "_opens") = false := by decide +kernel
@[simp] theorem mb_4_5 : (Str.ofString "opens" == Str.ofString "_kinds") = false := by decide +kernel
@[simp] theorem mb_5_0 : (Str.ofString "wires" == Str.ofString "_text") = false := by decide +kernel
@[simp] theorem mb_5_1 : (Str.ofString "wires" == Str.ofString "_cells") = false := by decide +kernel
@[simp] theorem mb_5_2 : (Str.ofString "wires" == Str.ofString "_ins") = false := by decide +kernel
@[simp] theorem mb_5_3 : (Str.ofString "wires" == Str.ofString "_gates") = false := by decide +kernel
@[simp] theorem mb_5_4 : (Str.ofString "wires" == Str.ofString "_opens") = false := by decide +kernel
@[simp] theorem mb_5_5 : (Str.ofString "wires" == Str.ofString "_kinds") = false := by decide +kernel
@[simp] theorem mb_6_0 : (Str.ofString "text" == Str.ofString "_text") = false := by decide +kernel
@[simp] theorem mb_6_1 : (Str.ofString "text" == Str.ofString "_cells") = false := by decide +kernel
@[simp] theorem mb_6_2 : (Str.ofString "text" == Str.ofString "_ins") = false := by decide +kernel
@[simp] theorem mb_6_3 : (Str.ofString "text" == Str.ofString "_gates") = false := by decide +kernel
@[simp] theorem mb_6_4 : (Str.ofString "text" == Str.ofString "_opens") = false := by decide +kernel
@[simp] theorem mb_6_5 : (Str.ofString "text" == Str.ofString "_kinds") = false := by decide +kernel
structure Few (ls : List Ln) : Prop where
  o : (toldBy (Str.ofString "open") ls).length ≤ 8
  i : (toldBy (Str.ofString "in") ls).length ≤ 16
def cFs (t : Str) (c i g o w : Nat) : List (Str × D) := [(Str.ofString "_text", .str t), (Str.ofString "_cells", .ref c), (Str.ofString "_ins", .ref i), (Str.ofString "_gates", .ref g), (Str.ofString "_opens", .ref o), (Str.ofString "_kinds", .ref w)]
@[simp] theorem cf_t {t : Str} {c i g o w : Nat} : (cFs t c i g o w).lookup (Str.ofString "_text") = some (.str t) := by simp [cFs, List.lookup]
@[simp] theorem cf_c {t : Str} {c i g o w : Nat} : (cFs t c i g o w).lookup (Str.ofString "_cells") = some (.ref c) := by simp [cFs, List.lookup]
@[simp] theorem cf_i {t : Str} {c i g o w : Nat} : (cFs t c i g o w).lookup (Str.ofString "_ins") = some (.ref i) := by simp [cFs, List.lookup]
@[simp] theorem cf_g {t : Str} {c i g o w : Nat} : (cFs t c i g o w).lookup (Str.ofString "_gates") = some (.ref g) := by simp [cFs, List.lookup]
@[simp] theorem cf_o {t : Str} {c i g o w : Nat} : (cFs t c i g o w).lookup (Str.ofString "_opens") = some (.ref o) := by simp [cFs, List.lookup]
@[simp] theorem cf_w {t : Str} {c i g o w : Nat} : (cFs t c i g o w).lookup (Str.ofString "_kinds") = some (.ref w) := by simp [cFs, List.lookup]
@[simp] theorem cf_m0 {t : Str} {c i g o w : Nat} : (cFs t c i g o w).lookup (Str.ofString "cells") = none := by simp [cFs, List.lookup]
@[simp] theorem cf_m1 {t : Str} {c i g o w : Nat} : (cFs t c i g o w).lookup (Str.ofString "secret_cells") = none := by simp [cFs, List.lookup]
@[simp] theorem cf_m2 {t : Str} {c i g o w : Nat} : (cFs t c i g o w).lookup (Str.ofString "ins") = none := by simp [cFs, List.lookup]
@[simp] theorem cf_m3 {t : Str} {c i g o w : Nat} : (cFs t c i g o w).lookup (Str.ofString "gates") = none := by simp [cFs, List.lookup]
@[simp] theorem cf_m4 {t : Str} {c i g o w : Nat} : (cFs t c i g o w).lookup (Str.ofString "opens") = none := by simp [cFs, List.lookup]
@[simp] theorem cf_m5 {t : Str} {c i g o w : Nat} : (cFs t c i g o w).lookup (Str.ofString "wires") = none := by simp [cFs, List.lookup]
@[simp] theorem cf_m6 {t : Str} {c i g o w : Nat} : (cFs t c i g o w).lookup (Str.ofString "text") = none := by simp [cFs, List.lookup]
def Ln.giver : Ln → D
  | .sec _ _ => .str (Str.ofString "cell")
  | .cel _ _ _ => .str (Str.ofString "cell")
  | .inn _ => .str (Str.ofString "in")
  | .opn _ => .str (Str.ofString "open")
  | .gno _ _ => .str (Str.ofString "not")
  | .gbi _ x _ _ => .str (kS x)
def kvK (ls : List Ln) : List (Key × D) := (ls.filter fun l => !l.isOpn).map fun l => (Sum.inr l.wire, l.giver)
theorem kvK_keys {ls : List Ln} : (kvK ls).map (·.1) = (known ls).map Sum.inr := by unfold kvK known; rw [List.map_map, List.map_map]; rfl
theorem kvK_val {ls : List Ln} {s : Str} : (valD (kvK ls) (Sum.inr s)).isSome = decide (s ∈ known ls) := by
  unfold valD
  rw [Option.isSome_map]
  by_cases e : s ∈ known ls
  · rw [decide_eq_true e, List.find?_isSome]
    have : (Sum.inr s : Key) ∈ (kvK ls).map (·.1) := by rw [kvK_keys]; exact List.mem_map_of_mem e
    obtain ⟨kv, h1, h2⟩ := List.mem_map.mp this
    exact ⟨kv, h1, by rw [h2]; exact decide_eq_true rfl⟩
  · rw [decide_eq_false e]
    have : ((kvK ls).find? fun kv => decide (kv.1 = Sum.inr s)) = none := by
      rw [List.find?_eq_none]
      intro kv hkv z
      rw [decide_eq_true_eq] at z
      have : kv.1 ∈ (known ls).map Sum.inr := by rw [← kvK_keys]; exact List.mem_map_of_mem hkv
      rw [z] at this
      obtain ⟨n, hn, q⟩ := List.mem_map.mp this
      cases q; exact e hn
    rw [this]; rfl
theorem kvK_snoc {ls : List Ln} {l : Ln} : kvK (ls ++ [l]) = if l.isOpn then kvK ls else kvK ls ++ [(Sum.inr l.wire, l.giver)] := by
  unfold kvK
  rw [List.filter_append, List.map_append]
  cases h : l.isOpn <;> simp [h]
def keptF : D → Bool
  | .tup (.str x :: _) => !decide (x = Str.ofString "open")
  | _ => false
theorem keptF_form {l : Ln} : keptF l.form = !l.isOpn := by
  show (!decide (l.kind = Str.ofString "open")) = _
  simp only [kind_open]
  cases l.isOpn <;> rfl
def giverF : D → D
  | .tup [.str x, _, .tup (_ :: k :: _), _] => if x = Str.ofString "gate" then k else .str x
  | .tup (.str x :: _) => .str x
  | _ => .non
theorem giverF_form {l : Ln} : giverF l.form = l.giver := by cases l <;> simp [Ln.form, giverF, Ln.kind, Ln.told, Ln.giver]
theorem giver_ok {h : Mh} {l : Ln} : f__giver_of [l.form] h = .ok l.giver h := by
  have : (f__giver_of [l.form] h).wp fun d h' => d = l.giver ∧ h' = h := by
    unfold f__giver_of m__giver_of
    cases l <;> simp [startD, List.replicate, Ln.form, Ln.kind, Ln.told, Ln.giver, atI, ixN]
  obtain ⟨d, h', e, rfl, rfl⟩ := this.out
  exact e
structure CircX (h : Mh) (n : Nat) (ls : List Ln) (c i g o w : Nat) : Prop where
  at_ : h[n]? = some (.ins (Str.ofString "Circuit") (cFs (textOf ls) c i g o w))
  c : h[c]? = some (.lst (toldBy (Str.ofString "cell") ls))
  i : h[i]? = some (.lst (toldBy (Str.ofString "in") ls))
  g : h[g]? = some (.lst (toldBy (Str.ofString "gate") ls))
  o : h[o]? = some (.lst (toldBy (Str.ofString "open") ls))
  w : h[w]? = some (.dk (kvK ls))
def Circ (h : Mh) (n : Nat) (ls : List Ln) : Prop := ∃ c i g o w, CircX h n ls c i g o w
theorem Circ.ex {h h' : Mh} {n : Nat} {ls : List Ln} (C : Circ h n ls) (X : Ex h h') : Circ h' n ls := by
  obtain ⟨c, i, g, o, w, C⟩ := C
  exact ⟨c, i, g, o, w, X.get C.at_, X.get C.c, X.get C.i, X.get C.g, X.get C.o, X.get C.w⟩
theorem fold_known {ls : List Ln} (W : WF ls) : ((ls.map Ln.form).filter keptF).foldl (fun kvs x => putD kvs (match x with
    | .tup (_ :: .str s :: _) => Sum.inr s
    | _ => Sum.inl 0) (giverF x)) [] = kvK ls := by
  have key : ∀ j, j ≤ ls.length → (((ls.take j).map Ln.form).filter keptF).foldl (fun kvs x => putD kvs (match x with
    | .tup (_ :: .str s :: _) => Sum.inr s
    | _ => Sum.inl 0) (giverF x)) [] = kvK (ls.take j) := fun j => by
    induction j with
    | zero => intro _; rfl
    | succ j ih =>
      intro hj
      have e : ls[j]? = some ls[j] := List.getElem?_eq_getElem hj
      rw [take_snoc e, List.map_append, List.filter_append, List.foldl_append, ih (by omega), kvK_snoc]
      cases o : ls[j].isOpn with
      | true =>
        rw [show ([ls[j]].map Ln.form).filter keptF = [] from by simp [keptF_form, o]]
        rfl
      | false =>
        rw [show ([ls[j]].map Ln.form).filter keptF = [ls[j].form] from by simp [keptF_form, o]]
        show putD (kvK (ls.take j)) (Sum.inr ls[j].wire) (giverF ls[j].form) = _
        rw [giverF_form, putD_out (by rw [kvK_keys]; intro z; obtain ⟨n, hn, q⟩ := List.mem_map.mp z; cases q; exact W.new j _ e o hn)]
        rfl
  have := key ls.length (Nat.le_refl _)
  rwa [List.take_length] at this
theorem wires_ok {h : Mh} {r : Nat} {ls : List Ln} {sg : Sg} (W : WF ls) (hr : h[r]? = some (.lst (ls.map Ln.form))) (h2 : sg[2]? = some (some (.ref r))) (h3 : 3 < sg.length) : (mDc (mIter (mVar 2)) (gNm 3) (mTest (m2 (dE true) (m2 dIx (mVar 3) (mLit (.int 0))) (mLit (.str (Str.ofString "open"))))) (m2 dIx (mVar 3) (mLit (.int 1))) (mCall 1 f__giver_of (mCons (mVar 3) mNil) []) [3] sg h).wp fun d h' => d = .ref h.length ∧ h' = h ++ [.dk (kvK ls)] := by
  simp [h2, hr]
  refine wp_of (dc_pureT (s := srcL r (ls.map Ln.form)) (g := gNm 3) keptF (fun x => match x with
    | .tup (_ :: .str s :: _) => Sum.inr s
    | _ => Sum.inl 0) giverF (items := ls.map Ln.form) (Nat.le_trans (by rw [List.length_map]; exact Nat.le_trans W.len (by decide)) line_le) (fun j x kvs e => ?_) (fun kvs => by simpa using srcL_fin (app_get hr))) ?_
  · have e0 := e
    rw [List.getElem?_map] at e
    obtain ⟨l, el, rfl⟩ := Option.map_eq_some_iff.mp e
    have v : ((wipeD sg [3]).set 3 (some l.form))[3]? = some (some l.form) := by simp [wipeD, h3]
    refine ⟨srcL_at (app_get hr) e0, _, rfl, ?_, .str l.wire, ?_, rfl, ?_⟩
    · show R.bind (R.bind (R.bind (mVar 3 _ _) _) _) _ = _
      unfold mVar
      rw [v]
      rfl
    · show (mVar 3 _ _).bind _ = _
      unfold mVar
      rw [v]
      exact form_1
    · show R.bind (R.bind (mVar 3 _ _) _) _ = _
      unfold mVar
      rw [v]
      show f__giver_of [l.form] _ = _
      rw [giver_ok, giverF_form]
  · rw [fold_known W]
    simp
theorem tstep {h : Mh} {n r : Nat} {ls : List Ln} {sg : Sg} {fs : List (Str × D)} {f k : Str} {T : D → Mh → Prop} (hn : h[n]? = some (.ins (Str.ofString "Circuit") fs)) (hr : h[r]? = some (.lst (ls.map Ln.form))) (hl : ls.length ≤ 1000) (h0 : sg[0]? = some (some (.ref n))) (h2 : sg[2]? = some (some (.ref r))) (lf : fs.length < 1000) :
    (sFldSt (Str.ofString "Circuit") f (mVar 0) (mCall 2 f__told_by (mCons (mVar 2) (mCons (mLit (.str k)) mNil)) []) sg h).wp (fun sg' h' => sg' = sg ∧ h'[n]? = some (.ins (Str.ofString "Circuit") (putFD f (.ref h.length) fs)) ∧ h'[h.length]? = some (.lst (toldBy k ls)) ∧ h.length < h'.length ∧ Gr n h h') T := by
  have nl := lt_of hn
  simp [h0, h2]
  refine (told_ok hr hl).mono fun d h' ⟨e, e2⟩ => ?_
  subst e e2
  have nn : h.length ≠ n := by omega
  simp [h0, app_get hn, lf]
  refine ⟨by rw [List.getElem?_set_self (by simp; omega)], by rw [List.getElem_set_ne (by omega)]; simp, (Ex.app.gr (b := n)).put (.inr rfl)⟩
theorem mstep {h : Mh} {n c : Nat} {sg : Sg} {fs : List (Str × D)} {f k : Str} {m : Int} {xs : List D} {T : D → Mh → Prop} (hn : h[n]? = some (.ins (Str.ofString "Circuit") fs)) (hf : fs.lookup f = some (.ref c)) (hc : h[c]? = some (.lst xs)) (l : (xs.length : Int) ≤ m) (h0 : sg[0]? = some (some (.ref n))) :
    (sExpr (mCall 3 f__check_many (mCons (mLit (.str k)) (mCons (mBi dLen (mCons (m1 (dFld (Str.ofString "Circuit") f) (mVar 0)) mNil)) (mCons (mLit (.int m)) mNil))) []) sg h).wp (fun sg' h' => sg' = sg ∧ h' = h) T := by
  simp [h0, hn, hf, hc]
  refine (many_ok (h := h) (s := k) l).mono fun d h' ⟨e, e2⟩ => ?_
  subst e e2
  simp
theorem told_len {k : Str} {ls : List Ln} : (toldBy k ls).length ≤ ls.length := by
  unfold toldBy
  rw [List.length_map]; exact List.length_filter_le ..
theorem init_ok' {h : Mh} {n : Nat} {ls : List Ln} (W : WF ls) (F : Few ls) (hn : h[n]? = some (.ins (Str.ofString "Circuit") [])) : (f_Circuit___init__ [.ref n, .str (textOf ls)] h).wp fun d h' => d = .non ∧ (∃ c i g o w, CircX h' n ls c i g o w ∧ h.length ≤ c ∧ h.length ≤ i ∧ h.length ≤ g ∧ h.length ≤ o ∧ h.length ≤ w) ∧ Gr n h h' := by
  unfold f_Circuit___init__ m_Circuit___init__
  have nl := lt_of hn
  rw [w_run]
  refine stepT (fun sg h' => ∃ r, sg = [some (.ref n), some (.str (textOf ls)), some (.ref r), none] ∧ h'[r]? = some (.lst (ls.map Ln.form)) ∧ h.length ≤ r ∧ Ex h h') ?_ fun sg h1 ⟨r, e, hr, hl, X1⟩ => ?_
  · simp [startD, List.replicate]
    refine (forms_ok W).mono fun d h' ⟨r, e, hr, hl, X⟩ => ?_
    subst e
    simp
    exact ⟨hr, hl, X⟩
  have ls1 : ls.length ≤ 1000 := Nat.le_trans W.len (by decide)
  have hn1 := X1.get hn
  have h0 : sg[0]? = some (some (.ref n)) := by rw [e]; rfl
  have h2 : sg[2]? = some (some (.ref r)) := by rw [e]; rfl
  have h3 : 3 < sg.length := by rw [e]; simp
  have h4 : sg[1]? = some (some (.str (textOf ls))) := by rw [e]; rfl
  have rn : r ≠ n := by omega
  clear e
  refine stepT (fun sg' h' => sg' = sg ∧ h' = h1.set n (.ins (Str.ofString "Circuit") [(Str.ofString "_text", .str (textOf ls))])) (by simp [h0, h4, hn1, putFD]) fun sg' h2' ⟨e, eh⟩ => ?_
  subst e
  have hn2 : h2'[n]? = some (.ins (Str.ofString "Circuit") [(Str.ofString "_text", .str (textOf ls))]) := by rw [eh]; exact set_at (lt_of hn1)
  have G2 : Gr n h h2' := by rw [eh]; exact (X1.gr (b := n)).put (.inr rfl)
  have hr2 : h2'[r]? = some (.lst (ls.map Ln.form)) := by rw [eh, set_off rn.symm]; exact hr
  clear eh
  refine stepT _ (tstep hn2 hr2 ls1 h0 h2 (by simp)) fun sg' h3' ⟨e, hn3, hc, l3, G3⟩ => ?_
  subst e
  have hr3 := G3.get rn hr2
  refine stepT _ (tstep hn3 hr3 ls1 h0 h2 (by simp [putFD])) fun sg' h4' ⟨e, hn4, hi, l4, G4⟩ => ?_
  subst e
  have hr4 := G4.get rn hr3
  refine stepT _ (tstep hn4 hr4 ls1 h0 h2 (by simp [putFD])) fun sg' h5' ⟨e, hn5, hg, l5, G5⟩ => ?_
  subst e
  have hr5 := G5.get rn hr4
  refine stepT _ (tstep hn5 hr5 ls1 h0 h2 (by simp [putFD])) fun sg' h6' ⟨e, hn6, ho, l6, G6⟩ => ?_
  subst e
  have hr6 := G6.get rn hr5
  have n2 := lt_of hn2
  have cn : h2'.length ≠ n := by omega
  have i_n : h3'.length ≠ n := by omega
  have gn : h4'.length ≠ n := by omega
  have on : h5'.length ≠ n := by omega
  have n6 := lt_of hn6
  refine stepT (fun sg'' h' => sg'' = sg' ∧ h'[n]? = some (.ins (Str.ofString "Circuit") (cFs (textOf ls) h2'.length h3'.length h4'.length h5'.length h6'.length)) ∧ h'[h6'.length]? = some (.dk (kvK ls)) ∧ Gr n h6' h') ?_ fun sg'' h7 ⟨e, hn7, hw, G7⟩ => ?_
  · rw [w_fldSt, wp_th]
    refine (wires_ok W hr6 h2 h3).mono fun d h' ⟨e, e2⟩ => ?_
    subst e e2
    simp [h0, app_get hn6, putFD]
    refine ⟨by rw [List.getElem?_set_self (by simp; omega)]; rfl, by rw [List.getElem_set_ne (by omega)]; simp, (Ex.app.gr (b := n)).put (.inr rfl)⟩
  subst e
  have hc7 := G7.get cn (G6.get cn (G5.get cn (G4.get cn hc)))
  have hi7 := G7.get i_n (G6.get i_n (G5.get i_n hi))
  have hg7 := G7.get gn (G6.get gn hg)
  have ho7 := G7.get on ho
  have l60 := W.len
  have e1 := G2.len
  have e2 := G6.len
  have fin : (∃ c i g o w, CircX h7 n ls c i g o w ∧ h.length ≤ c ∧ h.length ≤ i ∧ h.length ≤ g ∧ h.length ≤ o ∧ h.length ≤ w) ∧ Gr n h h7 := ⟨⟨_, _, _, _, _, ⟨hn7, hc7, hi7, hg7, ho7, hw⟩, by omega, by omega, by omega, by omega, by omega⟩, G2.trans (G3.trans (G4.trans (G5.trans (G6.trans G7))))⟩
  clear hw
  refine stepT _ (mstep (k := Str.ofString "cells") (m := 120) hn7 (by simp) hc7 (by have := told_len (k := Str.ofString "cell") (ls := ls); omega) h0) fun sg' h8 ⟨e, eh⟩ => ?_
  subst e eh
  refine stepT _ (mstep (k := Str.ofString "ins") (m := 16) hn7 (by simp) hi7 (by have := F.i; omega) h0) fun sg' h9 ⟨e, eh⟩ => ?_
  subst e eh
  refine stepT _ (mstep (k := Str.ofString "gates") (m := 4000) hn7 (by simp) hg7 (by have := told_len (k := Str.ofString "gate") (ls := ls); omega) h0) fun sg' h10 ⟨e, eh⟩ => ?_
  subst e eh
  refine RS.wp.mono (mstep (T := fun _ _ => False) (k := Str.ofString "opens") (m := 8) hn7 (by simp) ho7 (by have := F.o; omega) h0) (fun sg' h11 ⟨e, eh⟩ => ?_) fun _ _ z => z.elim
  subst e eh
  exact ⟨rfl, fin⟩
end K10

namespace K10
open PySem PySem.Spec PyProof.Rows L2 Mo
section
variable {h : Mh} {n : Nat} {ls : List Ln}
theorem cells_ok (C : Circ h n ls) : (f_Circuit_cells [.ref n] h).wp fun d h' => d = .ref h.length ∧ h' = h ++ [.lst (toldBy (Str.ofString "cell") ls)] := by
  obtain ⟨c, i, g, o, w, C⟩ := C
  unfold f_Circuit_cells m_Circuit_cells
  simp [startD, List.replicate, C.at_, C.c]
theorem ins_ok (C : Circ h n ls) : (f_Circuit_ins [.ref n] h).wp fun d h' => d = .ref h.length ∧ h' = h ++ [.lst (toldBy (Str.ofString "in") ls)] := by
  obtain ⟨c, i, g, o, w, C⟩ := C
  unfold f_Circuit_ins m_Circuit_ins
  simp [startD, List.replicate, C.at_, C.i]
theorem gates_ok (C : Circ h n ls) : (f_Circuit_gates [.ref n] h).wp fun d h' => d = .ref h.length ∧ h' = h ++ [.lst (toldBy (Str.ofString "gate") ls)] := by
  obtain ⟨c, i, g, o, w, C⟩ := C
  unfold f_Circuit_gates m_Circuit_gates
  simp [startD, List.replicate, C.at_, C.g]
theorem opens_ok (C : Circ h n ls) : (f_Circuit_opens [.ref n] h).wp fun d h' => d = .ref h.length ∧ h' = h ++ [.lst (toldBy (Str.ofString "open") ls)] := by
  obtain ⟨c, i, g, o, w, C⟩ := C
  unfold f_Circuit_opens m_Circuit_opens
  simp [startD, List.replicate, C.at_, C.o]
theorem wires_l (C : Circ h n ls) : (f_Circuit_wires [.ref n] h).wp fun d h' => d = .ref h.length ∧ h' = h ++ [.lst ((known ls).map D.str)] := by
  obtain ⟨c, i, g, o, w, C⟩ := C
  unfold f_Circuit_wires m_Circuit_wires
  simp [startD, List.replicate, C.at_, C.w, kvK, known]
  intro a _ _; rfl
theorem text_ok (C : Circ h n ls) : (f_Circuit_text [.ref n] h).wp fun d h' => d = .str (textOf ls) ∧ h' = h := by
  obtain ⟨c, i, g, o, w, C⟩ := C
  unfold f_Circuit_text m_Circuit_text
  simp [startD, List.replicate, C.at_]
theorem str_ok (C : Circ h n ls) : (f_Circuit___str__ [.ref n] h).wp fun d h' => d = .str (textOf ls) ∧ h' = h := by
  obtain ⟨c, i, g, o, w, C⟩ := C
  unfold f_Circuit___str__ m_Circuit___str__
  simp [startD, List.replicate, C.at_, dStr]
def Ln.isSec : Ln → Bool
  | .sec _ _ => true
  | _ => false
def secs (ls : List Ln) : List Str := (ls.filter Ln.isSec).map Ln.wire
def pN : D → Bool
  | .tup [_, .non, _] => true
  | _ => false
def pH : D → D
  | .tup (x :: _) => x
  | _ => .non
theorem told_cons {k : Str} {l : Ln} : toldBy k (l :: ls) = if l.kind = k then l.told :: toldBy k ls else toldBy k ls := by
  unfold toldBy
  by_cases e : l.kind = k <;> simp [e]
theorem secs_eq : ((toldBy (Str.ofString "cell") ls).filter pN).map pH = (secs ls).map D.str := by
  induction ls with
  | nil => rfl
  | cons l ls ih =>
    rw [told_cons]
    have e : secs (l :: ls) = if l.isSec = true then l.wire :: secs ls else secs ls := by
      unfold secs
      by_cases e : l.isSec = true <;> simp [e]
    rw [e]
    cases l with
    | sec n f =>
      rw [if_pos (by rfl : (Ln.sec n f).kind = Str.ofString "cell"), if_pos (by rfl : (Ln.sec n f).isSec = true), List.map_cons, ← ih]; rfl
    | cel n b f =>
      rw [if_pos (by rfl : (Ln.cel n b f).kind = Str.ofString "cell"), if_neg (by simp [Ln.isSec]), ← ih]; rfl
    | _ => rw [if_neg (by simp [Ln.kind]), if_neg (by simp [Ln.isSec])]; exact ih
theorem secret_ok (C : Circ h n ls) (hl : ls.length ≤ 1000) : (f_Circuit_secret_cells [.ref n] h).wp fun d h' => d = .ref h.length ∧ h' = h ++ [.lst ((secs ls).map D.str)] := by
  obtain ⟨c, i, g, o, w, C⟩ := C
  unfold f_Circuit_secret_cells m_Circuit_secret_cells
  simp [startD, List.replicate, C.at_, C.c, wipeD]
  have tl := told_len (k := Str.ofString "cell") (ls := ls)
  refine wp_of (lc_pure (s := srcL c (toldBy (Str.ofString "cell") ls)) (g := gNm 1) pN pH (items := toldBy (Str.ofString "cell") ls) (Nat.le_trans (Nat.le_trans tl hl) line_le) (fun j x acc e => ?_) (fun acc => by simpa using srcL_fin (app_get C.c))) ?_
  · refine ⟨srcL_at (app_get C.c) e, _, rfl, ?_⟩
    obtain ⟨l, hl, rfl⟩ := List.mem_map.mp (List.mem_of_getElem? e)
    have hk := (List.mem_filter.mp hl).2
    cases l with
    | sec n f => exact ⟨rfl, fun _ => rfl⟩
    | cel n b f => exact ⟨rfl, fun _ => rfl⟩
    | _ => simp [Ln.kind] at hk
  · rw [wp_rt, secs_eq]
    exact ⟨rfl, rfl⟩
theorem has_str (C : Circ h n ls) {s : Str} : (f_Circuit___contains__ [.ref n, .str s] h).wp fun d h' => d = .bl (decide (s ∈ known ls)) ∧ h' = h := by
  obtain ⟨c, i, g, o, w, C⟩ := C
  unfold f_Circuit___contains__ m_Circuit___contains__
  simp [startD, List.replicate, C.at_, C.w, dIsi1, tyD, knT, isiB, kvK_val]
theorem has_no (C : Circ h n ls) {x : D} {t : String} (ht : tyD x h = some t) (hs : t ≠ "str") : (f_Circuit___contains__ [.ref n, x] h).wp fun d h' => d = .bl false ∧ h' = h := by
  obtain ⟨c, i, g, o, w, C⟩ := C
  have e1 : isiB t "str" = false := by unfold isiB; simp [hs]
  unfold f_Circuit___contains__ m_Circuit___contains__
  simp [startD, List.replicate, C.at_, C.w, dIsi1, ht, knT, e1]
theorem eq_circ (C : Circ h n ls) {m : Nat} {ms : List Ln} (D' : Circ h m ms) : (f_Circuit___eq__ [.ref n, .ref m] h).wp fun d h' => d = .bl (decide (textOf ls = textOf ms)) ∧ h' = h := by
  obtain ⟨c, i, g, o, w, C⟩ := C
  obtain ⟨c', i', g', o', w', C'⟩ := D'
  unfold f_Circuit___eq__ m_Circuit___eq__
  simp [startD, List.replicate, C.at_, C'.at_, dIsO]
theorem eq_no (C : Circ h n ls) {y : D} {t : String} (hy : insAt (Str.ofString "Circuit") y h = none) (ht : tyD y h = some t) : (f_Circuit___eq__ [.ref n, y] h).wp fun d h' => d = .bl false ∧ h' = h := by
  obtain ⟨c, i, g, o, w, C⟩ := C
  unfold f_Circuit___eq__ m_Circuit___eq__
  simp [startD, List.replicate, C.at_, dIsO, hy, ht]
end
end K10

namespace K10
open PySem PySem.Spec PyProof.Rows L2 Mo
theorem lc_ex {s : Src} {g : D → Sg → Option Sg} {me : Sg → Mh → R D} {sg : Sg} {h : Mh} (F : D → D) {items : List D} (hl : items.length ≤ sizeLine)
    (hx : ∀ j x acc h', items[j]? = some x → Ex h h' → h'[h.length]? = some (.lst acc) → s.at' j x h' ∧ ∃ sg1, g x sg = some sg1 ∧ (me sg1 h').wp fun d h2 => d = F x ∧ Ex h' h2)
    (fin : ∀ h', Ex h h' → s.fin items.length h') (hi : items = s.items := by simp) : (lcL s g mYes me sg h.length items 0 (h ++ [.lst []])).wp fun d h' => d = .ref h.length ∧ Ex h h' ∧ h'[h.length]? = some (.lst (items.map F)) := by
  subst hi
  show (lcL s g mYes me sg h.length (s.items.drop 0) 0 (h ++ [.lst []])).wp _
  refine lc_wp (fun j acc h' => acc = (s.items.take j).map F ∧ Ex h h') (fun j x acc h' e ⟨ea, eh⟩ hn => ?_) (fun acc h' ⟨ea, eh⟩ hn => ?_) s.items.length 0 [] _ (by simp) ⟨by simp, Ex.app⟩ at_end
  · obtain ⟨a, sg1, e1, e2⟩ := hx j x acc h' e eh hn
    have lj : j < s.items.length := (List.getElem?_eq_some_iff.mp e).1
    have tk : s.items.take (j + 1) = s.items.take j ++ [x] := by rw [List.take_add_one, e]; rfl
    refine ⟨a, sg1, e1, ?_⟩
    simp only [w_yes, wp_ok, if_true]
    refine e2.mono fun d h2 ⟨ed, e3⟩ => ?_
    subst ed
    refine ⟨e3.get hn, ?_, ?_, ?_⟩
    · rw [ea, List.length_map, List.length_take]; omega
    · rw [tk, List.map_append, ← ea]; rfl
    · exact (eh.trans e3).put (Nat.le_refl _)
  · rw [List.take_length] at ea
    exact ⟨fin h' eh, by rfl, eh, by rw [hn, ea]⟩
/-! found is like due -/
inductive Lk : Nat → Mh → D → D → Prop
  | non {k h} : Lk (k + 1) h .non .non
  | int {k h} (x : Int) : Lk (k + 1) h (.int x) (.int x)
  | str {k h} (x : Str) : Lk (k + 1) h (.str x) (.str x)
  | bl {k h} (x : Bool) : Lk (k + 1) h (.bl x) (.bl x)
  | tup {k h} {xs ys : List D} : xs.length = ys.length → xs.length ≤ 1000 → (∀ (i : Nat) (x y : D), xs[i]? = some x → ys[i]? = some y → Lk k h x y) → Lk (k + 1) h (.tup xs) (.tup ys)
  | lst {k h} {n m : Nat} {xs ys : List D} : h[n]? = some (.lst xs) → h[m]? = some (.lst ys) → xs.length = ys.length → xs.length ≤ 1000 → (∀ (i : Nat) (x y : D), xs[i]? = some x → ys[i]? = some y → Lk k h x y) → Lk (k + 1) h (.ref n) (.ref m)
theorem Lk.ex {k h h' x y} (l : Lk k h x y) (e : Ex h h') : Lk k h' x y := by
  induction l with
  | non => exact .non
  | int x => exact .int x
  | str x => exact .str x
  | bl x => exact .bl x
  | tup a b c ih => exact .tup a b fun i x y e1 e2 => ih i x y e1 e2 e
  | lst n m a b c ih => exact .lst (e.get n) (e.get m) a b fun i x y e1 e2 => ih i x y e1 e2 e
theorem zipD_length : ∀ {xs ys : List D}, xs.length = ys.length → (zipD xs ys).length = xs.length
  | [], [], _ => rfl
  | [], _ :: _, e => by cases e
  | _ :: _, [], e => by cases e
  | x :: xs, y :: ys, e => congrArg (· + 1) (zipD_length (Nat.succ.inj e))
theorem like_ok : ∀ (k : Nat) (h : Mh) (x y : D), Lk k h x y → (f__law_like k [x, y] h).wp fun d h' => d = .bl true ∧ Ex h h'
  | 0, h, x, y, l => by cases l
  | k + 1, h, x, y, l => by
    cases l with
    | non =>
      unfold f__law_like m__law_like
      simp [startD, List.replicate, dIs, dIsi1, dIsi2, dIsi3, tyD, knT, isiB]
      exact Ex.rfl
    | int x =>
      unfold f__law_like m__law_like
      simp [startD, List.replicate, dIs, dIsi1, dIsi2, dIsi3, tyD, knT, isiB]
      exact Ex.rfl
    | str x =>
      unfold f__law_like m__law_like
      simp [startD, List.replicate, dIs, dIsi1, dIsi2, dIsi3, tyD, knT, isiB]
      exact Ex.rfl
    | bl x =>
      unfold f__law_like m__law_like
      simp [startD, List.replicate, dIs, dIsi1, dIsi2, dIsi3, tyD, knT, isiB]
      exact Ex.rfl
    | @tup _ _ xs ys a b c =>
      unfold f__law_like m__law_like
      simp [startD, List.replicate, dIs, dIsi1, dIsi2, dIsi3, tyD, knT, isiB, a, wipeD]
      refine (lc_ex (fun _ => .bl true) (Nat.le_trans (by rw [zipD_length a]; omega) line_le) (fun j x acc h' e eh hn => ?_) (fun h' eh => trivial)).mono fun d h' ⟨ed, eh, hn⟩ => ?_
      · obtain ⟨p, q, e1, e2, rfl⟩ := zipD_get e
        refine ⟨trivial, _, rfl, ?_⟩
        simp
        exact like_ok k h' p q ((c j p q e1 e2).ex eh)
      · subst ed
        simp [dAll, hn, List.map_const', bools_true]
        exact eh
    | @lst _ _ n m xs ys e1 e2 a b c =>
      unfold f__law_like m__law_like
      simp [startD, List.replicate, dIs, dIsi1, dIsi2, dIsi3, tyD, knT, isiB, e1, e2, a, wipeD]
      refine (lc_ex (s := srcZ n m xs ys) (items := zipD xs ys) (fun _ => .bl true) (Nat.le_trans (by rw [zipD_length a]; omega) line_le) (fun j x acc h' e eh hn => ?_) (fun h' eh => ⟨xs, ys, .inl (eh.get e1), .inl (eh.get e2), zipD_len xs ys⟩) rfl).mono fun d h' ⟨ed, eh, hn⟩ => ?_
      · obtain ⟨p, q, g1, g2, rfl⟩ := zipD_get e
        refine ⟨⟨p, q, rfl, srcL_at (eh.get e1) g1, srcL_at (eh.get e2) g2⟩, _, rfl, ?_⟩
        simp
        exact like_ok k h' p q ((c j p q g1 g2).ex eh)
      · subst ed
        simp [dAll, hn, List.map_const', bools_true]
        exact eh
theorem lk_str {h : Mh} {k : Nat} {l : List Str} {n m : Nat} (hn : h[n]? = some (.lst (l.map D.str))) (hm : h[m]? = some (.lst (l.map D.str))) (hl : l.length ≤ 1000) : Lk (k + 2) h (.ref n) (.ref m) :=
  .lst hn hm rfl (by rw [List.length_map]; exact hl) fun i x y e1 e2 => by
    rw [e1] at e2; cases e2
    obtain ⟨s, _, rfl⟩ := List.mem_map.mp (List.mem_of_getElem? e1)
    exact .str s
/-- a line's tale, as itself -/
theorem lk_told {h : Mh} {k : Nat} {l : Ln} : Lk (k + 2) h l.told l.told := by
  have tup : ∀ xs : List D, xs.length ≤ 1000 → (∀ x ∈ xs, Lk (k + 1) h x x) → Lk (k + 2) h (.tup xs) (.tup xs) := fun xs hl hx => .tup rfl hl fun i x y e1 e2 => by
    rw [e1] at e2; cases e2
    exact hx x (List.mem_of_getElem? e1)
  cases l with
  | sec n f => exact tup _ (by simp) (by simp; exact ⟨.str _, .non, .str _⟩)
  | cel n b f => exact tup _ (by simp) (by simp; exact ⟨.str _, .int _, .str _⟩)
  | inn n => exact .str _
  | opn n => exact .str _
  | gno n a => exact tup _ (by simp) (by simp; exact ⟨.str _, .str _, .str _, .non⟩)
  | gbi n x a b => exact tup _ (by simp) (by simp; exact ⟨.str _, .str _, .str _, .str _⟩)
theorem lk_tolds {h : Mh} {k : Nat} {ls : List Ln} {s : Str} {n m : Nat} (hn : h[n]? = some (.lst (toldBy s ls))) (hm : h[m]? = some (.lst (toldBy s ls))) (hl : ls.length ≤ 1000) : Lk (k + 3) h (.ref n) (.ref m) :=
  .lst hn hm rfl (Nat.le_trans told_len hl) fun i x y e1 e2 => by
    rw [e1] at e2; cases e2
    obtain ⟨l, _, rfl⟩ := List.mem_map.mp (List.mem_of_getElem? e1)
    exact lk_told
/-! the short words -/
def numS (n : Nat) : Str := Str.ofString (toString (n : Int))
theorem numS_len {n : Nat} (h : n ≤ 60) : (numS n).length ≤ 2 := by
  have : ∀ m : Fin 61, (numS m.val).length ≤ 2 := by decide +kernel
  exact this ⟨n, by omega⟩
theorem num_log {n : Nat} (h : n ≤ 60) : ((n : Int).natAbs).log2 < 1920 := by
  have : ∀ m : Fin 61, ((m.val : Int).natAbs).log2 < 1920 := by decide +kernel
  exact this ⟨n, by omega⟩
def short (ls : List Ln) : Str := Str.ofString "Circuit(" ++ numS (toldBy (Str.ofString "cell") ls).length ++ Str.ofString " cells, " ++ numS (toldBy (Str.ofString "in") ls).length ++ Str.ofString " ins, " ++ numS (toldBy (Str.ofString "gate") ls).length ++ Str.ofString " gates)"
theorem app_len {a b : Str} : (a ++ b).length = a.length + b.length := by rw [lS_len, lS_app, List.length_append, ← lS_len, ← lS_len]
theorem c_len : (Str.ofString "Circuit(").length = 8 ∧ (Str.ofString " cells, ").length = 8 ∧ (Str.ofString " ins, ").length = 6 ∧ (Str.ofString " gates)").length = 7 ∧ Str.empty ++ Str.ofString "Circuit(" = Str.ofString "Circuit(" := by decide +kernel
theorem repr_ok {h : Mh} {n : Nat} {ls : List Ln} (C : Circ h n ls) (hl : ls.length ≤ 60) : (f_Circuit___repr__ [.ref n] h).wp fun d h' => d = .str (short ls) ∧ h' = h := by
  obtain ⟨c, i, g, o, w, C⟩ := C
  have l1 := Nat.le_trans (told_len (k := Str.ofString "cell") (ls := ls)) hl
  have l2 := Nat.le_trans (told_len (k := Str.ofString "in") (ls := ls)) hl
  have l3 := Nat.le_trans (told_len (k := Str.ofString "gate") (ls := ls)) hl
  have n1 : (Str.ofString ((toldBy (Str.ofString "cell") ls).length : Int).repr).length ≤ 2 := numS_len l1
  have n2 : (Str.ofString ((toldBy (Str.ofString "in") ls).length : Int).repr).length ≤ 2 := numS_len l2
  have n3 : (Str.ofString ((toldBy (Str.ofString "gate") ls).length : Int).repr).length ≤ 2 := numS_len l3
  have g1 : (toldBy (Str.ofString "cell") ls).length.log2 < 1920 := num_log l1
  have g2 : (toldBy (Str.ofString "in") ls).length.log2 < 1920 := num_log l2
  have g3 : (toldBy (Str.ofString "gate") ls).length.log2 < 1920 := num_log l3
  obtain ⟨c1, c2, c3, c4, c5⟩ := c_len
  unfold f_Circuit___repr__ m_Circuit___repr__ short
  simp only [numS] at *
  simp [startD, List.replicate, C.at_, C.c, C.i, C.g, app_len, c1, c2, c3, c4, c5]
  exact ⟨g1, lenE (by omega), lenE (by omega), g2, lenE (by omega), lenE (by omega), g3, lenE (by omega), lenE (by omega)⟩
end K10

namespace K10
open PySem PySem.Spec PyProof.Rows L2 Mo
def dec : D → Option Ln
  | .tup [_, .str n, .str f] => some (.sec n f)
  | .tup [_, .str n, .int b, .str f] => some (.cel n (b == 1) f)
  | .tup [.str k, .str n] => some (if k = Str.ofString "in" then .inn n else .opn n)
  | .tup [_, .str n, _, .str a, .non] => some (.gno n a)
  | .tup [_, .str n, .str k, .str a, .str b] => some (.gbi n (decide (k = Str.ofString "xor")) a b)
  | _ => none
theorem dec_d : ∀ l : Ln, dec l.d = some l
  | .sec _ _ => rfl
  | .cel _ b _ => by cases b <;> rfl
  | .inn _ => by simp [Ln.d, dec]
  | .opn _ => by simp [Ln.d, dec]
  | .gno _ _ => rfl
  | .gbi _ x _ _ => by cases x <;> simp [Ln.d, dec, kS]
/-- a comprehension over lines -/
theorem lc_ls {mt : Sg → Mh → R Bool} {me : Sg → Mh → R D} {sg : Sg} {h : Mh} {j r i : Nat} {ls : List Ln} (P : Ln → Bool) (G : Ln → D) (hr : h[r]? = some (.lst (ls.map Ln.d))) (hl : ls.length ≤ 1000) (hv : sg[j]? = some (some (.ref r)))
    (ht : ∀ l ∈ ls, ∀ h', (mt ((wipeD sg [i]).set i (some l.d)) h').wp fun b h'' => b = P l ∧ h'' = h') (he : ∀ l ∈ ls, P l = true → ∀ h', (me ((wipeD sg [i]).set i (some l.d)) h').wp fun d h'' => d = G l ∧ h'' = h') :
    (mLc (mIter (mVar j)) (gNm i) mt me [i] sg h).wp fun d h' => d = .ref h.length ∧ h' = h ++ [.lst ((ls.filter P).map G)] := by
  simp [hv, hr]
  refine wp_of (lc_pure (s := srcL r (ls.map Ln.d)) (g := gNm i) (fun d => (dec d).elim false P) (fun d => (dec d).elim .non G) (items := ls.map Ln.d) (Nat.le_trans (by rw [List.length_map]; exact hl) line_le) (fun j x acc e => ?_) (fun acc => by simpa using srcL_fin (app_get hr))) ?_
  · have e0 := e
    rw [List.getElem?_map] at e
    obtain ⟨l, el, rfl⟩ := Option.map_eq_some_iff.mp e
    have lm := List.mem_of_getElem? el
    refine ⟨srcL_at (app_get hr) e0, _, rfl, ?_, fun hp => ?_⟩
    · rw [dec_d]
      obtain ⟨b, h', e1, rfl, rfl⟩ := (ht l lm (h ++ [.lst acc])).out
      exact e1
    · rw [dec_d] at hp ⊢
      obtain ⟨b, h', e1, rfl, rfl⟩ := (he l lm hp (h ++ [.lst acc])).out
      exact e1
  · refine ⟨rfl, ?_⟩
    rw [List.filter_map, List.map_map]
    congr 4
    · funext l; exact congrArg (·.elim .non G) (dec_d l)
    · congr 1
      funext l; exact congrArg (·.elim false P) (dec_d l)
theorem known_eq {ls : List Ln} : (ls.filter fun l => !l.isOpn).map (fun l => D.str l.wire) = (known ls).map D.str := by unfold known; rw [List.map_map]; rfl
theorem secs_d {ls : List Ln} : (ls.filter Ln.isSec).map (fun l => D.str l.wire) = (secs ls).map D.str := by unfold secs; rw [List.map_map]; rfl
theorem meth1 {m : Str} {f : FM} {sg : Sg} {h : Mh} {n : Nat} {ls : List Ln} {P : D → Mh → Prop} (C : Circ h n ls) (h0 : sg[0]? = some (some (.ref n))) (hm : ∀ t c i g o w, (cFs t c i g o w).lookup m = none) (k : (f [.ref n] h).wp P) : (mMeth (Str.ofString "Circuit") m 1 f (mVar 0) mNil [] sg h).wp P := by
  obtain ⟨c, i, g, o, w, C⟩ := C
  simp [h0, C.at_, hm]
  exact k
theorem strO1 {f : FM} {sg : Sg} {h : Mh} {n : Nat} {ls : List Ln} {P : D → Mh → Prop} (C : Circ h n ls) (h0 : sg[0]? = some (some (.ref n))) (k : (f [.ref n] h).wp fun d h' => ∃ y, d = .str y ∧ P d h') : (mBi (dStrO (Str.ofString "Circuit") f) (mCons (mVar 0) mNil) sg h).wp P := by
  obtain ⟨c, i, g, o, w, C⟩ := C
  simp [h0, C.at_]
  refine k.mono fun d h' ⟨y, e, p⟩ => ?_
  subst e
  simpa using p
theorem inO1 {f : FM} {neg : Bool} {x : D} {h : Mh} {n : Nat} {ls : List Ln} {b : Bool} (C : Circ h n ls) (k : (f [.ref n, x] h).wp fun d h' => d = .bl b ∧ h' = h) : dInO (Str.ofString "Circuit") neg f x (.ref n) h = .ok (.bl (if neg then !b else b)) h := by
  obtain ⟨c, i, g, o, w, C⟩ := C
  obtain ⟨d, h', e, rfl, rfl⟩ := k.out
  unfold dInO
  rw [show insAt (Str.ofString "Circuit") (.ref n) h' = some (n, _) by simp [C.at_]; rfl]
  dsimp only
  rw [e]
  rfl
@[simp] theorem l_reverse {n : Nat} {h : Mh} : dReverse (.ref n) [] h = match h[n]? with
    | some (.lst xs) => .ok .non (h.set n (.lst xs.reverse))
    | _ => .bad := rfl
def sgT (n r : Nat) (t : Str) (a3 a4 a5 a6 a7 a8 a9 a10 a11 a12 : Option D) : Sg := [some (.ref n), some (.ref r), some (.str t), a3, a4, a5, a6, a7, a8, a9, a10, a11, a12]
theorem spoil {n r : Nat} {T : Str} {a3 a4 a5 a6 a7 a8 a9 a10 z : Option D} {t : Nat} {bs : List Nat} {h0 h : Mh} {Q : D → Mh → Prop} (ht : h[t]? = some (.lst (bs.map D.ref))) (hb : ∀ b ∈ bs, h0.length ≤ b ∧ b < t ∧ ∃ xs, h[b]? = some (.lst xs) ∧ xs.length ≤ 100) (hl : bs.length ≤ 10) (X : Ex h0 h) :
    (sFor (mIter (mVar 11)) (gNm 12) (sSeq (sExpr (mMt "list" dReverse (mVar 12) mNil)) (sExpr (mMt "list" dAppend (mVar 12) (mCons (mLit (.str (Str.ofString "x"))) mNil)))) (sgT n r T a3 a4 a5 a6 a7 a8 a9 a10 (some (.ref t)) z) h).wp (fun sg' h' => ∃ z', sg' = sgT n r T a3 a4 a5 a6 a7 a8 a9 a10 (some (.ref t)) z' ∧ Ex h0 h') Q := by
  have tl := lt_of ht
  rw [w_for, wp_th]
  simp [sgT, ht]
  refine loop (fun j sg h' => ∃ z', sg = sgT n r T a3 a4 a5 a6 a7 a8 a9 a10 (some (.ref t)) z' ∧ h'[t]? = some (.lst (bs.map D.ref)) ∧ (∀ b ∈ bs, ∃ xs, h'[b]? = some (.lst xs) ∧ xs.length ≤ 100 + j) ∧ Ex h0 h') ⟨_, rfl, ht, fun b hm => (hb b hm).2.2, X⟩ (fun j d sg h' e ⟨z', es, ht', hb', X'⟩ => ?_) (fun sg h' ⟨z', es, ht', hb', X'⟩ => ⟨by simpa using srcL_fin ht', z', es, X'⟩)
  subst es
  have e0 := e
  rw [List.getElem?_map] at e
  obtain ⟨b, eb, rfl⟩ := Option.map_eq_some_iff.mp e
  have bm := List.mem_of_getElem? eb
  have jl : j < bs.length := (List.getElem?_eq_some_iff.mp eb).1
  obtain ⟨xs, hx, lx⟩ := hb' b bm
  obtain ⟨b0, bt, _⟩ := hb b bm
  have bl := lt_of hx
  have lc : LenC xs.length := lenC (by omega)
  refine ⟨srcL_at ht' e0, _, rfl, ?_⟩
  simp [sgT, hx, set_at bl, lc]
  refine ⟨by rw [set_off (by omega)]; simpa using ht', fun c hc => ?_, X'.put b0⟩
  by_cases e : b = c
  · subst e
    exact ⟨_, set_at bl, by simp; omega⟩
  · obtain ⟨ys, hy, ly⟩ := hb' c hc
    exact ⟨ys, by rw [set_off e]; exact hy, by omega⟩
theorem told_so {h : Mh} {n r : Nat} {ls : List Ln} (C : Circ h n ls) (hr : h[r]? = some (.lst (ls.map Ln.d))) (hl : ls.length ≤ 60) : (f__law_told_so [.ref n, .ref r, .str (textOf ls)] h).wp fun d h' => d = .bl true ∧ Ex h h' := by
  have l1000 : ls.length ≤ 1000 := by omega
  unfold f__law_told_so m__law_told_so
  rw [w_run]
  refine stepT (fun sg h' => ∃ a, sg = sgT n r (textOf ls) (some (.ref a)) none none none none none none none none none ∧ h'[a]? = some (.lst (toldBy (Str.ofString "cell") ls)) ∧ Ex h h') ?_ fun sg h1 ⟨a3, e, H3, X1⟩ => ?_
  · rw [w_set, wp_th]
    refine (lc_ls (fun l => decide (l.kind = Str.ofString "cell")) Ln.told hr l1000 (by simp [startD]) (fun l _ h' => ?_) (fun l _ hp h' => ?_)).mono fun d h' ⟨e, e2⟩ => ?_
    · cases l <;> simp [startD, List.replicate, wipeD, Ln.d, Ln.kind, atI, ixN]
    · cases l <;> first | (simp [startD, List.replicate, wipeD, Ln.d, Ln.told, atI, ixN]; done) | (simp [Ln.kind] at hp)
    · subst e e2
      simp [startD, List.replicate, sgT]
      exact ⟨rfl, Ex.app⟩
  subst e
  have hr1 := X1.get hr
  refine stepT (fun sg h' => ∃ b c, sg = sgT n r (textOf ls) (some (.ref a3)) (some (.ref b)) (some (.ref c)) none none none none none none none ∧ h'[b]? = some (.lst ((secs ls).map D.str)) ∧ h'[c]? = some (.lst (toldBy (Str.ofString "in") ls)) ∧ Ex h1 h') ?_ fun sg h2 ⟨a4, a5, e, H4, H5, X2⟩ => ?_
  · rw [w_par, wp_th, w_cons, wp_bind]
    refine (lc_ls Ln.isSec (fun l => .str l.wire) hr1 l1000 (by simp [sgT]) (fun l _ h' => ?_) (fun l _ hp h' => ?_)).mono fun d h' ⟨e, e2⟩ => ?_
    · cases l <;> simp [sgT, wipeD, Ln.d, Ln.isSec, atI, ixN]
    · cases l <;> first | (simp [sgT, wipeD, Ln.d, Ln.wire, atI, ixN]; done) | (simp [Ln.isSec] at hp)
    · subst e e2
      rw [wp_bind, w_cons, wp_bind]
      refine (lc_ls (fun l => decide (l.kind = Str.ofString "in")) Ln.told (app_get hr1) l1000 (by simp [sgT]) (fun l _ h' => ?_) (fun l _ hp h' => ?_)).mono fun d h' ⟨e, e2⟩ => ?_
      · cases l <;> simp [sgT, wipeD, Ln.d, Ln.kind, atI, ixN]
      · cases l <;> first | (simp [sgT, wipeD, Ln.d, Ln.told, atI, ixN]; done) | (simp [Ln.kind] at hp)
      · subst e e2
        rw [secs_d]
        simp [sgT]
        exact ⟨_, _, ⟨rfl, rfl⟩, by simp [toldBy], by simp [toldBy], Ex.app⟩
  subst e
  have hr2 := X2.get hr1
  refine stepT (fun sg h' => ∃ b c, sg = sgT n r (textOf ls) (some (.ref a3)) (some (.ref a4)) (some (.ref a5)) (some (.ref b)) (some (.ref c)) none none none none none ∧ h'[b]? = some (.lst (toldBy (Str.ofString "gate") ls)) ∧ h'[c]? = some (.lst (toldBy (Str.ofString "open") ls)) ∧ Ex h2 h') ?_ fun sg h3 ⟨a6, a7, e, H6, H7, X3⟩ => ?_
  · rw [w_par, wp_th, w_cons, wp_bind]
    refine (lc_ls (fun l => decide (l.kind = Str.ofString "gate")) Ln.told hr2 l1000 (by simp [sgT]) (fun l _ h' => ?_) (fun l _ hp h' => ?_)).mono fun d h' ⟨e, e2⟩ => ?_
    · cases l <;> simp [sgT, wipeD, Ln.d, Ln.kind, atI, ixN]
    · cases l <;> first | (simp [sgT, wipeD, Ln.d, Ln.told, Mo.cutD, HT.sIx]; done) | (simp [Ln.kind] at hp)
    · subst e e2
      rw [wp_bind, w_cons, wp_bind]
      refine (lc_ls (fun l => decide (l.kind = Str.ofString "open")) Ln.told (app_get hr2) l1000 (by simp [sgT]) (fun l _ h' => ?_) (fun l _ hp h' => ?_)).mono fun d h' ⟨e, e2⟩ => ?_
      · cases l <;> simp [sgT, wipeD, Ln.d, Ln.kind, atI, ixN]
      · cases l <;> first | (simp [sgT, wipeD, Ln.d, Ln.told, atI, ixN]; done) | (simp [Ln.kind] at hp)
      · subst e e2
        simp [sgT]
        exact ⟨_, _, ⟨rfl, rfl⟩, by simp [toldBy], by simp [toldBy], Ex.app⟩
  subst e
  have hr3 := X3.get hr2
  refine stepT (fun sg h' => ∃ b, sg = sgT n r (textOf ls) (some (.ref a3)) (some (.ref a4)) (some (.ref a5)) (some (.ref a6)) (some (.ref a7)) (some (.ref b)) none none none none ∧ h'[b]? = some (.lst ((known ls).map D.str)) ∧ Ex h3 h') ?_ fun sg h4 ⟨a8, e, H8, X4⟩ => ?_
  · rw [w_set, wp_th]
    refine (lc_ls (fun l => !l.isOpn) (fun l => .str l.wire) hr3 l1000 (by simp [sgT]) (fun l _ h' => ?_) (fun l _ hp h' => ?_)).mono fun d h' ⟨e, e2⟩ => ?_
    · cases l <;> simp [sgT, wipeD, Ln.d, Ln.isOpn, atI, ixN]
    · cases l <;> first | (simp [sgT, wipeD, Ln.d, Ln.wire, atI, ixN]; done) | (simp [Ln.isOpn] at hp)
    · subst e e2
      rw [known_eq]
      simp [sgT]
      exact Ex.app
  subst e
  have H3' := X4.get (X3.get (X2.get H3))
  have H4' := X4.get (X3.get H4)
  have H5' := X4.get (X3.get H5)
  have H6' := X4.get H6
  have H7' := X4.get H7
  have l1 := Nat.le_trans (told_len (k := Str.ofString "cell") (ls := ls)) hl
  have l2 := Nat.le_trans (told_len (k := Str.ofString "in") (ls := ls)) hl
  have l3 := Nat.le_trans (told_len (k := Str.ofString "gate") (ls := ls)) hl
  refine stepT (fun sg h' => sg = sgT n r (textOf ls) (some (.ref a3)) (some (.ref a4)) (some (.ref a5)) (some (.ref a6)) (some (.ref a7)) (some (.ref a8)) (some (.str (short ls))) none none none ∧ h' = h4) ?_ fun sg h5 ⟨e, eh⟩ => ?_
  · have n1 : (Str.ofString ((toldBy (Str.ofString "cell") ls).length : Int).repr).length ≤ 2 := numS_len l1
    have n2 : (Str.ofString ((toldBy (Str.ofString "in") ls).length : Int).repr).length ≤ 2 := numS_len l2
    have n3 : (Str.ofString ((toldBy (Str.ofString "gate") ls).length : Int).repr).length ≤ 2 := numS_len l3
    have g1 : (toldBy (Str.ofString "cell") ls).length.log2 < 1920 := num_log l1
    have g2 : (toldBy (Str.ofString "in") ls).length.log2 < 1920 := num_log l2
    have g3 : (toldBy (Str.ofString "gate") ls).length.log2 < 1920 := num_log l3
    obtain ⟨c1, c2, c3, c4, c5⟩ := c_len
    unfold short
    simp only [numS] at *
    simp [sgT, H3', H5', H6', dStr, g1, g2, g3, app_len, c1, c2, c3, c4, c5]
    exact ⟨lenE (by omega), lenE (by omega), lenE (by omega), lenE (by omega), lenE (by omega), lenE (by omega)⟩
  subst e eh
  have C5 : Circ h5 n ls := C.ex (X1.trans (X2.trans (X3.trans X4)))
  have X5 : Ex h h5 := X1.trans (X2.trans (X3.trans X4))
  refine stepT (fun sg h' => ∃ x y z, sg = sgT n r (textOf ls) (some (.ref a3)) (some (.ref a4)) (some (.ref a5)) (some (.ref a6)) (some (.ref a7)) (some (.ref a8)) (some (.str (short ls))) x y z ∧ Ex h5 h') ?_ fun sg h6 ⟨x, y, z, e, X6⟩ => ?_
  · rw [w_for, wp_th]
    have i2 : InR 2 := inR_of (by decide) (by decide)
    simp [i2]
    refine loop (fun j sg h' => ∃ x y z, sg = sgT n r (textOf ls) (some (.ref a3)) (some (.ref a4)) (some (.ref a5)) (some (.ref a6)) (some (.ref a7)) (some (.ref a8)) (some (.str (short ls))) x y z ∧ Ex h5 h') ⟨_, _, _, rfl, Ex.rfl⟩ (fun j d sg h6 e ⟨x, y, z, es, X6⟩ => ?_) (fun sg h' ⟨x, y, z, es, X6⟩ => ⟨trivial, x, y, z, es, X6⟩)
    subst es
    refine ⟨trivial, _, rfl, ?_⟩
    have C6 := C5.ex X6
    have s0 : ∀ x, (sgT n r (textOf ls) (some (.ref a3)) (some (.ref a4)) (some (.ref a5)) (some (.ref a6)) (some (.ref a7)) (some (.ref a8)) (some (.str (short ls))) x y z)[0]? = some (some (.ref n)) := fun x => rfl
    refine stepT (fun sg h' => ∃ t b1 b2 b3 b4 b5 b6, sg = sgT n r (textOf ls) (some (.ref a3)) (some (.ref a4)) (some (.ref a5)) (some (.ref a6)) (some (.ref a7)) (some (.ref a8)) (some (.str (short ls))) (some d) (some (.ref t)) z ∧ h'[t]? = some (.lst [.ref b1, .ref b2, .ref b3, .ref b4, .ref b5, .ref b6]) ∧
      h'[b1]? = some (.lst (toldBy (Str.ofString "cell") ls)) ∧ h'[b2]? = some (.lst ((secs ls).map D.str)) ∧ h'[b3]? = some (.lst (toldBy (Str.ofString "in") ls)) ∧ h'[b4]? = some (.lst (toldBy (Str.ofString "gate") ls)) ∧ h'[b5]? = some (.lst (toldBy (Str.ofString "open") ls)) ∧ h'[b6]? = some (.lst ((known ls).map D.str)) ∧
      ((h6.length ≤ b1 ∧ b1 < t) ∧ (h6.length ≤ b2 ∧ b2 < t) ∧ (h6.length ≤ b3 ∧ b3 < t) ∧ (h6.length ≤ b4 ∧ b4 < t) ∧ (h6.length ≤ b5 ∧ b5 < t) ∧ h6.length ≤ b6 ∧ b6 < t) ∧ Ex h6 h') ?_ fun sg h7 ⟨t, b1, b2, b3, b4, b5, b6, e, Ht, B1, B2, B3, B4, B5, B6, bl, X7⟩ => ?_
    · rw [w_set, wp_th, w_lst, w_cons, wp_bind]
      refine (meth1 C6 rfl (fun _ _ _ _ _ _ => cf_m0) (cells_ok C6)).mono fun d1 k1 ⟨e, e2⟩ => ?_
      subst e e2
      rw [wp_bind, w_cons, wp_bind]
      refine (meth1 (C6.ex Ex.app) rfl (fun _ _ _ _ _ _ => cf_m1) (secret_ok (C6.ex Ex.app) l1000)).mono fun d1 k1 ⟨e, e2⟩ => ?_
      subst e e2
      rw [wp_bind, w_cons, wp_bind]
      refine (meth1 ((C6.ex Ex.app).ex Ex.app) rfl (fun _ _ _ _ _ _ => cf_m2) (ins_ok ((C6.ex Ex.app).ex Ex.app))).mono fun d1 k1 ⟨e, e2⟩ => ?_
      subst e e2
      rw [wp_bind, w_cons, wp_bind]
      refine (meth1 (((C6.ex Ex.app).ex Ex.app).ex Ex.app) rfl (fun _ _ _ _ _ _ => cf_m3) (gates_ok (((C6.ex Ex.app).ex Ex.app).ex Ex.app))).mono fun d1 k1 ⟨e, e2⟩ => ?_
      subst e e2
      rw [wp_bind, w_cons, wp_bind]
      refine (meth1 ((((C6.ex Ex.app).ex Ex.app).ex Ex.app).ex Ex.app) rfl (fun _ _ _ _ _ _ => cf_m4) (opens_ok ((((C6.ex Ex.app).ex Ex.app).ex Ex.app).ex Ex.app))).mono fun d1 k1 ⟨e, e2⟩ => ?_
      subst e e2
      rw [wp_bind, w_cons, wp_bind]
      refine (meth1 (((((C6.ex Ex.app).ex Ex.app).ex Ex.app).ex Ex.app).ex Ex.app) rfl (fun _ _ _ _ _ _ => cf_m5) (wires_l (((((C6.ex Ex.app).ex Ex.app).ex Ex.app).ex Ex.app).ex Ex.app))).mono fun d1 k1 ⟨e, e2⟩ => ?_
      subst e e2
      simp [sgT]
      exact ⟨_, _, _, _, _, _, ⟨rfl, rfl, rfl, rfl, rfl, rfl⟩, by simp, by simp, by simp, by simp, by simp, by simp, by omega, Ex.app⟩
    subst e
    have Y7 := X6.trans X7
    refine stepT (fun sg h' => sg = sgT n r (textOf ls) (some (.ref a3)) (some (.ref a4)) (some (.ref a5)) (some (.ref a6)) (some (.ref a7)) (some (.ref a8)) (some (.str (short ls))) (some d) (some (.ref t)) z ∧ Ex h7 h') ?_ fun sg h8 ⟨e, X8⟩ => ?_
    · simp [sgT]
      refine (like_ok 8 _ _ _ ?_).mono fun d h' ⟨e, X⟩ => ?_
      · have x7 : Ex h5 (h7 ++ [MO.lst [D.ref a3, D.ref a4, D.ref a5, D.ref a6, D.ref a7, D.ref a8]]) := Y7.trans Ex.app
        have q1 : Lk 7 (h7 ++ [MO.lst [D.ref a3, D.ref a4, D.ref a5, D.ref a6, D.ref a7, D.ref a8]]) (.ref b1) (.ref a3) := lk_tolds (app_get B1) (x7.get H3') l1000
        have q2 : Lk 7 (h7 ++ [MO.lst [D.ref a3, D.ref a4, D.ref a5, D.ref a6, D.ref a7, D.ref a8]]) (.ref b2) (.ref a4) := lk_str (app_get B2) (x7.get H4') (Nat.le_trans (by unfold secs; rw [List.length_map]; exact List.length_filter_le ..) l1000)
        have q3 : Lk 7 (h7 ++ [MO.lst [D.ref a3, D.ref a4, D.ref a5, D.ref a6, D.ref a7, D.ref a8]]) (.ref b3) (.ref a5) := lk_tolds (app_get B3) (x7.get H5') l1000
        have q4 : Lk 7 (h7 ++ [MO.lst [D.ref a3, D.ref a4, D.ref a5, D.ref a6, D.ref a7, D.ref a8]]) (.ref b4) (.ref a6) := lk_tolds (app_get B4) (x7.get H6') l1000
        have q5 : Lk 7 (h7 ++ [MO.lst [D.ref a3, D.ref a4, D.ref a5, D.ref a6, D.ref a7, D.ref a8]]) (.ref b5) (.ref a7) := lk_tolds (app_get B5) (x7.get H7') l1000
        have q6 : Lk 7 (h7 ++ [MO.lst [D.ref a3, D.ref a4, D.ref a5, D.ref a6, D.ref a7, D.ref a8]]) (.ref b6) (.ref a8) := lk_str (app_get B6) (x7.get H8) (Nat.le_trans known_len l1000)
        refine .lst (app_get Ht) at_end rfl (by simp) fun i x y e1 e2 => ?_
        match i, e1, e2 with
        | 0, e1, e2 => cases e1; cases e2; exact q1
        | 1, e1, e2 => cases e1; cases e2; exact q2
        | 2, e1, e2 => cases e1; cases e2; exact q3
        | 3, e1, e2 => cases e1; cases e2; exact q4
        | 4, e1, e2 => cases e1; cases e2; exact q5
        | 5, e1, e2 => cases e1; cases e2; exact q6
        | i + 6, e1, _ => simp at e1
      · subst e
        simp
        exact Ex.app.trans X
    subst e
    have C8 := C5.ex (Y7.trans X8)
    refine stepT (fun sg h' => sg = sgT n r (textOf ls) (some (.ref a3)) (some (.ref a4)) (some (.ref a5)) (some (.ref a6)) (some (.ref a7)) (some (.ref a8)) (some (.str (short ls))) (some d) (some (.ref t)) z ∧ Ex h8 h') ?_ fun sg h9 ⟨e, X9⟩ => ?_
    · rw [w_if, wp_th, w_notT, wp_bind, w_tru, wp_bind, w_call, wp_bind, w_cons, wp_bind, w_lst, w_cons, wp_bind]
      refine (meth1 C8 rfl (fun _ _ _ _ _ _ => cf_m6) (text_ok C8)).mono fun d1 k1 ⟨e, e2⟩ => ?_
      subst e e2
      rw [wp_bind, w_cons, wp_bind]
      refine strO1 C8 rfl ((str_ok C8).mono fun d1 k1 ⟨e, e2⟩ => ⟨_, e, ?_⟩)
      subst e e2
      rw [wp_bind, w_cons, wp_bind]
      refine strO1 C8 rfl ((repr_ok C8 hl).mono fun d1 k1 ⟨e, e2⟩ => ⟨_, e, ?_⟩)
      subst e e2
      simp [sgT]
      refine (like_ok 8 _ _ _ ?_).mono fun d h' ⟨e, X⟩ => ?_
      · have q : ∀ (h : Mh) (k m : Nat), h[k]? = some (.lst ([textOf ls, textOf ls, short ls].map D.str)) → h[m]? = some (.lst ([textOf ls, textOf ls, short ls].map D.str)) → Lk 8 h (.ref k) (.ref m) := fun h k m e1 e2 => lk_str e1 e2 (by simp)
        exact q _ _ _ (by simp) (by simp)
      · subst e
        simp
        exact Ex.app.trans X
    subst e
    have Z9 := X8.trans X9
    refine RS.wp.mono (spoil (h0 := h5) (bs := [b1, b2, b3, b4, b5, b6]) (Q := fun d h' => d = .bl true ∧ Ex h h') (Z9.get Ht) (fun b hb => ?_) (by simp) (Y7.trans Z9)) (fun sg h' ⟨z', e, X⟩ => ⟨_, _, _, e, X⟩) fun _ _ z => z
    have l6 := X6.len
    simp only [List.mem_cons, List.not_mem_nil, or_false] at hb
    have t1 := told_len (k := Str.ofString "cell") (ls := ls)
    have t2 := told_len (k := Str.ofString "in") (ls := ls)
    have t3 := told_len (k := Str.ofString "gate") (ls := ls)
    have t4 := told_len (k := Str.ofString "open") (ls := ls)
    have t5 := known_len (ls := ls)
    have t6 : (secs ls).length ≤ ls.length := by unfold secs; rw [List.length_map]; exact List.length_filter_le ..
    rcases hb with rfl | rfl | rfl | rfl | rfl | rfl
    · exact ⟨by omega, by omega, _, Z9.get B1, by omega⟩
    · exact ⟨by omega, by omega, _, Z9.get B2, by rw [List.length_map]; omega⟩
    · exact ⟨by omega, by omega, _, Z9.get B3, by omega⟩
    · exact ⟨by omega, by omega, _, Z9.get B4, by omega⟩
    · exact ⟨by omega, by omega, _, Z9.get B5, by omega⟩
    · exact ⟨by omega, by omega, _, Z9.get B6, by rw [List.length_map]; omega⟩
  subst e
  have C6 := C5.ex X6
  have H8' := X6.get H8
  have kl : (known ls).length ≤ sizeLine := Nat.le_trans (Nat.le_trans known_len l1000) line_le
  rw [w_ret, wp_th, w_call, wp_bind, w_cons, wp_bind]
  simp [sgT, H8', wipeD]
  refine wp_of (lc_map (s := srcL a8 ((known ls).map D.str)) (g := gNm 12) (fun _ => .bl true) (items := (known ls).map D.str) (by rw [List.length_map]; exact kl) (fun j x acc e => ?_) (fun acc => by simpa using srcL_fin (app_get H8'))) ?_
  · have e0 := e
    rw [List.getElem?_map] at e
    obtain ⟨s, es, rfl⟩ := Option.map_eq_some_iff.mp e
    refine ⟨srcL_at (app_get H8') e0, _, rfl, ?_⟩
    show dInO (Str.ofString "Circuit") false f_Circuit___contains__ (.str s) (.ref n) _ = _
    have hs : s ∈ known ls := List.mem_of_getElem? es
    rw [inO1 (b := true) (C6.ex Ex.app) ((has_str (C6.ex Ex.app)).mono fun d h' ⟨e, e2⟩ => ⟨by rw [e]; simp [hs], e2⟩)]
    rfl
  · simp only [List.map_const']
    have H9 : (h6 ++ [MO.lst (List.replicate (known ls).length (D.bl true))])[a8]? = some (.lst ((known ls).map D.str)) := app_get H8'
    simp [H9, wipeD]
    have key : ∀ (sg : Sg) (A : MO), (h6 ++ [A])[a8]? = some (.lst ((known ls).map D.str)) → lcL (srcL a8 ((known ls).map D.str)) (gNm 12) mYes (mLit (.bl true)) sg (h6.length + 1) ((known ls).map D.str) 0 (h6 ++ [A, .lst []]) = .ok (.ref (h6.length + 1)) (h6 ++ [A, .lst (List.replicate (known ls).length (.bl true))]) := fun sg A hA => by
      have := lc_map (h := h6 ++ [A]) (s := srcL a8 ((known ls).map D.str)) (g := gNm 12) (me := mLit (.bl true)) (sg := sg) (fun _ => .bl true) (items := (known ls).map D.str) (by rw [List.length_map]; exact kl) (fun j x acc e => ⟨srcL_at (app_get hA) e, _, rfl, rfl⟩) (fun acc => by simpa using srcL_fin (app_get hA))
      rw [List.map_const', List.length_map] at this
      simpa using this
    refine wp_of (key _ _ H9) ?_
    simp
    refine (like_ok 8 _ _ _ ?_).mono fun d h' ⟨e, X⟩ => by rw [wp_rt]; exact ⟨e, X5.trans (X6.trans (Ex.app.trans X))⟩
    exact .lst (xs := List.replicate (known ls).length (.bl true)) (ys := List.replicate (known ls).length (.bl true)) (by simp) (by simp) rfl (by rw [List.length_replicate]; exact Nat.le_trans known_len l1000) fun i x y e1 e2 => by
      rw [e1] at e2; cases e2
      have := List.mem_of_getElem? e1
      rw [(List.mem_replicate.mp this).2]
      exact .bl true
end K10

namespace K10
open PySem PySem.Spec PyProof.Rows L2 Mo
structure SOk (s : Str) (n : Nat) : Prop where
  ok : ∀ c ∈ s.cps.toList, c < 0x110000
  len : s.length ≤ n
theorem SOk.str {s : Str} {n : Nat} (h : SOk s n) : PyData.strOk s = true := by
  unfold PyData.strOk
  rw [← Array.all_toList, List.all_eq_true]
  exact fun c hc => decide_eq_true (h.ok c hc)
theorem sok_of {s : Str} {n : Nat} (h : (s.cps.toList.all fun c => decide (c < 0x110000)) = true) (l : s.length ≤ n) : SOk s n := ⟨fun c hc => of_decide_eq_true (List.all_eq_true.mp h c hc), l⟩
theorem sok_cut {s : Str} {n : Nat} (h : SOk s n) (lo hi : Option Int) : SOk (L2.cutS s lo hi) n := by
  have m : ∀ c ∈ (L2.cutS s lo hi).cps.toList, c ∈ s.cps.toList := fun c hc => by
    unfold L2.cutS at hc
    simp only [List.toList_toArray] at hc
    exact List.mem_of_mem_drop (List.mem_of_mem_take hc)
  refine ⟨fun c hc => h.ok c (m c hc), ?_⟩
  have : (L2.cutS s lo hi).length ≤ s.length := by
    unfold L2.cutS Str.length
    simp
    omega
  exact Nat.le_trans this h.len
theorem sok_app {s t : Str} {n m : Nat} (h : SOk s n) (k : SOk t m) : SOk (s ++ t) (n + m) := by
  have e : (s ++ t).cps = s.cps ++ t.cps := rfl
  refine ⟨fun c hc => ?_, ?_⟩
  · rw [e, Array.toList_append] at hc
    rcases List.mem_append.mp hc with hc | hc
    · exact h.ok c hc
    · exact k.ok c hc
  · have a := h.len
    have b := k.len
    unfold Str.length at *
    rw [e, Array.size_append]; omega
theorem sok_one {c n : Nat} (h : c < 0x110000) (hn : 1 ≤ n) : SOk ⟨#[c]⟩ n := ⟨fun d hd => by simp at hd; omega, hn⟩
theorem sok_join {ys : List Str} (h : ∀ y ∈ ys, SOk y 1) (l : ys.length ≤ 6) : SOk (Txt.join (Str.ofString "") ys) 6 := by
  have e0 : (Str.ofString "").cps = #[] := by decide +kernel
  have all : ∀ (rest : List Str) (acc : Array Nat), (∀ y ∈ rest, SOk y 1) → (∀ c ∈ acc.toList, c < 0x110000) → ∀ c ∈ (rest.foldl (fun acc p => acc ++ (Str.ofString "").cps ++ p.cps) acc).toList, c < 0x110000 := fun rest => by
    induction rest with
    | nil => intro acc _ h2; exact h2
    | cons y rest ih =>
      intro acc h1 h2
      refine ih _ (fun z hz => h1 z (by simp [hz])) fun c hc => ?_
      rw [e0] at hc
      simp at hc
      rcases hc with hc | hc
      · exact h2 c (by simpa using hc)
      · exact (h1 y (by simp)).ok c (by simpa using hc)
  refine ⟨?_, ?_⟩
  · show ∀ c ∈ ((ys.drop 1).foldl (fun acc p => acc ++ (Str.ofString "").cps ++ p.cps) (ys.headD Str.empty).cps).toList, c < 0x110000
    refine all _ _ (fun y hy => h y (List.mem_of_mem_drop hy)) ?_
    cases ys with
    | nil => intro c hc; simp [Str.empty] at hc
    | cons y ys => exact (h y (by simp)).ok
  · have : (Txt.join (Str.ofString "") ys).length = (ys.map (·.length)).sum + (ys.length - 1) * (Str.ofString "").length := PySem.size_glued _ ys
    rw [this, show (Str.ofString "").length = 0 by decide +kernel]
    have : ∀ l : List Str, (∀ y ∈ l, SOk y 1) → (l.map (·.length)).sum ≤ l.length := fun l => by
      induction l with
      | nil => intro _; simp
      | cons y l ih =>
        intro h
        have a := ih fun z hz => h z (by simp [hz])
        have b := (h y (by simp)).len
        simp
        omega
    have := this ys h
    omega
theorem lc_draw {s : Src} {g : D → Sg → Option Sg} {me : Sg → Mh → R D} {sg : Sg} {h : Mh} {b : Nat} {items : List D} (P : D → Prop) (B : BagOk h b) (l : items.length ≤ 1000)
    (hx : ∀ j x h', items[j]? = some x → BagOk h' b → Gr b h h' → s.at' j x h' ∧ ∃ sg1, g x sg = some sg1 ∧ (me sg1 h').wp fun y h2 => P y ∧ BagOk h2 b ∧ Gr b h' h2)
    (fin : ∀ h', Gr b h h' → s.fin items.length h') (hi : items = s.items := by simp) : (lcL s g mYes me sg h.length items 0 (h ++ [.lst []])).wp fun d h' => d = .ref h.length ∧ ∃ ys : List D, h'[h.length]? = some (.lst ys) ∧ ys.length = items.length ∧ (∀ y ∈ ys, P y) ∧ BagOk h' b ∧ Gr b h h' := by
  subst hi
  have bl := B.lt
  have key := lc_wp (s := s) (g := g) (mt := mYes) (me := me) (sg := sg) (n := h.length) (P := fun d h' => d = .ref h.length ∧ ∃ ys : List D, h'[h.length]? = some (.lst ys) ∧ ys.length = s.items.length ∧ (∀ y ∈ ys, P y) ∧ BagOk h' b ∧ Gr b h h')
    (fun j acc h' => acc.length = j ∧ (∀ y ∈ acc, P y) ∧ BagOk h' b ∧ Gr b h h') (fun j x acc h' e ⟨i1, i2, i3, i4⟩ hn => ?_) (fun acc h' ⟨i1, i2, i3, i4⟩ hn => ⟨fin h' i4, rfl, acc, hn, i1, i2, i3, i4⟩) s.items.length 0 [] (h ++ [.lst []]) rfl ⟨rfl, by simp, B.ex Ex.app, Gr.app⟩ at_end
  · exact key
  · obtain ⟨a, sg1, e1, w⟩ := hx j x h' e i3 i4
    refine ⟨a, sg1, e1, wp_of (a := true) (h := h') rfl ?_⟩
    rw [if_pos rfl]
    refine w.mono fun y h2 ⟨py, B2, G2⟩ => ?_
    have jl := (List.getElem?_eq_some_iff.mp e).1
    refine ⟨G2.get (by omega) hn, Nat.lt_of_lt_of_le (by omega) line_le, by simp [i1], fun z hz => ?_, B2.put bl, (i4.trans G2).put (.inl (Nat.le_refl _))⟩
    rcases List.mem_append.mp hz with hz | hz
    · exact i2 z hz
    · rw [List.mem_singleton.mp hz]; exact py
theorem comp_signs {sg : Sg} {h : Mh} {m : Sg → Mh → R D} {s A : Str} (ss : SOk s 100) (sl : 1 < sg.length) (hm : m sg h = .ok (.str s) h) : (mLc (mIter m) (gNm 1) (mTest (m2 (dIn true) (mVar 1) (mLit (.str A)))) (mVar 1) [1] sg h).wp fun d h' => ∃ r, ∃ cs : List Str, d = .ref r ∧ h'[r]? = some (.lst (cs.map D.str)) ∧ (∀ c ∈ cs, PyData.strOk c = true) ∧ (cs = [] → ∀ c ∈ s.cps.toList, c ∈ A.cps.toList) ∧ Ex h h' := by
  rw [w_lc, wp_bind, w_iter, wp_bind, hm]
  simp only [wp_ok, it_str, srcS_items]
  have F : ∃ F : Nat → Bool, ∀ c, F c = !decide (c ∈ A.cps.toList) := ⟨_, fun _ => rfl⟩
  obtain ⟨F, hF⟩ := F
  have p : ∃ p : D → Bool, ∀ c, p (.str ⟨#[c]⟩) = F c := ⟨fun d => match d with
    | .str ⟨x⟩ => F (x.toList.headD 0)
    | _ => false, fun c => rfl⟩
  obtain ⟨p, hp⟩ := p
  refine wp_of (lc_pure (s := srcS s) (g := gNm 1) p id (Nat.le_trans (by have := ss.len; unfold Str.length at this; simp; omega) line_le) (fun j x acc e => ?_) (fun acc => trivial)) ?_
  · rw [List.getElem?_map] at e
    obtain ⟨c, _, rfl⟩ := Option.map_eq_some_iff.mp e
    refine ⟨trivial, _, rfl, ?_⟩
    have v1 : ((wipeD sg [1]).set 1 (some (.str ⟨#[c]⟩)))[1]? = some (some (.str ⟨#[c]⟩)) := by simp [wipeD, sl]
    constructor
    · have : (mTest (m2 (dIn true) (mVar 1) (mLit (.str A))) ((wipeD sg [1]).set 1 (some (.str ⟨#[c]⟩))) (h ++ [.lst acc])).wp fun b h' => b = p (.str ⟨#[c]⟩) ∧ h' = h ++ [.lst acc] := by
        rw [w_test, wp_bind, w_m2, wp_bind, w_var, v1]
        simp [hp, hF]
      obtain ⟨b, h', e1, rfl, rfl⟩ := this.out
      exact e1
    · intro _
      show (match ((wipeD sg [1]).set 1 (some (D.str ⟨#[c]⟩)))[1]? with
        | some (some d) => R.ok d _
        | _ => .bad) = _
      rw [v1]; rfl
  · refine ⟨h.length, (s.cps.toList.filter F).map fun c => ⟨#[c]⟩, rfl, ?_, fun c hc => ?_, fun ec c hc => ?_, Ex.app⟩
    · rw [at_end, List.map_id, List.filter_map]
      congr 2
      rw [List.map_map]
      have : (p ∘ fun c => D.str ⟨#[c]⟩) = F := funext hp
      rw [this]; rfl
    · obtain ⟨x, hx, rfl⟩ := List.mem_map.mp hc
      exact SOk.str (sok_one (n := 1) (ss.ok x (List.mem_filter.mp hx).1) (by decide))
    · by_cases q : c ∈ A.cps.toList
      · exact q
      · have : c ∈ s.cps.toList.filter F := List.mem_filter.mpr ⟨hc, by rw [hF]; simpa using q⟩
        rw [List.map_eq_nil_iff.mp ec] at this
        cases this
theorem atI_0 {c : Nat} {r : List Nat} : atI (c :: r) 0 = some c := by simp [atI, ixN]
theorem is_wire_ok {h : Mh} {s : Str} (ss : SOk s 100) : (f__law_is_wire [.str s] h).wp fun d h' => (∃ b, d = .bl b ∧ (b = true → Nm s)) ∧ Ex h h' := by
  have le : LenE s.length := lenE (by have := ss.len; omega)
  unfold f__law_is_wire m__law_is_wire
  rw [w_run]
  by_cases c : 1 ≤ s.length ∧ s.length ≤ 8
  · have c1 : (1 : Int) ≤ (s.length : Int) := by omega
    have c2 : (s.length : Int) ≤ 8 := by omega
    have l0 : 0 < s.cps.toList.length := by have := c.1; unfold Str.length at this; simp; omega
    obtain ⟨c0, cr, ec⟩ : ∃ c0 cr, s.cps.toList = c0 :: cr := by
      cases e : s.cps.toList with
      | nil => rw [e] at l0; exact absurd l0 (by simp)
      | cons a r => exact ⟨a, r, rfl⟩
    have own : (f__law_barred [] h).wp fun d h' => d = .ref h.length ∧ h' = h ++ [.lst (barred.map D.str)] := by
      unfold f__law_barred m__law_barred
      simp [startD]
      rfl
    refine stepT (fun sg h' => sg = [some (.str s), none] ∧ s ∉ barred ∧ c0 ∈ lS abcS ∧ Ex h h') (T := fun d h' => (∃ b, d = .bl b ∧ (b = true → Nm s)) ∧ Ex h h') ?_ fun sg h1 ⟨e, nb, hc0, X1⟩ => ?_
    · simp [startD, List.replicate, le, c1, c2]
      refine own.mono fun d h' ⟨e1, e2⟩ => ?_
      subst e1 e2
      have X : Ex h (h ++ [.lst (barred.map D.str)]) := Ex.app
      by_cases q1 : s ∈ barred
      · simp [-List.map_cons, -List.any_map, flat_strs, any_eq, q1, X]
      · have e0 : c0 ∈ lS abcS ↔ c0 ∈ (Str.ofString "abcdefghijklmnopqrstuvwxyz").cps := by simp [lS, abcS]
        by_cases q2 : c0 ∈ (Str.ofString "abcdefghijklmnopqrstuvwxyz").cps
        · simp [-List.map_cons, -List.any_map, flat_strs, any_eq, atI_0, le, ec, q1, q2, X, e0]
          rfl
        · simp [-List.map_cons, -List.any_map, flat_strs, any_eq, atI_0, le, ec, q1, q2, X]
    subst e
    rw [w_ret, wp_th, w_m2, wp_bind]
    refine (comp_signs ss (by simp) rfl).mono fun d h2 ⟨r, cs, e, hr, ok, al, X⟩ => ?_
    subst e
    simp
    refine wp_of (dE_strs (neg := false) (app_get hr) at_end ok) ?_
    rw [wp_rt]
    refine ⟨⟨_, rfl, fun hb => ?_⟩, X1.trans (X.trans Ex.app)⟩
    have e0 : cs = [] := by cases cs <;> simp_all
    exact ⟨⟨c0, cr, ec, hc0⟩, fun c hc => al e0 c hc, c.2, nb⟩
  · have cc : ¬ ((1 : Int) ≤ (s.length : Int) ∧ (s.length : Int) ≤ 8) := by omega
    rw [w_seq, wp_ths]
    by_cases c1 : (1 : Int) ≤ (s.length : Int)
    · have c2 : ¬ (s.length : Int) ≤ 8 := fun z => cc ⟨c1, z⟩
      simp [startD, List.replicate, le, c1, c2]
      exact Ex.rfl
    · simp [startD, List.replicate, le, c1]
      exact Ex.rfl
theorem nm_sok {s : Str} (N : Nm s) : SOk s 8 := ⟨fun c hc => (signs_ok.1 c (N.all c hc)).1, N.len⟩
theorem nm_ok {s : Str} (N : Nm s) : PyData.strOk s = true := (nm_sok N).str
end K10

namespace K10
open PySem PySem.Spec PyProof.Rows L2 Mo
def v9 : Str := Str.ofString "v9v9v9v9"
/-- a name that may be used -/
structure Nu (s : Str) : Prop where
  nm : Nm s
  v : s ≠ v9
def nmB (s : Str) : Bool := ((lS s).head?.any fun c => decide (c ∈ lS abcS)) && ((lS s).all fun c => decide (c ∈ lS a9S)) && decide (s.length ≤ 8) && decide (s ∉ barred) && decide (s ≠ v9)
theorem nu_of {s : Str} (h : nmB s = true) : Nu s := by
  unfold nmB at h
  simp only [Bool.and_eq_true, decide_eq_true_eq, List.all_eq_true] at h
  obtain ⟨⟨⟨⟨h1, h2⟩, h3⟩, h4⟩, h5⟩ := h
  refine ⟨⟨?_, h2, h3, h4⟩, h5⟩
  cases e : lS s with
  | nil => rw [e] at h1; simp at h1
  | cons c r => rw [e] at h1; simp at h1; exact ⟨c, r, rfl, h1⟩
def stems : List Str := [Str.ofString "", Str.ofString "", Str.ofString "a", Str.ofString "no", Str.ofString "i", Str.ofString "self", Str.ofString "t1", Str.ofString "xo", Str.ofString "part", Str.ofString "rows", Str.ofString "*"]
theorem stems_ok : ∀ s ∈ stems, SOk s 6 := by
  have : ∀ s ∈ stems, (s.cps.toList.all fun c => decide (c < 0x110000)) = true ∧ s.length ≤ 6 := by decide +kernel
  exact fun s hs => sok_of (this s hs).1 (this s hs).2
def pool0 : List Str := [Str.ofString "a", Str.ofString "self", Str.ofString "if", Str.ofString "t0", Str.ofString "ins", Str.ofString "zzzzzzzz", Str.ofString "word", Str.ofString "gate", Str.ofString "nota"]
theorem pool0_ok : pool0.Nodup ∧ (∀ s ∈ pool0, nmB s = true) ∧ pool0.length = 9 := by decide +kernel
theorem a9_ok : (∀ c ∈ a9S.cps.toList, c < 0x110000) ∧ a9S.cps.toList.length = 36 ∧ 0 < a9S.length ∧ a9S.length ≤ 1000 := by decide +kernel
def wS (k : Nat) : Str := Str.ofString "w" ++ numS k
theorem wS_ok : ∀ k < 40, nmB (wS k) = true := by decide +kernel
theorem wS_nd : ((List.range 40).map wS).Nodup := by decide +kernel
theorem cut_both {s : Str} {c : Int} : (L2.cutS s none (some c)).length + (L2.cutS s (some c) none).length ≤ s.length := by
  unfold L2.cutS Str.length
  simp [HT.sIx]
  split <;> omega
theorem v9_len : v9.length = 8 := by decide +kernel
structure Pool (h : Mh) (b pl n : Nat) (pool : List Str) : Prop where
  B : BagOk h b
  p : h[pl]? = some (.lst (pool.map D.str))
  nd : pool.Nodup
  ok : ∀ s ∈ pool, Nu s
  lo : 9 ≤ pool.length
  hi : pool.length ≤ n
theorem Pool.add {h : Mh} {b pl n : Nat} {pool : List Str} {s : Str} (P : Pool h b pl n pool) (bp : b < pl) (hs : s ∉ pool) (ok : Nu s) : Pool (h.set pl (.lst ((pool ++ [s]).map D.str))) b pl (n + 1) (pool ++ [s]) :=
  ⟨P.B.put bp, set_at (lt_of P.p), List.nodup_append.mpr ⟨P.nd, by simp, fun a ha c hc z => by
    have : c = s := by simpa using hc
    rw [z, this] at ha; exact hs ha⟩, fun t ht => by
    rcases List.mem_append.mp ht with ht | ht
    · exact P.ok t ht
    · rw [List.mem_singleton.mp ht]; exact ok, by have := P.lo; simp; omega, by have := P.hi; simp; omega⟩
theorem er_perm : ∀ (l : List Str) (i : Nat) (h : i < l.length), (l[i] :: l.eraseIdx i).Perm l
  | [], _, h => absurd h (by simp)
  | a :: l, 0, _ => List.Perm.refl _
  | a :: l, i + 1, h => by
    have ih := er_perm l i (by simpa using h)
    exact (List.Perm.swap a _ _).trans (ih.cons a)
theorem in_pool {h : Mh} {pl : Nat} {pool : List Str} {s : Str} (e : h[pl]? = some (.lst (pool.map D.str))) : dIn true (.str s) (.ref pl) h = .ok (.bl (!decide (s ∈ pool))) h := by
  rw [in_lst, e]
  dsimp only
  rw [any_eq, if_pos ⟨rfl, flat_strs⟩]
  rfl
theorem names_ok {h : Mh} {b many : Nat} (hm30 : many ≤ 30) (B : BagOk h b) : (f__law_wire_names [.ref b, .int (many : Int)] h).wp fun d h' => (∃ r, ∃ ns : List Str, d = .ref r ∧ h'[r]? = some (.lst (ns.map D.str)) ∧ h.length ≤ r ∧ ns.length = many ∧ ns.Nodup ∧ ∀ s ∈ ns, Nu s) ∧ BagOk h' b ∧ Gr b h h' := by
  have bl := B.lt
  unfold f__law_wire_names m__law_wire_names
  rw [w_run]
  refine stepT (fun sg h' => (∃ stem, sg = [some (.ref b), some (.int (many : Int)), some (.str stem), none, none, none, none, none] ∧ SOk stem 6) ∧ BagOk h' b ∧ Gr b h h') ?_ fun sg h1 ⟨⟨stem, e, st⟩, B1, G1⟩ => ?_
  · simp [startD, List.replicate]
    refine (of_ok (ds := stems.map D.str) (B.ex Ex.app) at_end (by omega) (by decide) (by decide)).mono fun d h1 ⟨⟨j, e⟩, B1, G1⟩ => ?_
    rw [List.getElem?_map] at e
    obtain ⟨s, es, rfl⟩ := Option.map_eq_some_iff.mp e
    simp
    exact ⟨stems_ok s (List.mem_of_getElem? es), B1, Ex.app.gr.trans G1⟩
  subst e
  refine stepT (fun sg h' => (∃ stem, sg = [some (.ref b), some (.int (many : Int)), some (.str stem), none, none, none, none, none] ∧ SOk stem 6) ∧ BagOk h' b ∧ Gr b h h') ?_ fun sg h2 ⟨⟨stem, e, st⟩, B2, G2⟩ => ?_
  · by_cases c : stem = Str.ofString "*"
    · simp [c, isTy]
      refine (draw_ok B1 (size := 6) (by decide) (by decide)).mono fun d h2 ⟨m, e, m0, m1, B2, G2⟩ => ?_
      subst e
      have ir : InR (1 + m) := inR_of (by omega) (by omega)
      simp [ir, wipeD]
      refine (lc_draw (s := srcR 0 (1 + m).toNat) (g := gNm 7) (items := (List.range (1 + m).toNat).map fun k : Nat => D.int (k : Int)) (fun y => ∃ s, y = .str s ∧ SOk s 1) B2 (by simp; omega) (fun j x h' e B' G' => ⟨trivial, _, rfl, ?_⟩) (fun _ _ => trivial)).mono fun d h3 ⟨e, ys, hy, ly, Py, B3, G3⟩ => ?_
      · simp
        refine (ofs_ok (z := a9S) B' a9_ok.2.2.1 a9_ok.2.2.2).mono fun d h4 ⟨⟨c, hc, e⟩, B4, G4⟩ => ⟨⟨_, e, sok_one (a9_ok.1 c hc) (by decide)⟩, B4, G4⟩
      · subst e
        have ex : ∃ zs : List Str, ys = zs.map D.str ∧ ∀ z ∈ zs, SOk z 1 := by
          clear hy ly
          induction ys with
          | nil => exact ⟨[], rfl, by simp⟩
          | cons y ys ih =>
            obtain ⟨s, rfl, hs⟩ := Py y (by simp)
            obtain ⟨zs, rfl, hz⟩ := ih fun z hz => Py z (by simp [hz])
            exact ⟨s :: zs, rfl, fun z hz' => by
              rcases List.mem_cons.mp hz' with rfl | hz'
              · exact hs
              · exact hz z hz'⟩
        obtain ⟨zs, rfl, hz⟩ := ex
        have lz : zs.length ≤ 6 := by simp at ly; omega
        have jj : dJoin (.str (Str.ofString "")) [.ref h2.length] h3 = .ok (.str (Txt.join (Str.ofString "") zs)) h3 := by
          have so : ∀ l : List Str, strsOf (l.map D.str) = some l := fun l => by
            induction l with
            | nil => rfl
            | cons x l ih => show (strsOf (l.map D.str)).map _ = _; rw [ih]; rfl
          have sm : ∀ l : List Str, (∀ y ∈ l, SOk y 1) → (l.map (·.length)).sum ≤ l.length := fun l => by
            induction l with
            | nil => intro _; simp
            | cons y l ih =>
              intro h
              have a := ih fun z hz => h z (by simp [hz])
              have b := (h y (by simp)).len
              simp
              omega
          have := sm zs hz
          unfold dJoin
          simp only [l_lstOf, hy, so]
          exact if_pos (by rw [show (Str.ofString "").length = 0 by decide +kernel]; omega)
        simp [jj]
        exact ⟨sok_join hz lz, B3, G1.trans (G2.trans G3)⟩
    · simp [c]
      exact ⟨st, B1, G1⟩
  subst e
  have ls : LenE stem.length := lenE (by have := st.len; omega)
  refine stepT (fun sg h' => ∃ cut pl, sg = [some (.ref b), some (.int (many : Int)), some (.str stem), some (.int cut), some (.ref pl), none, none, none] ∧ Pool h' b pl 9 pool0 ∧ b < pl ∧ h.length ≤ pl ∧ Gr b h h') ?_ fun sg h3 ⟨cut, pl, e, P3, bp, hp, G3⟩ => ?_
  · simp [ls]
    refine (draw_ok B2 (size := (stem.length : Int) + 1) (by omega) (by have := st.len; omega)).mono fun d h3 ⟨k, e, _, _, B3, G3⟩ => ?_
    subst e
    simp
    have := B3.lt
    have := G2.len
    have := G3.len
    exact ⟨_, _, ⟨rfl, rfl⟩, ⟨B3.ex Ex.app, at_end, pool0_ok.1, fun s hs => nu_of (pool0_ok.2.1 s hs), by decide, by decide⟩, by omega, by omega, G2.trans (G3.trans Ex.app.gr)⟩
  subst e
  refine stepT (fun sg h' => ∃ x5 x6 pool, sg = [some (.ref b), some (.int (many : Int)), some (.str stem), some (.int cut), some (.ref pl), x5, x6, none] ∧ Pool h' b pl 50 pool ∧ Gr b h h') ?_ fun sg h4 ⟨x5, x6, pool, e, P4, G4⟩ => ?_
  · rw [w_for, wp_th]
    have la : a9S.cps.toList.length = 36 := a9_ok.2.1
    simp
    change RS.wp (forL (srcS a9S) _ _ (a9S.cps.toList.map fun c => D.str ⟨#[c]⟩) 0 _ h3) _ _
    refine loop (fun j sg h' => ∃ x5 x6 pool, sg = [some (.ref b), some (.int (many : Int)), some (.str stem), some (.int cut), some (.ref pl), x5, x6, none] ∧ Pool h' b pl (9 + j) pool ∧ Gr b h h') ⟨none, none, pool0, rfl, P3, G3⟩ (fun j x sg h' e ⟨x5, x6, pool, es, P, G⟩ => ?_) (fun sg h' ⟨x5, x6, pool, es, P, G⟩ => ⟨trivial, x5, x6, pool, es, ⟨P.B, P.p, P.nd, P.ok, P.lo, by have := P.hi; rw [List.length_map, la] at this; omega⟩, G⟩)
    subst es
    have jl : j < 36 := by
      have := (List.getElem?_eq_some_iff.mp e).1
      rw [List.length_map, la] at this; exact this
    rw [List.getElem?_map] at e
    obtain ⟨c, ec, rfl⟩ := Option.map_eq_some_iff.mp e
    refine ⟨trivial, _, rfl, ?_⟩
    have c1 := sok_one (n := 1) (a9_ok.1 c (List.mem_of_getElem? ec)) (by decide)
    have s1 := sok_cut st none (some cut)
    have s2 := sok_cut st (some cut) none
    have so := sok_app (sok_app s1 c1) s2
    have l1 : LenE ((L2.cutS stem none (some cut)).length + (⟨#[c]⟩ : Str).length) := lenE (by have := s1.len; have := c1.len; omega)
    have l2 : LenE ((L2.cutS stem none (some cut) ++ ⟨#[c]⟩).length + (L2.cutS stem (some cut) none).length) := lenE (by have := (sok_app s1 c1).len; have := s2.len; omega)
    simp only [w_seq, wp_ths, List.set_cons_succ, List.set_cons_zero]
    simp [ls, l1, l2]
    have s7 : (L2.cutS stem none (some cut) ++ ⟨#[c]⟩ ++ L2.cutS stem (some cut) none).length ≤ 7 := by
      rw [app_len, app_len]
      have := cut_both (s := stem) (c := cut)
      have := st.len
      have : (⟨#[c]⟩ : Str).length = 1 := rfl
      omega
    generalize L2.cutS stem none (some cut) ++ ⟨#[c]⟩ ++ L2.cutS stem (some cut) none = one at *
    have so' : SOk one 100 := ⟨so.ok, Nat.le_trans so.len (by decide)⟩
    refine (is_wire_ok so').mono fun d h5 ⟨⟨b', e, hN⟩, X⟩ => ?_
    subst e
    have P5 : Pool h5 b pl (9 + j) pool := ⟨P.B.ex X, X.get P.p, P.nd, P.ok, P.lo, P.hi⟩
    have G5 := G.trans (X.gr (b := b))
    have up : Pool h5 b pl (9 + (j + 1)) pool := ⟨P5.B, P5.p, P.nd, P.ok, P.lo, by have := P.hi; omega⟩
    have hdin : dIn true (.str one) (.ref pl) h5 = .ok (.bl (!decide (one ∈ pool))) h5 := in_pool P5.p
    cases b'
    · simp
      exact ⟨⟨pool, up⟩, G5⟩
    · by_cases hin : one ∈ pool
      · simp [-in_lst, hdin, hin]
        exact ⟨⟨pool, up⟩, G5⟩
      · have lc : LenC pool.length := lenC (by have := P.hi; omega)
        simp [-in_lst, hdin, P5.p, hin, lc]
        have := P5.add bp hin ⟨hN rfl, fun z => by
          rw [z, v9_len] at s7
          omega⟩
        rw [List.map_append] at this
        exact ⟨⟨_, this⟩, G5.put (.inl hp)⟩
  subst e
  refine stepT (fun sg h' => ∃ x5 x6 x7 pool, sg = [some (.ref b), some (.int (many : Int)), some (.str stem), some (.int cut), some (.ref pl), x5, x6, x7] ∧ Pool h' b pl 100 pool ∧ 40 ≤ pool.length ∧ Gr b h h') ?_ fun sg h5 ⟨x5, x6, x7, pool, e, P5, l40, G5⟩ => ?_
  · rw [w_for, wp_th]
    have i40 : InR 40 := inR_of (by decide) (by decide)
    simp [i40]
    refine loop (fun j sg h' => ∃ x5 x6 x7 pool, sg = [some (.ref b), some (.int (many : Int)), some (.str stem), some (.int cut), some (.ref pl), x5, x6, x7] ∧ Pool h' b pl (50 + j) pool ∧ (45 ≤ pool.length ∨ ∀ k < j, wS k ∈ pool) ∧ Gr b h h') ⟨x5, x6, none, pool, rfl, P4, .inr (by simp), G4⟩ (fun j x sg h' e ⟨x5, x6, x7, pool, es, P, hw, G⟩ => ?_) (fun sg h' ⟨x5, x6, x7, pool, es, P, hw, G⟩ => ⟨trivial, x5, x6, x7, pool, es, ⟨P.B, P.p, P.nd, P.ok, P.lo, by have := P.hi; simp at this; omega⟩, ?_, G⟩)
    · subst es
      have jl : j < 40 := by
        have := (List.getElem?_eq_some_iff.mp e).1
        simpa using this
      have ex : x = .int (j : Int) := by
        simp [List.getElem?_range jl] at e
        exact e.symm
      subst ex
      refine ⟨trivial, _, rfl, ?_⟩
      have up : (45 ≤ pool.length ∨ ∀ k < j + 1, wS k ∈ pool) → ∃ pool', (Pool h' b pl (50 + (j + 1)) pool') ∧ (45 ≤ pool'.length ∨ ∀ k < j + 1, wS k ∈ pool') := fun w => ⟨pool, ⟨P.B, P.p, P.nd, P.ok, P.lo, by have := P.hi; omega⟩, w⟩
      by_cases l45 : pool.length < 45
      · have hw' : ∀ k < j, wS k ∈ pool := hw.resolve_left (by omega)
        have c45 : (pool.length : Int) < 45 := by omega
        have g1 : ((j : Int).natAbs).log2 < 1920 := num_log (by omega)
        have g1' : j.log2 < 1920 := g1
        have n1 : (Str.ofString ((j : Nat) : Int).repr).length ≤ 2 := numS_len (n := j) (by omega)
        have n2 : LenE ((Str.ofString "w").length + (Str.ofString ((j : Nat) : Int).repr).length) := lenE (by rw [show (Str.ofString "w").length = 1 by decide +kernel]; omega)
        have ew : Str.ofString "w" ++ Str.ofString ((j : Nat) : Int).repr = wS j := rfl
        have hdin : dIn true (.str (wS j)) (.ref pl) h' = .ok (.bl (!decide (wS j ∈ pool))) h' := in_pool P.p
        by_cases hin : wS j ∈ pool
        · simp [-in_lst, P.p, c45, dStr, g1', n2, ew, hdin, hin]
          obtain ⟨pool', Q, w⟩ := up (.inr fun k hk => by
            rcases Nat.lt_succ_iff_lt_or_eq.mp hk with h1 | h1
            · exact hw' k h1
            · rw [h1]; exact hin)
          exact ⟨pool', Q, w, G⟩
        · have lc : LenC pool.length := lenC (by omega)
          simp [-in_lst, P.p, c45, dStr, g1', n2, ew, hdin, hin, lc]
          have := P.add bp hin (nu_of (wS_ok j jl))
          rw [List.map_append] at this
          exact ⟨_, this, .inr fun k hk => by
            rcases Nat.lt_succ_iff_lt_or_eq.mp hk with h1 | h1
            · exact List.mem_append.mpr (.inl (hw' k h1))
            · rw [h1]; simp, G.put (.inl hp)⟩
      · have c45 : ¬ (pool.length : Int) < 45 := by omega
        simp [-in_lst, P.p, c45]
        obtain ⟨pool', Q, w⟩ := up (.inl (by omega))
        exact ⟨pool', Q, w, G⟩
    · rcases hw with hw | hw
      · omega
      · have := len_le wS_nd fun s hs => by
          obtain ⟨k, hk, rfl⟩ := List.mem_map.mp hs
          exact hw k (by simpa using hk)
        simpa using this
  subst e
  have i7 : InR (many : Int) := inR_of (by omega) (by omega)
  rw [w_ret, wp_th]
  simp [i7, wipeD]
  have key := lc_wp (s := srcR 0 many) (g := gNm 7) (mt := mYes) (me := mMt "list" dPopAt (mVar 4) (mCons (mCall 2 f__law_draw (mCons (mVar 0) (mCons (mBi dLen (mCons (mVar 4) mNil)) mNil)) []) mNil)) (sg := [some (.ref b), some (.int (many : Int)), some (.str stem), some (.int cut), some (.ref pl), x5, x6, none]) (n := h5.length)
    (P := fun d h' => (∃ r, ∃ ns : List Str, d = .ref r ∧ h'[r]? = some (.lst (ns.map D.str)) ∧ h.length ≤ r ∧ ns.length = many ∧ ns.Nodup ∧ ∀ s ∈ ns, Nu s) ∧ BagOk h' b ∧ Gr b h h')
    (fun j acc h' => ∃ ns pool : List Str, acc = ns.map D.str ∧ ns.length = j ∧ j ≤ many ∧ h'[pl]? = some (.lst (pool.map D.str)) ∧ pool.length + j ≥ 40 ∧ pool.length ≤ 100 ∧ (ns ++ pool).Nodup ∧ (∀ s ∈ ns ++ pool, Nu s) ∧ BagOk h' b ∧ Gr b h h')
    (fun j x acc h' e ⟨ns, pool, ea, ln, j7, hpl, lo, hi, nd, ok, B, G⟩ hn => ?_) (fun acc h' ⟨ns, pool, ea, ln, j7, hpl, lo, hi, nd, ok, B, G⟩ hn => ⟨trivial, ⟨h5.length, ns, rfl, by rw [hn, ea], G5.len, by simpa using ln, (List.nodup_append.mp nd).1, fun s hs => ok s (by simp [hs])⟩, B, G⟩) many 0 [] (h5 ++ [.lst []]) (by simp) ⟨[], pool, rfl, rfl, Nat.zero_le _, app_get P5.p, by omega, P5.hi, by simpa using P5.nd, by simpa using P5.ok, P5.B.ex Ex.app, G5.trans Ex.app.gr⟩ at_end
  · have ei : (srcR 0 many).items = (List.range many).map fun k : Nat => D.int (k : Int) := by simp
    rw [List.drop_zero, ei] at key
    exact key.mono fun d h' q => by simpa using q
  · have j7' : j < many := by
      have := (List.getElem?_eq_some_iff.mp e).1
      simpa using this
    refine ⟨trivial, _, rfl, wp_of (a := true) (h := h') rfl ?_⟩
    rw [if_pos rfl]
    simp [hpl]
    have bpl := lt_of P5.p
    have b5 := P5.B.lt
    have plb : pl ≠ b := by omega
    refine (draw_ok B (size := (pool.length : Int)) (by omega) (by omega)).mono fun d h6 ⟨k, e, k0, k1, B6, G6⟩ => ?_
    subst e
    have kl : k.toNat < pool.length := by omega
    have hp6 := G6.get plb hpl
    have pop : dPopAt (.ref pl) [.int k] h6 = .ok (.str pool[k.toNat]) (h6.set pl (.lst ((pool.eraseIdx k.toNat).map D.str))) := by
      have ix : ixN (pool.map D.str).length k = some k.toNat := by
        unfold ixN; rw [if_pos k0, if_pos (by simpa using k1)]
      have sq := (L2.ixN_seq ix).1
      have em : (pool.map D.str).eraseIdx k.toNat = (pool.eraseIdx k.toNat).map D.str := by
        simp [List.eraseIdx_eq_take_drop_succ, List.map_take, List.map_drop]
      have eg : (pool.map D.str)[k.toNat]? = some (.str pool[k.toNat]) := by simp [List.getElem?_eq_getElem kl]
      unfold dPopAt
      simp only [hp6]
      rw [if_pos ⟨by omega, by omega⟩, sq]
      simp only [eg, em]
    simp [pop]
    have hn6 := G6.get (by omega) hn
    have perm : ((ns ++ [pool[k.toNat]]) ++ pool.eraseIdx k.toNat).Perm (ns ++ pool) := by
      rw [List.append_assoc]
      exact (er_perm pool k.toNat kl).append_left ns
    have le := List.length_eraseIdx_of_lt kl
    have key2 : ∃ ns' pool' : List Str, acc ++ [D.str pool[k.toNat]] = ns'.map D.str ∧ ns'.length = j + 1 ∧ j + 1 ≤ many ∧ ((h6.set pl (.lst ((pool.eraseIdx k.toNat).map D.str))).set h5.length (.lst (acc ++ [D.str pool[k.toNat]])))[pl]? = some (.lst (pool'.map D.str)) ∧ pool'.length + (j + 1) ≥ 40 ∧ pool'.length ≤ 100 ∧ (ns' ++ pool').Nodup ∧ (∀ s ∈ ns' ++ pool', Nu s) ∧ BagOk ((h6.set pl (.lst ((pool.eraseIdx k.toNat).map D.str))).set h5.length (.lst (acc ++ [D.str pool[k.toNat]]))) b ∧ Gr b h ((h6.set pl (.lst ((pool.eraseIdx k.toNat).map D.str))).set h5.length (.lst (acc ++ [D.str pool[k.toNat]]))) :=
      ⟨ns ++ [pool[k.toNat]], pool.eraseIdx k.toNat, by rw [ea]; simp, by simp [ln], by omega, by rw [set_off (by omega)]; exact set_at (lt_of hp6), by omega, by omega, perm.nodup_iff.mpr nd, fun s hs => ok s (perm.mem_iff.mp hs), (B6.put bp).put (by omega), ((G.trans G6).put (.inl hp)).put (.inl G5.len)⟩
    refine ⟨by rw [set_off (by omega)]; exact hn6, Nat.lt_of_lt_of_le (by rw [ea]; simp; omega) line_le, ?_⟩
    simpa using key2
end K10

namespace K10
open PySem PySem.Spec PyProof.Rows L2 Mo
theorem popS {h : Mh} {pl : Nat} {pool : List Str} {k : Int} (pl1000 : pool.length ≤ 1000) (hp : h[pl]? = some (.lst (pool.map D.str))) (k0 : 0 ≤ k) (k1 : k < (pool.length : Int)) : ∃ s, pool[k.toNat]? = some s ∧ dPopAt (.ref pl) [.int k] h = .ok (.str s) (h.set pl (.lst ((pool.eraseIdx k.toNat).map D.str))) := by
  have kl : k.toNat < pool.length := by omega
  have ix : ixN (pool.map D.str).length k = some k.toNat := by
    unfold ixN; rw [if_pos k0, if_pos (by simpa using k1)]
  have sq := (L2.ixN_seq ix).1
  have em : (pool.map D.str).eraseIdx k.toNat = (pool.eraseIdx k.toNat).map D.str := by
    simp [List.eraseIdx_eq_take_drop_succ, List.map_take, List.map_drop]
  have eg : (pool.map D.str)[k.toNat]? = some (.str pool[k.toNat]) := by simp [List.getElem?_eq_getElem kl]
  refine ⟨_, List.getElem?_eq_getElem kl, ?_⟩
  unfold dPopAt
  simp only [hp]
  rw [if_pos ⟨by omega, by omega⟩, sq]
  simp only [eg, em]
/-- well formed so far, but for the wires behind from -/
structure PW (fs : List Ln) : Prop where
  nu : ∀ l ∈ fs, Nm l.wire ∧ ∀ s ∈ l.reads, Nm s
  new : ∀ (i : Nat) (l : Ln), fs[i]? = some l → l.isOpn = false → l.wire ∉ known (fs.take i)
  rd : ∀ (i : Nat) (l : Ln), fs[i]? = some l → ∀ s ∈ l.reads, s ∈ known (fs.take i)
theorem PW.nil : PW [] := ⟨by simp, by simp, by simp⟩
theorem PW.snoc {fs : List Ln} {l : Ln} (P : PW fs) (h1 : Nm l.wire ∧ ∀ s ∈ l.reads, Nm s) (h2 : l.isOpn = false → l.wire ∉ known fs) (h3 : ∀ s ∈ l.reads, s ∈ known fs) : PW (fs ++ [l]) := by
  have cut : ∀ {i m}, (fs ++ [l])[i]? = some m → (fs[i]? = some m ∧ (fs ++ [l]).take i = fs.take i) ∨ (m = l ∧ (fs ++ [l]).take i = fs) := fun {i m} e => by
    by_cases hi : i < fs.length
    · rw [List.getElem?_append_left hi] at e
      exact .inl ⟨e, List.take_append_of_le_length (Nat.le_of_lt hi)⟩
    · have : i < (fs ++ [l]).length := (List.getElem?_eq_some_iff.mp e).1
      have e0 : i = fs.length := by simp at this; omega
      subst e0
      rw [List.getElem?_append_right (Nat.le_refl _), Nat.sub_self] at e
      cases e
      exact .inr ⟨rfl, by simp⟩
  refine ⟨fun m hm => ?_, fun i m e => ?_, fun i m e => ?_⟩
  · rcases List.mem_append.mp hm with hm | hm
    · exact P.nu m hm
    · rw [List.mem_singleton.mp hm]; exact h1
  · rcases cut e with ⟨e1, e2⟩ | ⟨rfl, e2⟩
    · rw [e2]; exact P.new i m e1
    · rw [e2]; exact h2
  · rcases cut e with ⟨e1, e2⟩ | ⟨rfl, e2⟩
    · rw [e2]; exact P.rd i m e1
    · rw [e2]; exact h3
def Ln.bare : Ln → Ln
  | .sec n _ => .sec n (Str.ofString "")
  | .cel n b _ => .cel n b (Str.ofString "")
  | l => l
theorem bare_w (l : Ln) : l.bare.wire = l.wire ∧ l.bare.isOpn = l.isOpn ∧ l.bare.reads = l.reads ∧ l.bare.kind = l.kind := by cases l <;> exact ⟨rfl, rfl, rfl, rfl⟩
theorem known_bare {ls : List Ln} : known (ls.map Ln.bare) = known ls := by
  unfold known
  rw [List.filter_map, List.map_map]
  have e1 : ((fun l : Ln => !l.isOpn) ∘ Ln.bare) = fun l => !l.isOpn := funext fun l => by simp [(bare_w l).2.1]
  have e2 : (Ln.wire ∘ Ln.bare) = Ln.wire := funext fun l => (bare_w l).1
  rw [e1, e2]
theorem told_bare {k : Str} {ls : List Ln} : (toldBy k (ls.map Ln.bare)).length = (toldBy k ls).length := by
  unfold toldBy
  rw [List.length_map, List.length_map, List.filter_map, List.length_map]
  have e1 : ((fun l : Ln => decide (l.kind = k)) ∘ Ln.bare) = fun l => decide (l.kind = k) := funext fun l => by simp [(bare_w l).2.2.2]
  rw [e1]
theorem PW.of_bare {gs : List Ln} (P : PW (gs.map Ln.bare)) : PW gs := by
  refine ⟨fun l hl => ?_, fun i l e => ?_, fun i l e => ?_⟩
  · have := P.nu l.bare (List.mem_map.mpr ⟨l, hl, rfl⟩)
    rwa [(bare_w l).1, (bare_w l).2.2.1] at this
  · have := P.new i l.bare (by rw [List.getElem?_map, e]; rfl)
    rwa [(bare_w l).1, (bare_w l).2.1, ← List.map_take, known_bare] at this
  · have := P.rd i l.bare (by rw [List.getElem?_map, e]; rfl)
    rwa [(bare_w l).2.2.1, ← List.map_take, known_bare] at this
theorem PW.known_nu {fs : List Ln} (P : PW fs) : ∀ s ∈ known fs, Nm s := fun s hs => by
  unfold known at hs
  obtain ⟨l, hl, rfl⟩ := List.mem_map.mp hs
  exact (P.nu l (List.mem_filter.mp hl).1).1
theorem PW.wf {fs : List Ln} (P : PW fs) (hf : ∀ l ∈ fs, ∀ s ∈ l.froms, s ∈ known fs) (hl : fs.length ≤ 60) : WF fs :=
  ⟨fun l hm => ⟨(P.nu l hm).1, (P.nu l hm).2, fun s hs => P.known_nu s (hf l hm s hs)⟩, P.new, P.rd, hf, hl⟩
def cnt (k : Str) (hs : List Str) : Nat := (hs.filter fun s => decide (s = k)).length
theorem cnt_erase {k : Str} {hs : List Str} {i : Nat} {s : Str} (e : hs[i]? = some s) : cnt k hs = cnt k (hs.eraseIdx i) + if s = k then 1 else 0 := by
  have hi := (List.getElem?_eq_some_iff.mp e).1
  have p := er_perm hs i hi
  have es : hs[i] = s := (List.getElem?_eq_some_iff.mp e).2
  rw [es] at p
  have := (p.filter (fun s => decide (s = k))).length_eq
  unfold cnt
  rw [← this, List.filter_cons]
  by_cases h : s = k <;> simp [h]
theorem told_snoc {k : Str} {fs : List Ln} {l : Ln} : (toldBy k (fs ++ [l])).length = (toldBy k fs).length + if l.kind = k then 1 else 0 := by
  unfold toldBy
  rw [List.filter_append, List.map_append, List.length_append]
  by_cases h : l.kind = k <;> simp [h]
end K10

namespace K10
open PySem PySem.Spec PyProof.Rows L2 Mo
def headsL : List Str := [Str.ofString "secret", Str.ofString "cell", Str.ofString "in", Str.ofString "gate", Str.ofString "open"]
structure GS (h0 h : Mh) (b hr nr fr kr : Nat) (names : List Str) (T j : Nat) (hs : List Str) (fs : List Ln) : Prop where
  B : BagOk h b
  G : Gr b h0 h
  hh : h[hr]? = some (.lst (hs.map D.str))
  hn : h[nr]? = some (.lst (names.map D.str))
  hf : h[fr]? = some (.lst (fs.map Ln.d))
  hk : h[kr]? = some (.lst ((known fs).map D.str))
  b0 : b < h0.length
  nb : nr ≠ b
  n0 : nr < h0.length
  h1 : h0.length ≤ hr
  f1 : h0.length ≤ fr
  k1 : h0.length ≤ kr
  hf' : hr ≠ fr
  hk' : hr ≠ kr
  fk' : fr ≠ kr
  nl : names.length = 30
  nd : names.Nodup
  nu : ∀ s ∈ names, Nu s
  T30 : T ≤ 30
  len : hs.length + j = T
  fl : fs.length ≤ j
  hds : ∀ s ∈ hs, s ∈ headsL
  co : (toldBy (Str.ofString "open") fs).length + cnt (Str.ofString "open") hs ≤ 6
  ci : (toldBy (Str.ofString "in") fs).length + cnt (Str.ofString "in") hs ≤ 3
  P : PW fs
  bare : fs.map Ln.bare = fs
  sub : ∀ s ∈ known fs, s ∈ names.take j
theorem GS.ex {h0 h h' : Mh} {b hr nr fr kr : Nat} {names : List Str} {T j : Nat} {hs : List Str} {fs : List Ln} (S : GS h0 h b hr nr fr kr names T j hs fs) (X : Ex h h') : GS h0 h' b hr nr fr kr names T j hs fs :=
  { S with B := S.B.ex X, G := S.G.trans X.gr, hh := X.get S.hh, hn := X.get S.hn, hf := X.get S.hf, hk := X.get S.hk }
theorem GS.dr {h0 h h' : Mh} {b hr nr fr kr : Nat} {names : List Str} {T j : Nat} {hs : List Str} {fs : List Ln} (S : GS h0 h b hr nr fr kr names T j hs fs) (B : BagOk h' b) (G : Gr b h h') : GS h0 h' b hr nr fr kr names T j hs fs :=
  have h1 := S.h1
  have f1 := S.f1
  have k1 := S.k1
  have b0 := S.b0
  { S with B := B, G := S.G.trans G, hh := G.get (by omega) S.hh, hn := G.get S.nb S.hn, hf := G.get (by omega) S.hf, hk := G.get (by omega) S.hk }
/-- after a head is taken -/
structure GP (h0 h : Mh) (b hr nr fr kr : Nat) (names : List Str) (T j : Nat) (hs : List Str) (fs : List Ln) (hd : Str) : Prop where
  B : BagOk h b
  G : Gr b h0 h
  hh : h[hr]? = some (.lst (hs.map D.str))
  hn : h[nr]? = some (.lst (names.map D.str))
  hf : h[fr]? = some (.lst (fs.map Ln.d))
  hk : h[kr]? = some (.lst ((known fs).map D.str))
  b0 : b < h0.length
  nb : nr ≠ b
  n0 : nr < h0.length
  h1 : h0.length ≤ hr
  f1 : h0.length ≤ fr
  k1 : h0.length ≤ kr
  hf' : hr ≠ fr
  hk' : hr ≠ kr
  fk' : fr ≠ kr
  nl : names.length = 30
  nd : names.Nodup
  nu : ∀ s ∈ names, Nu s
  T30 : T ≤ 30
  len : hs.length + (j + 1) = T
  fl : fs.length ≤ j
  hds : ∀ s ∈ hs, s ∈ headsL
  co : (toldBy (Str.ofString "open") fs).length + cnt (Str.ofString "open") hs + (if hd = Str.ofString "open" then 1 else 0) ≤ 6
  ci : (toldBy (Str.ofString "in") fs).length + cnt (Str.ofString "in") hs + (if hd = Str.ofString "in" then 1 else 0) ≤ 3
  P : PW fs
  bare : fs.map Ln.bare = fs
  sub : ∀ s ∈ known fs, s ∈ names.take j
section
variable {h0 h h' : Mh} {b hr nr fr kr : Nat} {names : List Str} {T j : Nat} {hs : List Str} {fs : List Ln} {hd : Str}
theorem GP.ex (S : GP h0 h b hr nr fr kr names T j hs fs hd) (X : Ex h h') : GP h0 h' b hr nr fr kr names T j hs fs hd :=
  { S with B := S.B.ex X, G := S.G.trans X.gr, hh := X.get S.hh, hn := X.get S.hn, hf := X.get S.hf, hk := X.get S.hk }
theorem GP.dr (S : GP h0 h b hr nr fr kr names T j hs fs hd) (B : BagOk h' b) (G : Gr b h h') : GP h0 h' b hr nr fr kr names T j hs fs hd :=
  have h1 := S.h1
  have f1 := S.f1
  have k1 := S.k1
  have b0 := S.b0
  { S with B := B, G := S.G.trans G, hh := G.get (by omega) S.hh, hn := G.get S.nb S.hn, hf := G.get (by omega) S.hf, hk := G.get (by omega) S.hk }
theorem GP.skip (S : GP h0 h b hr nr fr kr names T j hs fs hd) : GS h0 h b hr nr fr kr names T (j + 1) hs fs :=
  { B := S.B, G := S.G, hh := S.hh, hn := S.hn, hf := S.hf, hk := S.hk, b0 := S.b0, nb := S.nb, n0 := S.n0, h1 := S.h1, f1 := S.f1, k1 := S.k1, hf' := S.hf', hk' := S.hk', fk' := S.fk', nl := S.nl, nd := S.nd, nu := S.nu, T30 := S.T30, len := S.len, fl := Nat.le_succ_of_le S.fl, hds := S.hds,
    co := by have := S.co; omega, ci := by have := S.ci; omega, P := S.P, bare := S.bare,
    sub := fun s hs => by rw [List.take_add_one]; exact List.mem_append.mpr (.inl (S.sub s hs)) }
theorem GP.nm (S : GP h0 h b hr nr fr kr names T j hs fs hd) : ∃ nm, names[j]? = some nm ∧ Nu nm ∧ nm ∉ known fs ∧ nm ∈ names.take (j + 1) := by
  have jl : j < names.length := by have := S.len; have := S.T30; have := S.nl; omega
  refine ⟨names[j], List.getElem?_eq_getElem jl, S.nu _ (List.getElem_mem jl), fun z => ?_, by rw [List.take_add_one, List.getElem?_eq_getElem jl]; exact List.mem_append.mpr (.inr (List.mem_singleton.mpr rfl))⟩
  have z := S.sub _ z
  have nd := S.nd
  rw [← List.take_append_drop j names, List.nodup_append] at nd
  exact nd.2.2 _ z _ (by rw [List.drop_eq_getElem_cons jl]; exact List.mem_cons_self ..) rfl
/-- an open line is found -/
theorem GP.opn (S : GP h0 h b hr nr fr kr names T j hs fs (Str.ofString "open")) {n : Str} (hn : n ∈ known fs) : GS h0 (h.set fr (.lst ((fs ++ [Ln.opn n]).map Ln.d))) b hr nr fr kr names T (j + 1) hs (fs ++ [Ln.opn n]) :=
  have h1 := S.h1
  have f1 := S.f1
  have k1 := S.k1
  have b0 := S.b0
  have n0 := S.n0
  have nu := S.P.known_nu n hn
  have ek : known (fs ++ [Ln.opn n]) = known fs := by rw [known_snoc]; rfl
  { B := S.B.put (by omega), G := S.G.put (.inl f1), hh := by rw [set_off S.hf'.symm]; exact S.hh, hn := by rw [set_off (by omega)]; exact S.hn, hf := set_at (lt_of S.hf), hk := by rw [set_off S.fk', ek]; exact S.hk, b0 := S.b0, nb := S.nb, n0 := S.n0, h1 := S.h1, f1 := S.f1, k1 := S.k1, hf' := S.hf', hk' := S.hk', fk' := S.fk', nl := S.nl, nd := S.nd, nu := S.nu, T30 := S.T30, len := S.len, fl := by have := S.fl; simp; omega, hds := S.hds,
    co := by
      have := S.co
      rw [told_snoc]
      simp [Ln.kind] at this ⊢
      omega
    ci := by
      have := S.ci
      rw [told_snoc]
      simp [Ln.kind] at this ⊢
      omega
    P := S.P.snoc ⟨nu, by simpa [Ln.reads] using nu⟩ (by simp [Ln.isOpn]) (by simpa [Ln.reads] using hn), bare := by rw [List.map_append, S.bare]; rfl,
    sub := fun s hs => by rw [ek] at hs; rw [List.take_add_one]; exact List.mem_append.mpr (.inl (S.sub s hs)) }
/-- another line is found -/
theorem GP.add (S : GP h0 h b hr nr fr kr names T j hs fs hd) {l : Ln} {nm : Str} (hnm : names[j]? = some nm) (h1' : l.wire = nm) (h2' : l.isOpn = false) (h3' : ∀ s ∈ l.reads, s ∈ known fs) (h4 : l.bare = l) (h5 : (l.kind = Str.ofString "in") → hd = Str.ofString "in") (kr2 : Nat) {X : Mh} (ek : X = (h.set fr (.lst ((fs ++ [l]).map Ln.d)) ++ [.lst [.str nm]]) ++ [.lst ((known fs ++ [nm]).map D.str)]) (e2 : kr2 = h.length + 1) :
    GS h0 X b hr nr fr kr2 names T (j + 1) hs (fs ++ [l]) := by
  have h1 := S.h1
  have f1 := S.f1
  have k1 := S.k1
  have b0 := S.b0
  have n0 := S.n0
  obtain ⟨nm', en, nu, nk, nt⟩ := S.nm
  rw [hnm] at en; cases en
  have eknown : known (fs ++ [l]) = known fs ++ [nm] := by rw [known_snoc, h2', h1']; rfl
  have fl := lt_of S.hf
  have hl := lt_of S.hh
  have lenX : (h.set fr (.lst ((fs ++ [l]).map Ln.d))).length = h.length := by simp
  have EX : Ex (h.set fr (.lst ((fs ++ [l]).map Ln.d))) X := by rw [ek]; exact Ex.app.trans Ex.app
  have ko : l.kind ≠ Str.ofString "open" := fun z => by rw [kind_open] at z; rw [h2'] at z; cases z
  subst e2
  exact { B := (S.B.put (by omega)).ex EX, G := (S.G.put (.inl f1)).trans EX.gr, hh := EX.get (by rw [set_off S.hf'.symm]; exact S.hh), hn := EX.get (by rw [set_off (by omega)]; exact S.hn), hf := EX.get (set_at fl),
          hk := by rw [ek, eknown, List.getElem?_append_right (by simp)]; simp,
          b0 := S.b0, nb := S.nb, n0 := S.n0, h1 := S.h1, f1 := S.f1, k1 := by have := S.G.len; omega, hf' := S.hf', hk' := by omega, fk' := by omega, nl := S.nl, nd := S.nd, nu := S.nu, T30 := S.T30, len := S.len, fl := by have := S.fl; simp; omega, hds := S.hds,
          co := by
            have := S.co
            rw [told_snoc, if_neg ko]
            omega
          ci := by
            have := S.ci
            rw [told_snoc]
            by_cases q : l.kind = Str.ofString "in"
            · rw [if_pos q]
              rw [if_pos (h5 q)] at this
              omega
            · rw [if_neg q]; omega
          P := S.P.snoc ⟨by rw [h1']; exact nu.nm, fun s hs => S.P.known_nu s (h3' s hs)⟩ (fun _ => by rw [h1']; exact nk) h3', bare := by rw [List.map_append, S.bare]; show fs ++ [l.bare] = _; rw [h4],
          sub := fun s hs => by
            rw [eknown] at hs
            rcases List.mem_append.mp hs with hs | hs
            · rw [List.take_add_one]; exact List.mem_append.mpr (.inl (S.sub s hs))
            · rw [List.mem_singleton.mp hs]; exact nt }
end
end K10

namespace K10
open PySem PySem.Spec PyProof.Rows L2 Mo
noncomputable def gB : Sg → Mh → RS := (sSeq (sIf (mAndT (mTest (m2 (dE false) (mVar 6) (mLit (.str (Str.ofString "open"))))) (mTest (m2 (dE true) (mVar 4) (mLst mNil)))) (sExpr (mMt "list" dAppend (mVar 3) (mCons (mTup (mCons (mLit (.str (Str.ofString "open"))) (mCons (mCall 2 f__law_of (mCons (mVar 0) (mCons (mVar 4) mNil)) []) mNil))) mNil))) sNext)
    (sSeq (sIf (mAndT (mTest (m2 (dE false) (mVar 6) (mLit (.str (Str.ofString "gate"))))) (mTest (m2 (dE true) (mVar 4) (mLst mNil)))) (sSeq (sPar 7 8 (mCons (mCall 2 f__law_of (mCons (mVar 0) (mCons (mLst (mCons (mLit (.str (Str.ofString "and"))) (mCons (mLit (.str (Str.ofString "xor"))) (mCons (mLit (.str (Str.ofString "not"))) (mCons (mLit (.str (Str.ofString "and"))) mNil))))) mNil)) []) (mCons (mCall 2 f__law_of (mCons (mVar 0) (mCons (mVar 4) mNil)) []) mNil)))
    (sSeq (sExpr (mMt "list" dAppend (mVar 3) (mCons (mTup (mCons (mLit (.str (Str.ofString "gate"))) (mCons (m2 dIx (mVar 2) (mVar 5)) (mCons (mVar 7) (mCons (mVar 8) (mCons (mIte (mTest (m2 (dE false) (mVar 7) (mLit (.str (Str.ofString "not"))))) (mLit .non) (mCall 2 f__law_of (mCons (mVar 0) (mCons (mVar 4) mNil)) [])) mNil)))))) mNil)))
    (sSet 4 (m2 dAdd (mVar 4) (mLst (mCons (m2 dIx (mVar 2) (mVar 5)) mNil)))))) sNext)
    (sIf (mTest (m2 (dIn false) (mVar 6) (mTup (mCons (mLit (.str (Str.ofString "secret"))) (mCons (mLit (.str (Str.ofString "cell"))) (mCons (mLit (.str (Str.ofString "in"))) mNil)))))) (sSeq (sExpr (mMt "list" dAppend (mVar 3) (mCons (mIte (mTest (m2 (dE false) (mVar 6) (mLit (.str (Str.ofString "cell"))))) (mTup (mCons (mLit (.str (Str.ofString "cell"))) (mCons (m2 dIx (mVar 2) (mVar 5)) (mCons (mCall 2 f__law_draw (mCons (mVar 0) (mCons (mLit (.int 2)) mNil)) []) (mCons (mLit (.str (Str.ofString ""))) mNil))))) (mIte (mTest (m2 (dE false) (mVar 6) (mLit (.str (Str.ofString "secret"))))) (mTup (mCons (mLit (.str (Str.ofString "secret"))) (mCons (m2 dIx (mVar 2) (mVar 5)) (mCons (mLit (.str (Str.ofString ""))) mNil)))) (mTup (mCons (mLit (.str (Str.ofString "in"))) (mCons (m2 dIx (mVar 2) (mVar 5)) mNil))))) mNil)))
    (sSet 4 (m2 dAdd (mVar 4) (mLst (mCons (m2 dIx (mVar 2) (mVar 5)) mNil))))) sNext)))
def sgG (b hr nr fr kr : Nat) (x5 x6 x7 x8 x9 : Option D) : Sg := [some (.ref b), some (.ref hr), some (.ref nr), some (.ref fr), some (.ref kr), x5, x6, x7, x8, x9]
section
variable {h0 h h' : Mh} {b hr nr fr kr : Nat} {names : List Str} {T j : Nat} {hs : List Str} {fs : List Ln} {hd : Str}
theorem GS.take (S : GS h0 h b hr nr fr kr names T j hs fs) {i : Nat} (e : hs[i]? = some hd) : GP h0 (h.set hr (.lst ((hs.eraseIdx i).map D.str))) b hr nr fr kr names T j (hs.eraseIdx i) fs hd := by
  have h1 := S.h1
  have f1 := S.f1
  have k1 := S.k1
  have b0 := S.b0
  have n0 := S.n0
  have il := (List.getElem?_eq_some_iff.mp e).1
  have le := List.length_eraseIdx_of_lt il
  have c1 := cnt_erase (k := Str.ofString "open") e
  have c2 := cnt_erase (k := Str.ofString "in") e
  exact { B := S.B.put (by omega), G := S.G.put (.inl h1), hh := set_at (lt_of S.hh), hn := by rw [set_off (by omega)]; exact S.hn, hf := by rw [set_off S.hf']; exact S.hf, hk := by rw [set_off S.hk']; exact S.hk, b0 := S.b0, nb := S.nb, n0 := S.n0, h1 := S.h1, f1 := S.f1, k1 := S.k1, hf' := S.hf', hk' := S.hk', fk' := S.fk', nl := S.nl, nd := S.nd, nu := S.nu, T30 := S.T30,
          len := by have := S.len; omega, fl := S.fl, hds := fun s hs' => S.hds s (List.mem_of_mem_eraseIdx hs'), co := by have := S.co; omega, ci := by have := S.ci; omega, P := S.P, bare := S.bare, sub := S.sub }
theorem known_len' (S : GP h0 h b hr nr fr kr names T j hs fs hd) : (known fs).length ≤ 30 := by
  have := known_len (ls := fs)
  have := S.fl
  have := S.len
  have := S.T30
  omega
/-- known != [] -/
theorem knE (S : GP h0 h b hr nr fr kr names T j hs fs hd) {x5 x6 x7 x8 x9 : Option D} : (m2 (dE true) (mVar 4) (mLst mNil) (sgG b hr nr fr kr x5 x6 x7 x8 x9) h).wp fun d h' => d = .bl (!(known fs).isEmpty) ∧ h' = h ++ [.lst []] := by
  rw [w_m2, wp_bind]
  simp [sgG]
  refine wp_of (dE_strs (neg := true) (app_get S.hk) at_end fun s hs => nm_ok (S.P.known_nu s hs)) ⟨rfl, rfl⟩
/-- one of the known -/
theorem knO (S : GP h0 h b hr nr fr kr names T j hs fs hd) (ne : known fs ≠ []) : (f__law_of [.ref b, .ref kr] h).wp fun d h' => ∃ n, d = .str n ∧ n ∈ known fs ∧ GP h0 h' b hr nr fr kr names T j hs fs hd ∧ h'.length ≥ h.length := by
  have kl := known_len' S
  have lp : 0 < (known fs).length := List.length_pos_iff.mpr ne
  have b0 := S.b0
  have k1 := S.k1
  refine (of_ok (ds := (known fs).map D.str) S.B S.hk (by omega) (by simpa using lp) (by rw [List.length_map]; omega)).mono fun d h' ⟨⟨k, e⟩, B, G⟩ => ?_
  rw [List.getElem?_map] at e
  obtain ⟨n, en, rfl⟩ := Option.map_eq_some_iff.mp e
  exact ⟨n, rfl, List.mem_of_getElem? en, S.dr B G, G.len⟩
def GPost (h0 : Mh) (b hr nr fr : Nat) (names : List Str) (T j : Nat) (hs : List Str) : Sg → Mh → Prop := fun sg h' => ∃ kr x5 x6 x7 x8 fs, sg = sgG b hr nr fr kr x5 x6 x7 x8 none ∧ GS h0 h' b hr nr fr kr names T (j + 1) hs fs
theorem body_open {x7 x8 : Option D} {Q : D → Mh → Prop} (S : GP h0 h b hr nr fr kr names T j hs fs (Str.ofString "open")) : (gB (sgG b hr nr fr kr (some (.int (j : Int))) (some (.str (Str.ofString "open"))) x7 x8 none) h).wp (GPost h0 b hr nr fr names T j hs) Q := by
  have lf : LenC fs.length := lenC (by have := S.fl; have := S.len; have := S.T30; omega)
  unfold gB
  refine stepT (fun sg h' => ∃ fs', sg = sgG b hr nr fr kr (some (.int (j : Int))) (some (.str (Str.ofString "open"))) x7 x8 none ∧ GS h0 h' b hr nr fr kr names T (j + 1) hs fs') ?_ fun sg h1 ⟨fs', e, S1⟩ => ?_
  · rw [w_if, wp_th, w_andT, wp_bind]
    simp only [w_test, wp_bind, w_m2 (f := dE false), w_var, w_lit, wp_ok, sgG, List.getElem?_cons_succ, List.getElem?_cons_zero, eq_ss, decide_true, if_true]
    refine (knE S).mono fun d h1 ⟨e, eh⟩ => ?_
    subst e eh
    cases hk : (known fs).isEmpty with
    | true =>
      simp
      exact ⟨fs, (S.ex Ex.app).skip⟩
    | false =>
      have S' := S.ex (h' := h ++ [.lst []]) Ex.app
      simp [S'.hf, isTy]
      refine (knO S' (by intro z; rw [z] at hk; cases hk)).mono fun d h2 ⟨n, e, hn, S2, _⟩ => ?_
      subst e
      simp [S2.hf, lf]
      have := S2.opn hn
      rw [List.map_append] at this
      exact ⟨_, this⟩
  · subst e
    simp [sgG]
    exact ⟨kr, _, _, _, _, fs', rfl, S1⟩
/-- the last part: the line goes in, its name too -/
theorem addS (S : GP h0 h b hr nr fr kr names T j hs fs hd) {l : Ln} {nm : Str} (hnm : names[j]? = some nm) (h1' : l.wire = nm) (h2' : l.isOpn = false) (h3' : ∀ s ∈ l.reads, s ∈ known fs) (h4 : l.bare = l) (h5 : (l.kind = Str.ofString "in") → hd = Str.ofString "in") {x6 x7 x8 : Option D} {Q : D → Mh → Prop} :
    (sSet 4 (m2 dAdd (mVar 4) (mLst (mCons (m2 dIx (mVar 2) (mVar 5)) mNil))) (sgG b hr nr fr kr (some (.int (j : Int))) x6 x7 x8 none) (h.set fr (.lst ((fs ++ [l]).map Ln.d)))).wp (fun sg h' => ∃ kr fs', sg = sgG b hr nr fr kr (some (.int (j : Int))) x6 x7 x8 none ∧ GS h0 h' b hr nr fr kr names T (j + 1) hs fs') Q := by
  have hn : (h.set fr (.lst ((fs ++ [l]).map Ln.d)))[nr]? = some (.lst (names.map D.str)) := by
    have := S.f1
    have := S.n0
    rw [set_off (by omega)]; exact S.hn
  have hk : (h.set fr (.lst ((fs ++ [l]).map Ln.d)))[kr]? = some (.lst ((known fs).map D.str)) := by rw [set_off S.fk']; exact S.hk
  have jl : j < names.length := (List.getElem?_eq_some_iff.mp hnm).1
  have jn : names[j] = nm := (List.getElem?_eq_some_iff.mp hnm).2
  have l1 : LenE ((known fs).length + 1) := lenE (by have := known_len' S; omega)
  generalize hX : h.set fr (.lst ((fs ++ [l]).map Ln.d)) = X at *
  simp [sgG, hn, atI, ixN, jl, app_get hk, jn, l1, hk]
  have lX : X.length = h.length := by rw [← hX]; simp
  have := S.add hnm h1' h2' h3' h4 h5 (h.length + 1) (X := (X ++ [.lst [.str nm]]) ++ [.lst ((known fs ++ [nm]).map D.str)]) (by rw [hX]) rfl
  rw [lX]
  exact ⟨fs ++ [l], by simpa using this⟩
theorem body_plain {x7 x8 : Option D} {Q : D → Mh → Prop} (S : GP h0 h b hr nr fr kr names T j hs fs hd) (hh : hd = Str.ofString "secret" ∨ hd = Str.ofString "cell" ∨ hd = Str.ofString "in") : (gB (sgG b hr nr fr kr (some (.int (j : Int))) (some (.str hd)) x7 x8 none) h).wp (GPost h0 b hr nr fr names T j hs) Q := by
  have lf : LenC fs.length := lenC (by have := S.fl; have := S.len; have := S.T30; omega)
  obtain ⟨nm, hnm, nu, nk, nt⟩ := S.nm
  have jl : j < names.length := (List.getElem?_eq_some_iff.mp hnm).1
  have jn : names[j] = nm := (List.getElem?_eq_some_iff.mp hnm).2
  unfold gB
  refine stepT (fun sg h' => sg = sgG b hr nr fr kr (some (.int (j : Int))) (some (.str hd)) x7 x8 none ∧ h' = h) (by rcases hh with rfl | rfl | rfl <;> simp [sgG]) fun sg h1 ⟨e, eh⟩ => ?_
  subst e eh
  refine stepT (fun sg h' => sg = sgG b hr nr fr kr (some (.int (j : Int))) (some (.str hd)) x7 x8 none ∧ h' = h1) (by rcases hh with rfl | rfl | rfl <;> simp [sgG]) fun sg h1 ⟨e, eh⟩ => ?_
  subst e eh
  rw [w_if, wp_th]
  have tr : ∀ P : Bool → Mh → Prop, P true h1 → (mTest (m2 (dIn false) (mVar 6) (mTup (mCons (mLit (.str (Str.ofString "secret"))) (mCons (mLit (.str (Str.ofString "cell"))) (mCons (mLit (.str (Str.ofString "in"))) mNil))))) (sgG b hr nr fr kr (some (.int (j : Int))) (some (.str hd)) x7 x8 none) h1).wp P := fun P p => by
    rcases hh with rfl | rfl | rfl <;> simpa [sgG] using p
  refine tr _ ?_
  rw [if_pos rfl]
  rcases hh with rfl | rfl | rfl
  · refine stepT (fun sg h' => sg = sgG b hr nr fr kr (some (.int (j : Int))) (some (.str (Str.ofString "secret"))) x7 x8 none ∧ h' = h1.set fr (.lst ((fs ++ [Ln.sec nm (Str.ofString "")]).map Ln.d))) (by simp [sgG, S.hf, S.hn, isTy, atI, ixN, jl, jn, lf, Ln.d]) fun sg h2 ⟨e, eh⟩ => ?_
    subst e eh
    exact RS.wp.mono (addS (Q := Q) S hnm rfl rfl (by simp [Ln.reads]) rfl (by simp [Ln.kind])) (fun sg h' ⟨kr, fs', e, S⟩ => ⟨kr, _, _, _, _, fs', e, S⟩) fun _ _ z => z
  · refine stepT (fun sg h' => ∃ h2 bt, GP h0 h2 b hr nr fr kr names T j hs fs (Str.ofString "cell") ∧ sg = sgG b hr nr fr kr (some (.int (j : Int))) (some (.str (Str.ofString "cell"))) x7 x8 none ∧ h' = h2.set fr (.lst ((fs ++ [Ln.cel nm bt (Str.ofString "")]).map Ln.d))) ?_ fun sg h3 ⟨h2, bt, S2, e, eh⟩ => ?_
    · simp [sgG, S.hf, S.hn, isTy, atI, ixN, jl, jn]
      refine (draw_ok S.B (size := 2) (by decide) (by decide)).mono fun d h2 ⟨k, e, k0, k1, B, G⟩ => ?_
      subst e
      have S2 := S.dr B G
      simp [S2.hf, lf]
      refine ⟨h2, S2, ?_⟩
      have : k = 0 ∨ k = 1 := by omega
      rcases this with rfl | rfl
      · exact .inl (by simp [Ln.d, bI])
      · exact .inr (by simp [Ln.d, bI])
    · subst e eh
      exact RS.wp.mono (addS (Q := Q) S2 hnm rfl rfl (by simp [Ln.reads]) rfl (by simp [Ln.kind])) (fun sg h' ⟨kr, fs', e, S⟩ => ⟨kr, _, _, _, _, fs', e, S⟩) fun _ _ z => z
  · refine stepT (fun sg h' => sg = sgG b hr nr fr kr (some (.int (j : Int))) (some (.str (Str.ofString "in"))) x7 x8 none ∧ h' = h1.set fr (.lst ((fs ++ [Ln.inn nm]).map Ln.d))) (by simp [sgG, S.hf, S.hn, isTy, atI, ixN, jl, jn, lf, Ln.d]) fun sg h2 ⟨e, eh⟩ => ?_
    subst e eh
    exact RS.wp.mono (addS (Q := Q) S hnm rfl rfl (by simp [Ln.reads]) rfl (by simp [Ln.kind])) (fun sg h' ⟨kr, fs', e, S⟩ => ⟨kr, _, _, _, _, fs', e, S⟩) fun _ _ z => z
def kinds : List Str := [Str.ofString "and", Str.ofString "xor", Str.ofString "not", Str.ofString "and"]
theorem body_gate {x7 x8 : Option D} {Q : D → Mh → Prop} (S : GP h0 h b hr nr fr kr names T j hs fs (Str.ofString "gate")) : (gB (sgG b hr nr fr kr (some (.int (j : Int))) (some (.str (Str.ofString "gate"))) x7 x8 none) h).wp (GPost h0 b hr nr fr names T j hs) Q := by
  have lf : LenC fs.length := lenC (by have := S.fl; have := S.len; have := S.T30; omega)
  obtain ⟨nm, hnm, nu, nk, nt⟩ := S.nm
  have jl : j < names.length := (List.getElem?_eq_some_iff.mp hnm).1
  have jn : names[j] = nm := (List.getElem?_eq_some_iff.mp hnm).2
  unfold gB
  refine stepT (fun sg h' => sg = sgG b hr nr fr kr (some (.int (j : Int))) (some (.str (Str.ofString "gate"))) x7 x8 none ∧ h' = h) (by simp [sgG]) fun sg h1 ⟨e, eh⟩ => ?_
  subst e eh
  refine stepT (fun sg h' => ∃ x7 x8 kr fs', sg = sgG b hr nr fr kr (some (.int (j : Int))) (some (.str (Str.ofString "gate"))) x7 x8 none ∧ GS h0 h' b hr nr fr kr names T (j + 1) hs fs') ?_ fun sg h2 ⟨x7, x8, kr', fs', e, S1⟩ => ?_
  · rw [w_if, wp_th, w_andT, wp_bind]
    simp only [w_test, wp_bind, w_m2 (f := dE false), w_var, w_lit, wp_ok, sgG, List.getElem?_cons_succ, List.getElem?_cons_zero, eq_ss, decide_true, if_true]
    refine (knE S).mono fun d h2 ⟨e, eh⟩ => ?_
    subst e eh
    cases hk : (known fs).isEmpty with
    | true =>
      simp
      exact ⟨x7, x8, kr, ⟨rfl, rfl, rfl⟩, fs, (S.ex Ex.app).skip⟩
    | false =>
      have ne : known fs ≠ [] := by intro z; rw [z] at hk; cases hk
      have S' := S.ex (h' := h1 ++ [.lst []]) Ex.app
      simp only [wp_ok, Bool.not_false, if_true]
      refine stepT (fun sg h' => ∃ k a, sg = sgG b hr nr fr kr (some (.int (j : Int))) (some (.str (Str.ofString "gate"))) (some (.str k)) (some (.str a)) none ∧ k ∈ kinds ∧ a ∈ known fs ∧ GP h0 h' b hr nr fr kr names T j hs fs (Str.ofString "gate")) ?_ fun sg h3 ⟨k, a, e, hk, ha, S3⟩ => ?_
      · simp
        have S2 : GP h0 (h1 ++ [.lst [], .lst (kinds.map D.str)]) b hr nr fr kr names T j hs fs (Str.ofString "gate") := S.ex Ex.app
        refine (of_ok (ds := kinds.map D.str) S2.B (by simp) (by have := S.b0; have := S.G.len; omega) (by decide) (by decide)).mono fun d h3 ⟨⟨q, e⟩, B3, G3⟩ => ?_
        have S3 := S2.dr B3 G3
        have : ∃ k, d = .str k ∧ k ∈ kinds := by
          have : d ∈ kinds.map D.str := List.mem_of_getElem? e
          obtain ⟨k, hk, rfl⟩ := List.mem_map.mp this
          exact ⟨k, rfl, hk⟩
        obtain ⟨k, rfl, hk'⟩ := this
        simp
        refine (knO S3 ne).mono fun d h4 ⟨a, e, ha, S4, _⟩ => ?_
        subst e
        simp [sgG]
        exact ⟨_, _, ⟨rfl, rfl⟩, hk', ha, S4⟩
      subst e
      by_cases kn : k = Str.ofString "not"
      · subst kn
        refine stepT (fun sg h' => sg = sgG b hr nr fr kr (some (.int (j : Int))) (some (.str (Str.ofString "gate"))) (some (.str (Str.ofString "not"))) (some (.str a)) none ∧ h' = h3.set fr (.lst ((fs ++ [Ln.gno nm a]).map Ln.d))) (by simp [sgG, S3.hf, S3.hn, isTy, atI, ixN, jl, jn, lf, Ln.d]) fun sg h4 ⟨e, eh⟩ => ?_
        subst e eh
        exact RS.wp.mono (addS (Q := Q) S3 hnm rfl rfl (by simpa [Ln.reads] using ha) rfl (by simp [Ln.kind])) (fun sg h' ⟨kr, fs', e, S⟩ => ⟨_, _, kr, fs', e, S⟩) fun _ _ z => z
      · have hx : ∃ x, k = kS x := by
          simp [kinds] at hk
          rcases hk with rfl | rfl | rfl | rfl
          · exact ⟨false, rfl⟩
          · exact ⟨true, rfl⟩
          · exact absurd rfl kn
          · exact ⟨false, rfl⟩
        obtain ⟨x, rfl⟩ := hx
        refine stepT (fun sg h' => ∃ h4 c, GP h0 h4 b hr nr fr kr names T j hs fs (Str.ofString "gate") ∧ c ∈ known fs ∧ sg = sgG b hr nr fr kr (some (.int (j : Int))) (some (.str (Str.ofString "gate"))) (some (.str (kS x))) (some (.str a)) none ∧ h' = h4.set fr (.lst ((fs ++ [Ln.gbi nm x a c]).map Ln.d))) ?_ fun sg h5 ⟨h4, c, S4, hc, e, eh⟩ => ?_
        · simp [sgG, S3.hf, S3.hn, isTy, atI, ixN, jl, jn, kn]
          refine (knO S3 ne).mono fun d h4 ⟨c, e, hc, S4, _⟩ => ?_
          subst e
          simp [S4.hf, lf, Ln.d]
          exact ⟨h4, S4, c, hc, rfl⟩
        · subst e eh
          exact RS.wp.mono (addS (Q := Q) S4 hnm rfl rfl (by simp [Ln.reads]; exact ⟨ha, hc⟩) rfl (by simp [Ln.kind])) (fun sg h' ⟨kr, fs', e, S⟩ => ⟨_, _, kr, fs', e, S⟩) fun _ _ z => z
  · subst e
    simp [sgG]
    exact ⟨kr', _, _, _, _, fs', rfl, S1⟩
end
end K10

namespace K10
open PySem PySem.Spec PyProof.Rows L2 Mo
structure WL (n o : Nat) (ls : List Ln) : Prop where
  P : PW ls
  fr : ∀ l ∈ ls, ∀ s ∈ l.froms, s ∈ known ls
  len : ls.length ≤ n
  op : (toldBy (Str.ofString "open") ls).length ≤ o
  inn : (toldBy (Str.ofString "in") ls).length ≤ 3
theorem WL.wf {n o : Nat} {ls : List Ln} (W : WL n o ls) (h : n ≤ 60) : WF ls := W.P.wf W.fr (Nat.le_trans W.len h)
theorem WL.few {n o : Nat} {ls : List Ln} (W : WL n o ls) (h : o ≤ 8) : Few ls := ⟨Nat.le_trans W.op h, Nat.le_trans W.inn (by decide)⟩
def Ln.setF (f : Str) : Ln → Ln
  | .sec n _ => .sec n f
  | .cel n b _ => .cel n b f
  | l => l
theorem setF_bare {f : Str} {l : Ln} : (l.setF f).bare = l.bare := by cases l <;> rfl
theorem cut_tup3 {a b c : D} : Mo.cutD [a, b, c] none (some (-1)) = [a, b] := by simp [Mo.cutD, HT.sIx]
theorem cut_tup4 {a b c d : D} : Mo.cutD [a, b, c, d] none (some (-1)) = [a, b, c] := by simp [Mo.cutD, HT.sIx]
theorem grown_ok {h : Mh} {b hr0 nr : Nat} {names hs0 : List Str} (B : BagOk h b) (hh : h[hr0]? = some (.lst (hs0.map D.str))) (hn : h[nr]? = some (.lst (names.map D.str))) (nb : nr ≠ b) (nl : names.length = 30) (nd : names.Nodup) (nu : ∀ s ∈ names, Nu s) (hl : hs0.length ≤ 30) (hd : ∀ s ∈ hs0, s ∈ headsL) (co : cnt (Str.ofString "open") hs0 ≤ 6) (ci : cnt (Str.ofString "in") hs0 ≤ 3) :
    (f__law_grown [.ref b, .ref hr0, .ref nr] h).wp fun d h' => ∃ r ls, d = .ref r ∧ h'[r]? = some (.lst (ls.map Ln.d)) ∧ h.length ≤ r ∧ WL 30 6 ls ∧ v9 ∉ known ls ∧ BagOk h' b ∧ Gr b h h' := by
  have bl := B.lt
  have nl' := lt_of hn
  unfold f__law_grown m__law_grown
  rw [w_run]
  refine stepT (fun sg h' => sg = sgG b (h.length + 2) nr h.length (h.length + 1) none none none none none ∧ GS h h' b (h.length + 2) nr h.length (h.length + 1) names hs0.length 0 hs0 []) ?_ fun sg h1 ⟨e, S1⟩ => ?_
  · simp [startD, List.replicate]
    have g : (h ++ [MO.lst [], MO.lst []])[hr0]? = some (.lst (hs0.map D.str)) := app_get hh
    simp [g, sgG]
    exact { B := B.ex Ex.app, G := Ex.app.gr, hh := by simp, hn := app_get hn, hf := by simp, hk := by simp [known], b0 := bl, nb := nb, n0 := nl', h1 := by omega, f1 := Nat.le_refl _, k1 := by omega, hf' := by omega, hk' := by omega, fk' := by omega, nl := nl, nd := nd, nu := nu, T30 := hl, len := rfl, fl := Nat.zero_le _, hds := hd, co := by simpa [toldBy] using co, ci := by simpa [toldBy] using ci, P := PW.nil, bare := rfl, sub := by simp [known] }
  subst e
  refine stepT (fun sg h' => ∃ kr x5 x6 x7 x8 hs fs, sg = sgG b (h.length + 2) nr h.length kr x5 x6 x7 x8 none ∧ GS h h' b (h.length + 2) nr h.length kr names hs0.length hs0.length hs fs) ?_ fun sg h2 ⟨kr, x5, x6, x7, x8, hs, fs, e, S2⟩ => ?_
  · rw [w_for, wp_th]
    have iT : InR (hs0.length : Int) := inR_of (by omega) (by omega)
    simp [sgG, S1.hh, iT]
    refine loop (fun j sg h' => ∃ kr x5 x6 x7 x8 hs fs, sg = sgG b (h.length + 2) nr h.length kr x5 x6 x7 x8 none ∧ GS h h' b (h.length + 2) nr h.length kr names hs0.length j hs fs) ⟨_, none, none, none, none, hs0, [], rfl, S1⟩ (fun j d sg h2 e ⟨kr, x5, x6, x7, x8, hs, fs, es, S⟩ => ?_) (fun sg h2 ⟨kr, x5, x6, x7, x8, hs, fs, es, S⟩ => ⟨trivial, kr, x5, x6, x7, x8, hs, fs, es, by simpa using S⟩)
    subst es
    have jl : j < hs0.length := by
      have := (List.getElem?_eq_some_iff.mp e).1
      simpa using this
    have ed : d = .int (j : Int) := by
      simp [List.getElem?_range jl] at e
      exact e.symm
    subst ed
    refine ⟨trivial, _, rfl, ?_⟩
    have hp : 0 < hs.length := by have := S.len; omega
    have h30 : hs.length ≤ 30 := by have := S.len; have := S.T30; omega
    refine stepT (fun sg h' => ∃ hs' hd, sg = sgG b (h.length + 2) nr h.length kr (some (.int (j : Int))) (some (.str hd)) x7 x8 none ∧ hd ∈ headsL ∧ GP h h' b (h.length + 2) nr h.length kr names hs0.length j hs' fs hd) ?_ fun sg h3 ⟨hs', hd, e, hm, G3⟩ => ?_
    · simp [sgG, S.hh, isTy]
      refine (draw_ok S.B (size := (hs.length : Int)) (by omega) (by omega)).mono fun d h3 ⟨k, e, k0, k1, B3, G3⟩ => ?_
      subst e
      have S3 := S.dr B3 G3
      obtain ⟨s, es, ep⟩ := popS (by omega) S3.hh k0 k1
      simp [ep]
      exact ⟨S.hds s (List.mem_of_getElem? es), _, S3.take es⟩
    subst e
    show (gB _ _).wp _ _
    have fin : ∀ {sg h'}, GPost h b (h.length + 2) nr h.length names hs0.length j hs' sg h' → ∃ kr x5 x6 x7 x8 hs fs, sg = sgG b (h.length + 2) nr h.length kr x5 x6 x7 x8 none ∧ GS h h' b (h.length + 2) nr h.length kr names hs0.length (j + 1) hs fs := fun ⟨kr, x5, x6, x7, x8, fs, e, S⟩ => ⟨kr, x5, x6, x7, x8, hs', fs, e, S⟩
    simp only [headsL, List.mem_cons, List.not_mem_nil, or_false] at hm
    rcases hm with rfl | rfl | rfl | rfl | rfl
    · exact RS.wp.mono (body_plain (Q := fun _ _ => False) G3 (.inl rfl)) (fun _ _ => fin) fun _ _ z => z.elim
    · exact RS.wp.mono (body_plain (Q := fun _ _ => False) G3 (.inr (.inl rfl))) (fun _ _ => fin) fun _ _ z => z.elim
    · exact RS.wp.mono (body_plain (Q := fun _ _ => False) G3 (.inr (.inr rfl))) (fun _ _ => fin) fun _ _ z => z.elim
    · exact RS.wp.mono (body_gate (Q := fun _ _ => False) G3) (fun _ _ => fin) fun _ _ z => z.elim
    · exact RS.wp.mono (body_open (Q := fun _ _ => False) G3) (fun _ _ => fin) fun _ _ z => z.elim
  subst e
  have f30 : fs.length ≤ 30 := Nat.le_trans S2.fl hl
  have kl : (known fs).length ≤ 30 := Nat.le_trans known_len f30
  have f1 := S2.f1
  have k1 := S2.k1
  rw [w_ret, wp_th, w_lc, wp_bind, w_iter, wp_bind]
  simp only [w_var, sgG, List.getElem?_cons_succ, List.getElem?_cons_zero, wp_ok, l_iter, S2.hf, srcL_items]
  have h2l := lt_of S2.hf
  have h2k := lt_of S2.hk
  have key := lc_wp (s := srcL h.length (fs.map Ln.d)) (g := gNm 9) (mt := mYes) (me := (mIte (mTest (m2 (dIn false) (m2 dIx (mVar 9) (mLit (.int 0))) (mTup (mCons (mLit (.str (Str.ofString "secret"))) (mCons (mLit (.str (Str.ofString "cell"))) mNil))))) (m2 dAdd (mSl (mVar 9) mNoP (mPart (m1 dNeg (mLit (.int 1))))) (mTup (mCons (mCall 2 f__law_of (mCons (mVar 0) (mCons (mVar 4) mNil)) []) mNil))) (mVar 9))) (sg := wipeD (sgG b (h.length + 2) nr h.length kr x5 x6 x7 x8 none) [9]) (n := h2.length)
    (P := fun d h' => ∃ r ls, d = .ref r ∧ h'[r]? = some (.lst (ls.map Ln.d)) ∧ h.length ≤ r ∧ WL 30 6 ls ∧ v9 ∉ known ls ∧ BagOk h' b ∧ Gr b h h')
    (fun j acc h' => ∃ gs : List Ln, acc = gs.map Ln.d ∧ gs.map Ln.bare = fs.take j ∧ (∀ l ∈ gs, ∀ s ∈ l.froms, s ∈ known fs) ∧ BagOk h' b ∧ Gr b h2 h')
    (fun j x acc h' e ⟨gs, ea, eb, ef, B', G'⟩ hn' => ?_) (fun acc h' ⟨gs, ea, eb, ef, B', G'⟩ hn' => ?_) fs.length 0 [] (h2 ++ [.lst []]) (by simp) ⟨[], rfl, rfl, by simp, S2.B.ex Ex.app, Ex.app.gr⟩ at_end
  · refine R.wp.mono key fun d h' q => ?_
    rw [wp_rt]; exact q
  · rw [srcL_items, List.getElem?_map] at e
    have hf' := G'.get (by omega) S2.hf
    obtain ⟨l, el, rfl⟩ := Option.map_eq_some_iff.mp e
    have jl := (List.getElem?_eq_some_iff.mp el).1
    have lm := List.mem_of_getElem? el
    refine ⟨srcL_at hf' (by rw [List.getElem?_map, el]; rfl), _, rfl, wp_of (a := true) (h := h') rfl ?_⟩
    rw [if_pos rfl]
    have gl : gs.length = j := by
      have := congrArg List.length eb
      rw [List.length_map, List.length_take] at this
      omega
    have lz : acc.length < sizeLine := Nat.lt_of_lt_of_le (by rw [ea, List.length_map, gl]; omega : acc.length < 1000) line_le
    have lb : l.bare = l := by
      have e1 : (fs.map Ln.bare)[j]? = some l.bare := by rw [List.getElem?_map, el]; rfl
      rw [S2.bare, el] at e1
      exact (Option.some.inj e1).symm
    have put : ∀ (m : Ln) (h3 : Mh), m.bare = l → (∀ s ∈ m.froms, s ∈ known fs) → BagOk h3 b → Gr b h' h3 → h3[h2.length]? = some (.lst acc) ∧ acc.length < sizeLine ∧ ∃ gs : List Ln, acc ++ [m.d] = gs.map Ln.d ∧ gs.map Ln.bare = fs.take (j + 1) ∧ (∀ l ∈ gs, ∀ s ∈ l.froms, s ∈ known fs) ∧ BagOk (h3.set h2.length (.lst (acc ++ [m.d]))) b ∧ Gr b h2 (h3.set h2.length (.lst (acc ++ [m.d]))) := fun m h3 e1 e2 B3 G3 =>
      ⟨G3.get (by omega) hn', lz, gs ++ [m], by rw [ea]; simp, by rw [List.map_append, eb, List.take_add_one, el]; simp [e1], fun q hq => by
        rcases List.mem_append.mp hq with hq | hq
        · exact ef q hq
        · rw [List.mem_singleton.mp hq]; exact e2, B3.put (by omega), (G'.trans G3).put (.inl (Nat.le_refl _))⟩
    have kr' := G'.get (by omega) S2.hk
    have of1 : known fs ≠ [] → (f__law_of [.ref b, .ref kr] h').wp fun d h3 => ∃ n, d = .str n ∧ n ∈ known fs ∧ BagOk h3 b ∧ Gr b h' h3 := fun ne => by
      refine (of_ok (ds := (known fs).map D.str) B' kr' (by omega) (by rw [List.length_map]; exact List.length_pos_iff.mpr ne) (by rw [List.length_map]; omega)).mono fun d h3 ⟨⟨k, e⟩, B, G⟩ => ?_
      rw [List.getElem?_map] at e
      obtain ⟨n, en, rfl⟩ := Option.map_eq_some_iff.mp e
      exact ⟨n, rfl, List.mem_of_getElem? en, B, G⟩
    have kne : l.isOpn = false → known fs ≠ [] := fun ho z => by
      have : l.wire ∈ known fs := by
        unfold known
        exact List.mem_map.mpr ⟨l, List.mem_filter.mpr ⟨lm, by simp [ho]⟩, rfl⟩
      rw [z] at this; cases this
    cases l with
    | sec n f =>
      simp [sgG, wipeD, Ln.d, atI, ixN, cut_tup3]
      refine (of1 (kne rfl)).mono fun d h3 ⟨c, e, hc, B3, G3⟩ => ?_
      subst e
      simp
      exact put (.sec n c) h3 (by rw [← lb]; rfl) (by simpa [Ln.froms] using hc) B3 G3
    | cel n bt f =>
      simp [sgG, wipeD, Ln.d, atI, ixN, cut_tup4]
      refine (of1 (kne rfl)).mono fun d h3 ⟨c, e, hc, B3, G3⟩ => ?_
      subst e
      simp
      exact put (.cel n bt c) h3 (by rw [← lb]; rfl) (by simpa [Ln.froms] using hc) B3 G3
    | inn n =>
      simp [sgG, wipeD, Ln.d, atI, ixN]
      exact put (.inn n) h' rfl (by simp [Ln.froms]) B' Gr.rfl
    | opn n =>
      simp [sgG, wipeD, Ln.d, atI, ixN]
      exact put (.opn n) h' rfl (by simp [Ln.froms]) B' Gr.rfl
    | gno n a =>
      simp [sgG, wipeD, Ln.d, atI, ixN]
      exact put (.gno n a) h' rfl (by simp [Ln.froms]) B' Gr.rfl
    | gbi n x a c =>
      simp [sgG, wipeD, Ln.d, atI, ixN]
      exact put (.gbi n x a c) h' rfl (by simp [Ln.froms]) B' Gr.rfl
  · rw [srcL_items, List.length_map, List.take_length] at *
    have hf' := G'.get (by omega) S2.hf
    have ek : known gs = known fs := by rw [← known_bare (ls := gs), eb]
    refine ⟨by have := srcL_fin hf'; simpa using this, h2.length, gs, rfl, by rw [hn', ea], S2.G.len, ⟨PW.of_bare (by rw [eb]; exact S2.P), fun l hl s hs => by rw [ek]; exact ef l hl s hs, ?_, ?_, ?_⟩, fun z => (nu _ (List.mem_of_mem_take (S2.sub _ (ek ▸ z)))).v rfl, B', S2.G.trans G'⟩
    · have := congrArg List.length eb
      rw [List.length_map] at this
      omega
    · rw [← told_bare, eb]; have := S2.co; omega
    · rw [← told_bare, eb]; have := S2.ci; omega
end K10

namespace K10
open PySem PySem.Spec PyProof.Rows L2 Mo
def Ln.p : Ln → PyData
  | .sec n f => .tuple [.str (Str.ofString "secret"), .str n, .str f]
  | .cel n b f => .tuple [.str (Str.ofString "cell"), .str n, .int (bI b), .str f]
  | .inn n => .tuple [.str (Str.ofString "in"), .str n]
  | .opn n => .tuple [.str (Str.ofString "open"), .str n]
  | .gno n a => .tuple [.str (Str.ofString "gate"), .str n, .str (Str.ofString "not"), .str a, .none]
  | .gbi n x a b => .tuple [.str (Str.ofString "gate"), .str n, .str (kS x), .str a, .str b]
theorem pd_ln {n : Nat} {h : Mh} (l : Ln) : pd (n + 2) h l.d = some l.p := by cases l <;> rfl
theorem eqv_ln {l m : Ln} : PyData.eqv l.p m.p = decide (l = m) := by
  have bi : ∀ {x y : Bool}, (bI x = bI y) = (x = y) := fun {x y} => by cases x <;> cases y <;> simp [bI]
  have ki : ∀ {x y : Bool}, (kS x = kS y) = (x = y) := fun {x y} => by cases x <;> cases y <;> simp [kS]
  have bq : ∀ {x y : Bool}, (bI x == bI y) = decide (x = y) := fun {x y} => by cases x <;> cases y <;> rfl
  have dq : ∀ {a b : Str}, (a == b) = decide (a = b) := fun {a b} => by by_cases e : a = b <;> simp [e]
  cases l <;> cases m <;> simp [Ln.p, PyData.eqv, PyData.eqvAll, bi, ki, Bool.and_assoc, dq, bq, Bool.decide_and]
theorem good_ln {l : Ln} (h : PyData.strOk l.wire = true ∧ (∀ s ∈ l.reads, PyData.strOk s = true) ∧ ∀ s ∈ l.froms, PyData.strOk s = true) : GoodD l.p := by
  obtain ⟨h1, h2, h3⟩ := h
  have c1 : PyData.strOk (Str.ofString "secret") = true ∧ PyData.strOk (Str.ofString "cell") = true ∧ PyData.strOk (Str.ofString "in") = true ∧ PyData.strOk (Str.ofString "open") = true ∧ PyData.strOk (Str.ofString "gate") = true ∧ PyData.strOk (Str.ofString "not") = true := by decide +kernel
  have c2 : ∀ x, PyData.strOk (kS x) = true := by decide +kernel
  have c3 : ∀ x, PyData.strOk (kS x) = true := fun x => by cases x <;> simp_all
  clear c2
  cases l with
  | gbi n x a b =>
    have := c3 x
    simp_all [Ln.wire, Ln.reads, Ln.froms, Ln.p, GoodD, PyData.canLay0, PyData.canLayAll0, PyData.depth, PyData.depthAll]
  | _ => simp_all [Ln.wire, Ln.reads, Ln.froms, Ln.p, GoodD, PyData.canLay0, PyData.canLayAll0, PyData.depth, PyData.depthAll]
theorem WL.good {n o : Nat} {ls : List Ln} (W : WL n o ls) : ∀ l ∈ ls, GoodD l.p := fun l hl =>
  good_ln ⟨nm_ok (W.P.nu l hl).1, fun s hs => nm_ok ((W.P.nu l hl).2 s hs), fun s hs => nm_ok (W.P.known_nu s (W.fr l hl s hs))⟩
theorem index_ok {h : Mh} {r : Nat} {ls : List Ln} {l : Ln} (hr : h[r]? = some (.lst (ls.map Ln.d))) (g : ∀ l ∈ ls, GoodD l.p) (hl : l ∈ ls) : ∃ j, ls[j]? = some l ∧ dIndex (.ref r) [l.d] h = .ok (.int (j : Nat)) h := by
  have e1 : pd 66 h (.ref r) = some (.list (ls.map Ln.p)) := pd_ref hr (pdl_map fun s _ => pd_ln s)
  have sh : SeqAt.shaped (.list (ls.map Ln.p)) = true := shaped_list fun p hp => by
    obtain ⟨m, hm, rfl⟩ := List.mem_map.mp hp
    exact g m hm
  have s1 : SeqAt.shaped l.p = true := by
    have := g l hl
    simp [SeqAt.shaped, this.1]
    have := this.2
    omega
  have fe : ((ls.map Ln.p).findIdx? fun z => PyData.eqv z l.p) ≠ none := by
    rw [Ne, List.findIdx?_eq_none_iff]
    intro z
    have := z l.p (List.mem_map.mpr ⟨l, hl, rfl⟩)
    rw [eqv_ln] at this
    simp at this
  cases e : (ls.map Ln.p).findIdx? fun z => PyData.eqv z l.p with
  | none => exact absurd e fe
  | some j =>
    obtain ⟨hj, h1, _⟩ := List.findIdx?_eq_some_iff_getElem.mp e
    have hj' : j < ls.length := by simpa using hj
    rw [List.getElem_map, eqv_ln] at h1
    refine ⟨j, by rw [List.getElem?_eq_getElem hj', of_decide_eq_true h1], ?_⟩
    unfold dIndex
    dsimp only
    rw [e1, pd_ln]
    dsimp only
    rw [if_pos ⟨sh, s1⟩, e]
theorem cut_to {xs : List D} {j : Nat} (h : j ≤ xs.length) : Mo.cutD xs none (some (j : Int)) = xs.take j := by
  unfold Mo.cutD
  simp [HT.sIx]
  rw [if_neg (by omega)]
  omega
theorem cut_from {xs : List D} {j : Nat} (h : j ≤ xs.length) : Mo.cutD xs (some (j : Int)) none = xs.drop j := by
  unfold Mo.cutD
  simp [HT.sIx]
  rw [if_neg (by omega), Nat.min_eq_left h]
  exact List.take_of_length_le (by simp)
theorem known_app {a b : List Ln} : known (a ++ b) = known a ++ known b := by unfold known; rw [List.filter_append, List.map_append]
theorem known_perm {a b : List Ln} (p : a.Perm b) : (known a).Perm (known b) := (p.filter _).map _
theorem known_mem {ls : List Ln} {s : Str} : s ∈ known ls ↔ ∃ l ∈ ls, l.isOpn = false ∧ l.wire = s := by
  unfold known
  rw [List.mem_map]
  constructor
  · rintro ⟨l, hl, e⟩
    have := List.mem_filter.mp hl
    exact ⟨l, this.1, by simpa using this.2, e⟩
  · rintro ⟨l, hl, ho, e⟩
    exact ⟨l, List.mem_filter.mpr ⟨hl, by simp [ho]⟩, e⟩
theorem PW.nodup {ls : List Ln} (P : PW ls) : (known ls).Nodup := by
  have key : ∀ j, j ≤ ls.length → (known (ls.take j)).Nodup := fun j => by
    induction j with
    | zero => intro _; simp [known]
    | succ j ih =>
      intro hj
      have e : ls[j]? = some ls[j] := List.getElem?_eq_getElem hj
      rw [take_snoc e, known_snoc]
      cases ho : ls[j].isOpn with
      | true => exact ih (by omega)
      | false =>
        rw [if_neg (by simp)]
        exact List.nodup_append.mpr ⟨ih (by omega), by simp, fun a ha b hb z => P.new j _ e ho (by rw [← List.mem_singleton.mp hb, ← z]; exact ha)⟩
  have := key ls.length (Nat.le_refl _)
  rwa [List.take_length] at this
/-- one of the rest can go next -/
theorem free_ex {ls fs rest : List Ln} (P : PW ls) (p : (fs ++ rest).Perm ls) : ∀ (i : Nat) (l : Ln), ls[i]? = some l → l ∈ rest → ∃ m ∈ rest, ∀ s ∈ m.reads, s ∈ known fs := fun i => by
  induction i using Nat.strongRecOn with
  | _ i ih =>
    intro l e hl
    by_cases c : ∀ s ∈ l.reads, s ∈ known fs
    · exact ⟨l, hl, c⟩
    · obtain ⟨s, c⟩ := Classical.not_forall.mp c
      obtain ⟨hs, hn⟩ := Classical.not_imp.mp c
      obtain ⟨m, hm, ho, e2⟩ := known_mem.mp (P.rd i l e s hs)
      obtain ⟨i', hi'⟩ := List.getElem?_of_mem hm
      have il : i' < i := by
        have := (List.getElem?_eq_some_iff.mp hi').1
        rw [List.length_take] at this; omega
      have hm' : ls[i']? = some m := by rwa [List.getElem?_take_of_lt il] at hi'
      rcases List.mem_append.mp (p.mem_iff.mpr (List.mem_of_mem_take hm)) with h1 | h1
      · exact absurd (known_mem.mpr ⟨m, h1, ho, e2⟩) hn
      · exact ih i' il m hm' h1
/-- a comprehension over lines -/
theorem lc_ls2 {mt : Sg → Mh → R Bool} {me : Sg → Mh → R D} {sg : Sg} {h : Mh} {j r i : Nat} {ls : List Ln} (P : Ln → Bool) (G : Ln → D) (hr : h[r]? = some (.lst (ls.map Ln.d))) (hl : ls.length ≤ 1000) (hv : sg[j]? = some (some (.ref r)))
    (ht : ∀ l ∈ ls, ∀ acc, (mt ((wipeD sg [i]).set i (some l.d)) (h ++ [.lst acc])).wp fun b h'' => b = P l ∧ h'' = h ++ [.lst acc]) (he : ∀ l ∈ ls, P l = true → ∀ acc, (me ((wipeD sg [i]).set i (some l.d)) (h ++ [.lst acc])).wp fun d h'' => d = G l ∧ h'' = h ++ [.lst acc]) :
    (mLc (mIter (mVar j)) (gNm i) mt me [i] sg h).wp fun d h' => d = .ref h.length ∧ h' = h ++ [.lst ((ls.filter P).map G)] := by
  simp [hv, hr]
  refine wp_of (lc_pure (s := srcL r (ls.map Ln.d)) (g := gNm i) (fun d => (dec d).elim false P) (fun d => (dec d).elim .non G) (items := ls.map Ln.d) (Nat.le_trans (by rw [List.length_map]; exact hl) line_le) (fun j x acc e => ?_) (fun acc => by simpa using srcL_fin (app_get hr))) ?_
  · have e0 := e
    rw [List.getElem?_map] at e
    obtain ⟨l, el, rfl⟩ := Option.map_eq_some_iff.mp e
    have lm := List.mem_of_getElem? el
    refine ⟨srcL_at (app_get hr) e0, _, rfl, ?_, fun hp => ?_⟩
    · rw [dec_d]
      obtain ⟨b, h', e1, rfl, rfl⟩ := (ht l lm acc).out
      exact e1
    · rw [dec_d] at hp ⊢
      obtain ⟨b, h', e1, rfl, rfl⟩ := (he l lm hp acc).out
      exact e1
  · refine ⟨rfl, ?_⟩
    rw [List.filter_map, List.map_map]
    congr 4
    · funext l; exact congrArg (·.elim .non G) (dec_d l)
    · congr 1
      funext l; exact congrArg (·.elim false P) (dec_d l)
def sgO (b lr r fr kr : Nat) (x5 x6 x7 x8 : Option D) : Sg := [some (.ref b), some (.ref lr), some (.ref r), some (.ref fr), some (.ref kr), x5, x6, x7, x8]
structure OS (h0 h : Mh) (b lr r fr kr : Nat) (ls fs rest : List Ln) (j : Nat) : Prop where
  B : BagOk h b
  G : Gr b h0 h
  hr : h[r]? = some (.lst (rest.map Ln.d))
  hf : h[fr]? = some (.lst (fs.map Ln.d))
  hk : h[kr]? = some (.lst ((known fs).map D.str))
  b0 : b < h0.length
  r1 : h0.length ≤ r
  f1 : h0.length ≤ fr
  k1 : h0.length ≤ kr
  rf : r ≠ fr
  kf : kr ≠ fr
  p : (fs ++ rest).Perm ls
  P : PW fs
  len : fs.length = j
section
variable {h0 h h' : Mh} {b lr r fr kr : Nat} {ls fs rest : List Ln} {j : Nat}
theorem OS.ex (S : OS h0 h b lr r fr kr ls fs rest j) (X : Ex h h') : OS h0 h' b lr r fr kr ls fs rest j :=
  { S with B := S.B.ex X, G := S.G.trans X.gr, hr := X.get S.hr, hf := X.get S.hf, hk := X.get S.hk }
theorem OS.dr (S : OS h0 h b lr r fr kr ls fs rest j) (B : BagOk h' b) (G : Gr b h h') : OS h0 h' b lr r fr kr ls fs rest j :=
  have := S.b0
  have := S.r1
  have := S.f1
  have := S.k1
  { S with B := B, G := S.G.trans G, hr := G.get (by omega) S.hr, hf := G.get (by omega) S.hf, hk := G.get (by omega) S.hk }
theorem er_permL : ∀ (l : List Ln) (i : Nat) (m : Ln), l[i]? = some m → (m :: l.eraseIdx i).Perm l
  | [], _, _, e => by simp at e
  | a :: l, 0, m, e => by
    have : a = m := by simpa using e
    subst this; exact List.Perm.refl _
  | a :: l, i + 1, m, e => by
    have ih := er_permL l i m (by simpa using e)
    exact (List.Perm.swap a _ _).trans (ih.cons a)
/-- the line goes over -/
theorem OS.go (S : OS h0 h b lr r fr kr ls fs rest j) (PL : PW ls) {l : Ln} {i r2 kr2 : Nat} (e : rest[i]? = some l) (hl : ∀ s ∈ l.reads, s ∈ known fs) (B : BagOk h' b) (G : Gr b h0 h') (hr : h'[r2]? = some (.lst ((rest.eraseIdx i).map Ln.d))) (hf : h'[fr]? = some (.lst ((fs ++ [l]).map Ln.d))) (hk : h'[kr2]? = some (.lst ((known (fs ++ [l])).map D.str))) (r1 : h0.length ≤ r2) (k1 : h0.length ≤ kr2) (rf : r2 ≠ fr) (kf : kr2 ≠ fr) :
    OS h0 h' b lr r2 fr kr2 ls (fs ++ [l]) (rest.eraseIdx i) (j + 1) :=
  have lm : l ∈ fs ++ rest := List.mem_append.mpr (.inr (List.mem_of_getElem? e))
  have ll : l ∈ ls := S.p.mem_iff.mp lm
  { B := B, G := G, hr := hr, hf := hf, hk := hk, b0 := S.b0, r1 := r1, f1 := S.f1, k1 := k1, rf := rf, kf := kf,
    p := by rw [List.append_assoc]; exact ((er_permL rest i l e).append_left fs).trans S.p,
    P := S.P.snoc (PL.nu l ll) (fun ho z => by
      have nd := (known_perm S.p).nodup_iff.mpr PL.nodup
      rw [known_app, List.nodup_append] at nd
      exact nd.2.2 _ z _ (known_mem.mpr ⟨l, List.mem_of_getElem? e, ho, rfl⟩) rfl) hl,
    len := by rw [List.length_append, S.len]; rfl }
end
theorem in_known {h : Mh} {kr : Nat} {ks : List Str} {s : Str} (hk : h[kr]? = some (.lst (ks.map D.str))) : dIn false (.str s) (.ref kr) h = .ok (.bl (decide (s ∈ ks))) h := by
  rw [in_lst, hk]
  dsimp only
  rw [any_eq, if_pos ⟨rfl, flat_strs⟩]
  rfl
def isFree (ks : List Str) (l : Ln) : Bool := decide (∀ s ∈ l.reads, s ∈ ks)
theorem other_ok {h : Mh} {b lr n o : Nat} {ls : List Ln} (B : BagOk h b) (hl : h[lr]? = some (.lst (ls.map Ln.d))) (W : WL n o ls) (n50 : n ≤ 50) (lb : lr ≠ b) : (f__law_other_order [.ref b, .ref lr] h).wp fun d h' => ∃ r fs, d = .ref r ∧ h'[r]? = some (.lst (fs.map Ln.d)) ∧ h.length ≤ r ∧ fs.Perm ls ∧ PW fs ∧ BagOk h' b ∧ Gr b h h' := by
  have bl := B.lt
  have l50 := Nat.le_trans W.len n50
  unfold f__law_other_order m__law_other_order
  rw [w_run]
  refine stepT (fun sg h' => sg = sgO b lr h.length (h.length + 1) (h.length + 2) none none none none ∧ OS h h' b lr h.length (h.length + 1) (h.length + 2) ls [] ls 0) ?_ fun sg h1 ⟨e, S1⟩ => ?_
  · simp [startD, List.replicate, hl, sgO]
    exact { B := B.ex Ex.app, G := Ex.app.gr, hr := by simp, hf := by simp, hk := by simp [known], b0 := bl, r1 := Nat.le_refl _, f1 := by omega, k1 := by omega, rf := by omega, kf := by omega, p := List.Perm.refl _, P := PW.nil, len := rfl }
  subst e
  refine stepT (fun sg h' => ∃ r kr x5 x6 x7 x8 fs rest, sg = sgO b lr r (h.length + 1) kr x5 x6 x7 x8 ∧ OS h h' b lr r (h.length + 1) kr ls fs rest ls.length) ?_ fun sg h2 ⟨r, kr, x5, x6, x7, x8, fs, rest, e, S⟩ => ?_
  · rw [w_for, wp_th]
    have iT : InR (ls.length : Int) := inR_of (by omega) (by omega)
    have hl1 := S1.G.get lb hl
    simp [sgO, hl1, iT]
    refine loop (fun j sg h' => ∃ r kr x5 x6 x7 x8 fs rest, sg = sgO b lr r (h.length + 1) kr x5 x6 x7 x8 ∧ OS h h' b lr r (h.length + 1) kr ls fs rest j) ⟨_, _, none, none, none, none, [], ls, rfl, S1⟩ (fun j d sg h2 e ⟨r, kr, x5, x6, x7, x8, fs, rest, es, S⟩ => ?_) (fun sg h2 ⟨r, kr, x5, x6, x7, x8, fs, rest, es, S⟩ => ⟨trivial, r, kr, x5, x6, x7, x8, fs, rest, es, by simpa using S⟩)
    subst es
    have jl : j < ls.length := by
      have := (List.getElem?_eq_some_iff.mp e).1
      simpa using this
    have pl := S.p.length_eq
    rw [List.length_append, S.len] at pl
    refine ⟨trivial, _, rfl, ?_⟩
    have gd : ∀ l ∈ rest, GoodD l.p := fun l hl => W.good l (S.p.mem_iff.mp (List.mem_append.mpr (.inr hl)))
    refine stepT (fun sg h' => sg = sgO b lr r (h.length + 1) kr (some d) (some (.ref h2.length)) x7 x8 ∧ h' = h2 ++ [.lst ((rest.filter (isFree (known fs))).map Ln.d)]) ?_ fun sg h3 ⟨e, eh⟩ => ?_
    · rw [w_set, wp_th]
      refine (lc_ls2 (isFree (known fs)) Ln.d S.hr (by omega) (by simp [sgO]) (fun l _ acc => ?_) (fun l _ hp acc => ?_)).mono fun d1 h' ⟨e, e2⟩ => ?_
      · have ik : ∀ s, dIn false (.str s) (.ref kr) (h2 ++ [.lst acc]) = .ok (.bl (decide (s ∈ known fs))) (h2 ++ [.lst acc]) := fun s => in_known (app_get S.hk)
        cases l with
        | sec n f => simp [sgO, wipeD, Ln.d, atI, ixN, isFree, Ln.reads]
        | cel n b f => simp [sgO, wipeD, Ln.d, atI, ixN, isFree, Ln.reads]
        | inn n => simp [sgO, wipeD, Ln.d, atI, ixN, isFree, Ln.reads]
        | opn n =>
          simp [-in_lst, sgO, wipeD, Ln.d, atI, ixN, isFree, Ln.reads, ik]
        | gno n a =>
          simp [-in_lst, sgO, wipeD, Ln.d, atI, ixN, isFree, Ln.reads, ik]
          by_cases e : a ∈ known fs <;> simp [e, dIs]
        | gbi n x a c =>
          simp [-in_lst, sgO, wipeD, Ln.d, atI, ixN, isFree, Ln.reads, ik]
          by_cases e : a ∈ known fs
          · simp [-in_lst, e, dIs, ik, atI, ixN]
          · simp [e]
      · simp [sgO, wipeD]
      · subst e e2
        simp [sgO]
    subst e
    have S3 : OS h h3 b lr r (h.length + 1) kr ls fs rest j := S.ex (by rw [eh]; exact Ex.app)
    have hfree : h3[h2.length]? = some (.lst ((rest.filter (isFree (known fs))).map Ln.d)) := by rw [eh]; exact at_end
    have fne : rest.filter (isFree (known fs)) ≠ [] := fun z => by
      have rp : 0 < rest.length := by omega
      have : rest[0] ∈ ls := S.p.mem_iff.mp (List.mem_append.mpr (.inr (List.getElem_mem rp)))
      obtain ⟨i, hi⟩ := List.getElem?_of_mem this
      obtain ⟨m, hm, hr⟩ := free_ex W.P S.p i _ hi (List.getElem_mem rp)
      have : m ∈ rest.filter (isFree (known fs)) := List.mem_filter.mpr ⟨hm, decide_eq_true hr⟩
      rw [z] at this; cases this
    have fl := List.length_filter_le (isFree (known fs)) rest
    have G2 := S.G.len
    clear eh
    refine stepT (fun sg h' => ∃ l, sg = sgO b lr r (h.length + 1) kr (some d) (some (.ref h2.length)) (some l.d) x8 ∧ l ∈ rest ∧ (∀ s ∈ l.reads, s ∈ known fs) ∧ OS h h' b lr r (h.length + 1) kr ls fs rest j) ?_ fun sg h4 ⟨l, e, lm, lr', S4⟩ => ?_
    · simp [sgO]
      refine (of_ok (ds := (rest.filter (isFree (known fs))).map Ln.d) S3.B hfree (by omega) (by rw [List.length_map]; exact List.length_pos_iff.mpr fne) (by rw [List.length_map]; omega)).mono fun d h4 ⟨⟨k, e⟩, B4, G4⟩ => ?_
      rw [List.getElem?_map] at e
      obtain ⟨l, el, rfl⟩ := Option.map_eq_some_iff.mp e
      have lf := List.mem_filter.mp (List.mem_of_getElem? el)
      simp
      exact ⟨l, rfl, lf.1, of_decide_eq_true lf.2, S3.dr B4 G4⟩
    subst e
    obtain ⟨i, hi, ei⟩ := index_ok S4.hr gd lm
    have il := (List.getElem?_eq_some_iff.mp hi).1
    refine stepT (fun sg h' => sg = sgO b lr r (h.length + 1) kr (some d) (some (.ref h2.length)) (some l.d) (some (.int (i : Int))) ∧ h' = h4) (by simp [sgO, S4.hr, isTy, ei]) fun sg h5 ⟨e, eh⟩ => ?_
    subst e eh
    have er : (rest.map Ln.d).take i ++ (rest.map Ln.d).drop (i + 1) = (rest.eraseIdx i).map Ln.d := by
      rw [List.eraseIdx_eq_take_drop_succ, List.map_append, List.map_take, List.map_drop]
    have c1 : Mo.cutD (rest.map Ln.d) none (some (i : Int)) = (rest.map Ln.d).take i := cut_to (by rw [List.length_map]; omega)
    have c2 : Mo.cutD (rest.map Ln.d) (some ((i : Int) + 1)) none = (rest.map Ln.d).drop (i + 1) := cut_from (j := i + 1) (by rw [List.length_map]; omega)
    refine stepT (fun sg h' => ∃ r2, sg = sgO b lr r2 (h.length + 1) kr (some d) (some (.ref h2.length)) (some l.d) (some (.int (i : Int))) ∧ h'[r2]? = some (.lst ((rest.eraseIdx i).map Ln.d)) ∧ h5.length ≤ r2 ∧ Ex h5 h') ?_ fun sg h6 ⟨r2, e, hr2, lr2, X6⟩ => ?_
    · have le : LenE (((rest.map Ln.d).take i).length + ((rest.map Ln.d).drop (i + 1)).length) := lenE (by simp; omega)
      simp only [w_set, wp_th, w_m2, wp_bind, w_sl, w_var, sgO, List.getElem?_cons_succ, List.getElem?_cons_zero, wp_ok, w_noP, w_part, w_lit, add_ii, l_sl, S4.hr, c1, app_get S4.hr, c2, l_addR]
      simp [le, -List.map_take, -List.map_drop, -List.length_take, -List.length_drop]
      exact ⟨er, Ex.app⟩
    subst e
    have l5 := S4.G.len
    have flen := S4.len
    have f1 := S4.f1
    have k1 := S4.k1
    have b0 := S4.b0
    have hf6 := X6.get S4.hf
    have hk6 := X6.get S4.hk
    have fl5 := lt_of S4.hf
    have kl5 := lt_of S4.hk
    have lf : LenC fs.length := lenC (by omega)
    refine stepT (fun sg h' => sg = sgO b lr r2 (h.length + 1) kr (some d) (some (.ref h2.length)) (some l.d) (some (.int (i : Int))) ∧ h' = h6.set (h.length + 1) (.lst ((fs ++ [l]).map Ln.d))) (by simp [sgO, hf6, isTy, lf]) fun sg h7 ⟨e, eh⟩ => ?_
    subst e
    have B7 : BagOk h7 b := by rw [eh]; exact (S4.B.ex X6).put (by omega)
    have G7 : Gr b h h7 := by rw [eh]; exact ((S4.G.trans X6.gr).put (.inl f1))
    have hr7 : h7[r2]? = some (.lst ((rest.eraseIdx i).map Ln.d)) := by rw [eh, set_off (by omega)]; exact hr2
    have hf7 : h7[h.length + 1]? = some (.lst ((fs ++ [l]).map Ln.d)) := by rw [eh]; exact set_at (lt_of hf6)
    have hk7 : h7[kr]? = some (.lst ((known fs).map D.str)) := by rw [eh, set_off S4.kf.symm]; exact hk6
    have l7 : h7.length = h6.length := by rw [eh]; simp
    have l6 := X6.len
    clear eh
    have kl := known_len (ls := fs)
    have w0 : dIx l.d (.int 0) h7 = .ok (match l with
      | .sec _ _ => .str (Str.ofString "secret")
      | .cel _ _ _ => .str (Str.ofString "cell")
      | .inn _ => .str (Str.ofString "in")
      | .opn _ => .str (Str.ofString "open")
      | .gno _ _ => .str (Str.ofString "gate")
      | .gbi _ _ _ _ => .str (Str.ofString "gate")) h7 := by cases l <;> rfl
    have w1 : ∀ h, dIx l.d (.int 1) h = .ok (.str l.wire) h := fun h => by cases l <;> rfl
    have fin : ∀ (kr2 : Nat) (h8 : Mh), Ex h7 h8 → h7.length ≤ kr2 → h8[kr2]? = some (.lst ((known (fs ++ [l])).map D.str)) → OS h h8 b lr r2 (h.length + 1) kr2 ls (fs ++ [l]) (rest.eraseIdx i) (j + 1) := fun kr2 h8 X hk2 e => S4.go W.P hi lr' (B7.ex X) (G7.trans X.gr) (X.get hr7) (X.get hf7) e (by omega) (by omega) (by omega) (by omega)
    have le1 : LenE ((known fs).length + 1) := lenE (by omega)
    have le0 : LenE (known fs).length := lenE (by omega)
    cases ho : l.isOpn with
    | true =>
      have ek : known (fs ++ [l]) = known fs := by rw [known_snoc, ho]; rfl
      cases l <;> first | (cases ho; done) | skip
      simp [sgO, w0, hk7, app_get hk7, le0]
      exact ⟨_, _, ⟨rfl, rfl⟩, _, _, fin _ _ Ex.app (by omega) (by rw [ek]; simp)⟩
    | false =>
      have ek : known (fs ++ [l]) = known fs ++ [l.wire] := by rw [known_snoc, ho]; rfl
      have w2 : (mTest (m2 (dE true) (m2 dIx (mVar 7) (mLit (.int 0))) (mLit (.str (Str.ofString "open")))) (sgO b lr r2 (h.length + 1) kr (some d) (some (.ref h2.length)) (some l.d) (some (.int (i : Int)))) h7).wp fun b h' => b = true ∧ h' = h7 := by
        simp [sgO, w0]
        cases l <;> first | (cases ho; done) | simp
      rw [w_set, wp_th, w_m2, wp_bind, w_var]
      simp only [sgO, List.getElem?_cons_succ, List.getElem?_cons_zero, wp_ok]
      rw [wp_bind, w_ite, wp_bind]
      refine w2.mono fun q h8 ⟨e, e2⟩ => ?_
      subst e e2
      simp [w1, hk7, app_get hk7, le1]
      exact ⟨_, _, ⟨rfl, rfl⟩, _, _, fin _ _ Ex.app (by omega) (by rw [ek]; simp)⟩
  · subst e
    simp [sgO]
    have rz : rest = [] := by
      have := S.p.length_eq
      rw [List.length_append, S.len] at this
      exact List.length_eq_zero_iff.mp (by omega)
    have pp := S.p
    rw [rz, List.append_nil] at pp
    exact ⟨fs, S.hf, pp, S.P, S.B, S.G⟩
end K10

namespace K10
open PySem PySem.Spec PyProof.Rows L2 Mo
theorem cL : lS (Str.ofString "secret ") = lS (Str.ofString "secret") ++ [32] ∧ lS (Str.ofString "cell ") = lS (Str.ofString "cell") ++ [32] ∧ lS (Str.ofString " from ") = 32 :: (lS (Str.ofString "from") ++ [32]) ∧ lS (Str.ofString " = not ") = 32 :: (lS (Str.ofString "=") ++ 32 :: (lS (Str.ofString "not") ++ [32])) ∧ lS (Str.ofString " = ") = 32 :: (lS (Str.ofString "=") ++ [32]) ∧ lS (Str.ofString " ") = [32] ∧ lS (Str.ofString "\n") = [10] := by decide +kernel
theorem cN : (Str.ofString "secret ").length = 7 ∧ (Str.ofString "cell ").length = 5 ∧ (Str.ofString " from ").length = 6 ∧ (Str.ofString " = not ").length = 7 ∧ (Str.ofString " = ").length = 3 ∧ (Str.ofString " ").length = 1 ∧ (Str.ofString "\n").length = 1 ∧ (Str.ofString "in").length = 2 ∧ (Str.ofString "open").length = 4 := by decide +kernel
theorem bitS {b : Bool} : Str.ofString (bI b).repr = bS b ∧ (bI b).natAbs.log2 < 1920 ∧ (bS b).length = 1 := by cases b <;> decide +kernel
theorem kS_len {x : Bool} : (kS x).length = 3 := by cases x <;> decide +kernel
theorem line_ok {h : Mh} {l : Ln} (N : l.Nms) : (f__law_wire_line [l.d] h).wp fun d h' => d = .str l.line ∧ h' = h := by
  obtain ⟨N1, N2, N3⟩ := N
  obtain ⟨a1, a2, a3, a4, a5, a6, _⟩ := cL
  obtain ⟨b1, b2, b3, b4, b5, b6, _, b8, b9⟩ := cN
  have n1 := N1.len
  unfold f__law_wire_line m__law_wire_line
  cases l with
  | sec n f =>
    have n2 := (N3 f (by simp [Ln.froms])).len
    simp only [Ln.wire] at n1
    have e : Str.ofString "secret " ++ n ++ Str.ofString " from " ++ f = (Ln.sec n f).line := lS_ext (by simp [lS_app, Ln.line, lS_join, Ln.words, gl, a1, a3, a6])
    simp [startD, List.replicate, Ln.d, atI, ixN, app_len, b1, b3, ← e]
    exact ⟨lenE (by omega), lenE (by omega), lenE (by omega)⟩
  | cel n b f =>
    have n2 := (N3 f (by simp [Ln.froms])).len
    simp only [Ln.wire] at n1
    obtain ⟨t1, t2, t3⟩ := bitS (b := b)
    have e : Str.ofString "cell " ++ n ++ Str.ofString " " ++ bS b ++ Str.ofString " from " ++ f = (Ln.cel n b f).line := lS_ext (by simp [lS_app, Ln.line, lS_join, Ln.words, gl, a2, a3, a6])
    simp [startD, List.replicate, Ln.d, atI, ixN, app_len, b2, b3, b6, dStr, t1, t2, t3, ← e]
    exact ⟨lenE (by omega), lenE (by omega), lenE (by omega), lenE (by omega), lenE (by omega)⟩
  | inn n =>
    simp only [Ln.wire] at n1
    have e : Str.ofString "in" ++ Str.ofString " " ++ n = (Ln.inn n).line := lS_ext (by simp [lS_app, Ln.line, lS_join, Ln.words, gl, a6])
    simp [startD, List.replicate, Ln.d, atI, ixN, app_len, b6, b8, ← e]
    try exact lenE (by omega)
  | opn n =>
    simp only [Ln.wire] at n1
    have e : Str.ofString "open" ++ Str.ofString " " ++ n = (Ln.opn n).line := lS_ext (by simp [lS_app, Ln.line, lS_join, Ln.words, gl, a6])
    simp [startD, List.replicate, Ln.d, atI, ixN, app_len, b6, b9, ← e]
    try exact lenE (by omega)
  | gno n a =>
    have n2 := (N2 a (by simp [Ln.reads])).len
    simp only [Ln.wire] at n1
    have e : n ++ (Str.ofString " = not " ++ a) = (Ln.gno n a).line := lS_ext (by simp [lS_app, Ln.line, lS_join, Ln.words, gl, a4, a6])
    simp [startD, List.replicate, Ln.d, atI, ixN, app_len, b4, ← e]
    exact ⟨lenE (by omega), lenE (by omega)⟩
  | gbi n x a c =>
    have n2 := (N2 a (by simp [Ln.reads])).len
    have n3 := (N2 c (by simp [Ln.reads])).len
    have n4 := kS_len (x := x)
    have kn : (kS x = Str.ofString "not") = False := by cases x <;> simp [kS]
    simp only [Ln.wire] at n1
    have e : n ++ (Str.ofString " = " ++ a ++ Str.ofString " " ++ kS x ++ Str.ofString " " ++ c) = (Ln.gbi n x a c).line := lS_ext (by simp [lS_app, Ln.line, lS_join, Ln.words, gl, a5, a6])
    simp [startD, List.replicate, Ln.d, atI, ixN, app_len, b5, b6, n4, kn, ← e]
    exact ⟨lenE (by omega), lenE (by omega), lenE (by omega), lenE (by omega), lenE (by omega), lenE (by omega)⟩
theorem strsOf_map : ∀ l : List Str, strsOf (l.map D.str) = some l
  | [] => rfl
  | x :: l => by show (strsOf (l.map D.str)).map _ = _; rw [strsOf_map l]; rfl
theorem text_of_ok {h : Mh} {r : Nat} {ls : List Ln} (hr : h[r]? = some (.lst (ls.map Ln.d))) (N : ∀ l ∈ ls, l.Nms) (hl : ls.length ≤ 60) : (f__law_text_of [.ref r] h).wp fun d h' => d = .str (textOf ls) ∧ Ex h h' := by
  unfold f__law_text_of m__law_text_of
  rw [w_run, w_ret, wp_th, w_mt, wp_bind]
  simp [startD, List.replicate, hr, wipeD, isTy]
  refine wp_of (lc_map (s := srcL r (ls.map Ln.d)) (g := gNm 1) (fun d => (dec d).elim .non fun l => .str (l.line ++ Str.ofString "\n")) (items := ls.map Ln.d) (Nat.le_trans (by rw [List.length_map]; omega : (ls.map Ln.d).length ≤ 1000) line_le) (fun j x acc e => ?_) (fun acc => by simpa using srcL_fin (app_get hr))) ?_
  · have e0 := e
    rw [List.getElem?_map] at e
    obtain ⟨l, el, rfl⟩ := Option.map_eq_some_iff.mp e
    have lm := List.mem_of_getElem? el
    refine ⟨srcL_at (app_get hr) e0, _, rfl, ?_⟩
    rw [dec_d]
    have ll := line_len (N l lm)
    have key : (m2 dAdd (mCall 1 f__law_wire_line (mCons (mVar 1) mNil) []) (mLit (.str (Str.ofString "\n"))) [some (.ref r), some l.d] (h ++ [.lst acc])).wp fun d h' => d = .str (l.line ++ Str.ofString "\n") ∧ h' = h ++ [.lst acc] := by
      simp
      refine (line_ok (N l lm)).mono fun d h' ⟨e, e2⟩ => ?_
      subst e e2
      simp [cN.2.2.2.2.2.2.1]
      exact lenE (by omega)
    obtain ⟨d, h', e, rfl, rfl⟩ := key.out
    exact e
  · have em : (ls.map Ln.d).map (fun d => (dec d).elim .non fun l => D.str (l.line ++ Str.ofString "\n")) = (ls.map fun l => l.line ++ Str.ofString "\n").map D.str := by
      rw [List.map_map, List.map_map]
      refine List.map_congr_left fun l _ => ?_
      show (dec l.d).elim D.non _ = _
      rw [dec_d]; rfl
    rw [em]
    have sm : ∀ l : List Ln, (∀ m ∈ l, m.Nms) → ((l.map fun l => l.line ++ Str.ofString "\n").map (·.length)).sum ≤ 46 * l.length := fun l => by
      induction l with
      | nil => intro _; simp
      | cons m l ih =>
        intro hm
        have a := ih fun q hq => hm q (by simp [hq])
        have b := line_len (hm m (by simp))
        rw [List.map_cons, List.map_cons, List.sum_cons, app_len, cN.2.2.2.2.2.2.1, List.length_cons]
        omega
    have s := sm ls N
    have z : (Str.ofString "").length = 0 := by decide +kernel
    have jj : dJoin (.str (Str.ofString "")) [.ref h.length] (h ++ [.lst ((ls.map fun l => l.line ++ Str.ofString "\n").map D.str)]) = .ok (.str (textOf ls)) (h ++ [.lst ((ls.map fun l => l.line ++ Str.ofString "\n").map D.str)]) := by
      unfold dJoin
      simp only [l_lstOf, at_end, strsOf_map]
      exact if_pos (by rw [z]; omega)
    simp only [wp_bind, w_nil, wp_ok]
    rw [jj]
    simp
    exact Ex.app
end K10

namespace K10
open PySem PySem.Spec PyProof.Rows L2 Mo
/-- one line in another's place, with the same name and sort -/
structure Sw (ls : List Ln) (i : Nat) (l m : Ln) : Prop where
  at_ : ls[i]? = some l
  w : l.isOpn = true ∨ m.wire = l.wire
  o : m.isOpn = l.isOpn
  k : m.kind = l.kind
  rd : ∀ s ∈ m.reads, s ∈ known (ls.take i)
  wr : m.isOpn = true → m.wire ∈ known (ls.take i)
theorem known_set {ls : List Ln} {i : Nat} {l m : Ln} (S : Sw ls i l m) (j : Nat) : known ((ls.set i m).take j) = known (ls.take j) := by
  by_cases h : j ≤ i
  · rw [List.take_set_of_le h]
  · have il := (List.getElem?_eq_some_iff.mp S.at_).1
    have eg := (List.getElem?_eq_some_iff.mp S.at_).2
    have e1 : ls = ls.take i ++ l :: ls.drop (i + 1) := by
      rw [← eg, ← List.drop_eq_getElem_cons il, List.take_append_drop]
    have e2 : ls.set i m = ls.take i ++ m :: ls.drop (i + 1) := by
      rw [List.set_eq_take_append_cons_drop, if_pos il]
    have k1 : ∀ r, known (l :: r) = known (m :: r) := fun r => by
      show known ([l] ++ r) = known ([m] ++ r)
      rw [known_app, known_app]
      congr 1
      unfold known
      rcases S.w with hw | hw
      · simp [hw, S.o]
      · by_cases ho : l.isOpn = true
        · simp [ho, S.o]
        · simp [ho, S.o, hw]
    have len : (ls.take i).length = i := by rw [List.length_take]; omega
    rw [e2]
    conv => rhs; rw [e1]
    rw [List.take_append, List.take_append, known_app, known_app, len]
    congr 1
    obtain ⟨q, hq⟩ : ∃ q, j - i = q + 1 := ⟨j - i - 1, by omega⟩
    rw [hq, List.take_succ_cons, List.take_succ_cons]
    exact (k1 _).symm
theorem PW.swap {ls : List Ln} {i : Nat} {l m : Ln} (P : PW ls) (S : Sw ls i l m) : PW (ls.set i m) := by
  have il := (List.getElem?_eq_some_iff.mp S.at_).1
  have get : ∀ {j q}, (ls.set i m)[j]? = some q → (j ≠ i ∧ ls[j]? = some q) ∨ (j = i ∧ q = m) := fun {j q} e => by
    by_cases h : j = i
    · subst h
      rw [List.getElem?_set_self il] at e
      cases e; exact .inr ⟨rfl, rfl⟩
    · rw [List.getElem?_set_ne (Ne.symm h)] at e
      exact .inl ⟨h, e⟩
  have nmk : ∀ s ∈ known (ls.take i), Nm s := fun s hs => P.known_nu s (by
    obtain ⟨q, hq, ho, e⟩ := known_mem.mp hs
    exact known_mem.mpr ⟨q, List.mem_of_mem_take hq, ho, e⟩)
  refine ⟨fun q hq => ?_, fun j q e => ?_, fun j q e => ?_⟩
  · obtain ⟨j, hj⟩ := List.getElem?_of_mem hq
    rcases get hj with ⟨_, e⟩ | ⟨_, rfl⟩
    · exact P.nu q (List.mem_of_getElem? e)
    · refine ⟨?_, fun s hs => nmk s (S.rd s hs)⟩
      by_cases ho : q.isOpn = true
      · exact nmk _ (S.wr ho)
      · rcases S.w with h | h
        · rw [S.o] at ho; exact absurd h ho
        · rw [h]; exact (P.nu l (List.mem_of_getElem? S.at_)).1
  · rw [known_set S]
    rcases get e with ⟨_, e⟩ | ⟨rfl, rfl⟩
    · exact P.new j q e
    · intro ho
      rcases S.w with h | h
      · rw [S.o, h] at ho; cases ho
      · rw [h]; exact P.new j l S.at_ (by rw [← S.o]; exact ho)
  · rw [known_set S]
    rcases get e with ⟨_, e⟩ | ⟨rfl, rfl⟩
    · exact P.rd j q e
    · exact S.rd
theorem told_set {ls : List Ln} {i : Nat} {l m : Ln} {k : Str} (e : ls[i]? = some l) (hk : m.kind = l.kind) : (toldBy k (ls.set i m)).length = (toldBy k ls).length := by
  have il := (List.getElem?_eq_some_iff.mp e).1
  have eg := (List.getElem?_eq_some_iff.mp e).2
  have e1 : ls = ls.take i ++ l :: ls.drop (i + 1) := by
    rw [← eg, ← List.drop_eq_getElem_cons il, List.take_append_drop]
  have e2 : ls.set i m = ls.take i ++ m :: ls.drop (i + 1) := by
    rw [List.set_eq_take_append_cons_drop, if_pos il]
  conv => rhs; rw [e1]
  rw [e2]
  unfold toldBy
  simp only [List.filter_append, List.filter_cons, hk, List.map_append, List.length_append]
  split <;> simp
theorem WL.swap {n o : Nat} {ls : List Ln} {i : Nat} {l m : Ln} (W : WL n o ls) (S : Sw ls i l m) (hf : ∀ s ∈ m.froms, s ∈ known ls) : WL n o (ls.set i m) := by
  have ek : known (ls.set i m) = known ls := by
    have := known_set S ls.length
    rwa [List.take_length, List.take_of_length_le (by simp)] at this
  refine ⟨W.P.swap S, fun q hq s hs => ?_, by rw [List.length_set]; exact W.len, by rw [told_set S.at_ S.k]; exact W.op, by rw [told_set S.at_ S.k]; exact W.inn⟩
  rw [ek]
  rcases List.mem_or_eq_of_mem_set hq with hq | rfl
  · exact W.fr q hq s hs
  · exact hf s hs
theorem WL.add {n o : Nat} {ls : List Ln} {l : Ln} (W : WL n o ls) (h1 : Nm l.wire ∧ ∀ s ∈ l.reads, Nm s) (h2 : l.isOpn = false → l.wire ∉ known ls) (h3 : ∀ s ∈ l.reads, s ∈ known ls) (h4 : ∀ s ∈ l.froms, s ∈ known ls) (h5 : l.kind ≠ Str.ofString "in") : WL (n + 1) (o + 1) (ls ++ [l]) := by
  have sub : ∀ s ∈ known ls, s ∈ known (ls ++ [l]) := fun s hs => by rw [known_app]; exact List.mem_append.mpr (.inl hs)
  refine ⟨W.P.snoc h1 h2 h3, fun q hq s hs => sub s ?_, by have := W.len; simp; omega, by rw [told_snoc]; have := W.op; split <;> omega, by rw [told_snoc, if_neg h5]; have := W.inn; omega⟩
  rcases List.mem_append.mp hq with hq | hq
  · exact W.fr q hq s hs
  · rw [List.mem_singleton.mp hq] at hs; exact h4 s hs
theorem WL.more {n o n' o' : Nat} {ls : List Ln} (W : WL n o ls) (h : n ≤ n') (h' : o ≤ o') : WL n' o' ls := ⟨W.P, W.fr, Nat.le_trans W.len h, Nat.le_trans W.op h', W.inn⟩
theorem WL.perm {n o : Nat} {ls fs : List Ln} (W : WL n o ls) (p : fs.Perm ls) (P : PW fs) : WL n o fs :=
  ⟨P, fun l hl s hs => (known_perm p).mem_iff.mpr (W.fr l (p.mem_iff.mp hl) s hs), by rw [p.length_eq]; exact W.len, by
    have := ((p.filter fun l => decide (l.kind = Str.ofString "open")).map Ln.told).length_eq
    have q := W.op
    unfold toldBy at *
    omega, by
    have := ((p.filter fun l => decide (l.kind = Str.ofString "in")).map Ln.told).length_eq
    have q := W.inn
    unfold toldBy at *
    omega⟩
theorem v9_nm : Nm v9 := by
  refine ⟨⟨118, [57, 118, 57, 118, 57, 118, 57], by decide +kernel, by decide +kernel⟩, ?_, by rw [v9_len]; decide, by decide +kernel⟩
  decide +kernel
end K10

namespace K10
open PySem PySem.Spec PyProof.Rows L2 Mo
theorem lc_ls3 {mt : Sg → Mh → R Bool} {me : Sg → Mh → R D} {sg : Sg} {h : Mh} {r i : Nat} {ls : List Ln} (P : Ln → Bool) (G : Ln → D) (hr : h[r]? = some (.lst (ls.map Ln.d))) (hl : ls.length ≤ 1000)
    (ht : ∀ l ∈ ls, ∀ acc, (mt (sg.set i (some l.d)) (h ++ [.lst acc])).wp fun b h'' => b = P l ∧ h'' = h ++ [.lst acc]) (he : ∀ l ∈ ls, P l = true → ∀ acc, (me (sg.set i (some l.d)) (h ++ [.lst acc])).wp fun d h'' => d = G l ∧ h'' = h ++ [.lst acc]) :
    lcL (srcL r (ls.map Ln.d)) (gNm i) mt me sg h.length (ls.map Ln.d) 0 (h ++ [.lst []]) = .ok (.ref h.length) (h ++ [.lst ((ls.filter P).map G)]) := by
  rw [lc_pure (s := srcL r (ls.map Ln.d)) (g := gNm i) (fun d => (dec d).elim false P) (fun d => (dec d).elim .non G) (items := ls.map Ln.d) (Nat.le_trans (by rw [List.length_map]; exact hl) line_le) (fun j x acc e => ?_) (fun acc => by simpa using srcL_fin (app_get hr))]
  · congr 3
    rw [List.filter_map, List.map_map]
    congr 2
    · funext l; exact congrArg (·.elim .non G) (dec_d l)
    · congr 1
      funext l; exact congrArg (·.elim false P) (dec_d l)
  · have e0 := e
    rw [List.getElem?_map] at e
    obtain ⟨l, el, rfl⟩ := Option.map_eq_some_iff.mp e
    have lm := List.mem_of_getElem? el
    refine ⟨srcL_at (app_get hr) e0, _, rfl, ?_, fun hp => ?_⟩
    · rw [dec_d]
      obtain ⟨b, h', e1, rfl, rfl⟩ := (ht l lm acc).out
      exact e1
    · rw [dec_d] at hp ⊢
      obtain ⟨b, h', e1, rfl, rfl⟩ := (he l lm hp acc).out
      exact e1
def sgC (b lr : Nat) (i : Int) (f : Nat) (x4 x5 x6 x7 : Option D) : Sg := [some (.ref b), some (.ref lr), some (.int i), some (.ref f), x4, x5, x6, x7]
theorem of_strs {h : Mh} {b r : Nat} {ks : List Str} (B : BagOk h b) (hr : h[r]? = some (.lst (ks.map D.str))) (rb : r ≠ b) (ne : ks ≠ []) (l : ks.length ≤ 1000) : (f__law_of [.ref b, .ref r] h).wp fun d h' => ∃ n, d = .str n ∧ n ∈ ks ∧ BagOk h' b ∧ Gr b h h' := by
  refine (of_ok (ds := ks.map D.str) B hr rb (by rw [List.length_map]; exact List.length_pos_iff.mpr ne) (by rw [List.length_map]; omega)).mono fun d h' ⟨⟨k, e⟩, B, G⟩ => ?_
  rw [List.getElem?_map] at e
  obtain ⟨n, en, rfl⟩ := Option.map_eq_some_iff.mp e
  exact ⟨n, rfl, List.mem_of_getElem? en, B, G⟩
theorem skip1 {c : Sg → Mh → R Bool} {m n : Sg → Mh → RS} {sg : Sg} {h : Mh} {N : Sg → Mh → Prop} {T : D → Mh → Prop} (hc : (c sg h).wp fun b h' => b = false ∧ h' = h) (k : (n sg h).wp N T) : (sIf c m n sg h).wp N T := by
  rw [w_if, wp_th]
  refine hc.mono fun b h' ⟨e, e2⟩ => ?_
  subst e e2
  rw [if_neg (by simp)]
  exact k
theorem changed_ok {h : Mh} {b lr n o : Nat} {ls : List Ln} (B : BagOk h b) (hl : h[lr]? = some (.lst (ls.map Ln.d))) (W : WL n o ls) (n50 : n ≤ 50) (lb : lr ≠ b) (ne : ls ≠ []) : (f__law_changed [.ref b, .ref lr] h).wp fun d h' => ∃ r ms, d = .ref r ∧ h'[r]? = some (.lst (ms.map Ln.d)) ∧ h.length ≤ r ∧ (v9 ∉ known ls → WL (n + 1) (o + 1) ms) ∧ BagOk h' b ∧ Gr b h h' := by
  have bl := B.lt
  have l50 := Nat.le_trans W.len n50
  have lp := List.length_pos_iff.mpr ne
  unfold f__law_changed m__law_changed
  rw [w_run]
  refine stepT (fun sg h' => ∃ i f, sg = sgC b lr (i : Nat) f none none none none ∧ i < ls.length ∧ h'[f]? = some (.lst (ls.map Ln.d)) ∧ h.length ≤ f ∧ f < h'.length ∧ BagOk h' b ∧ Gr b h h') ?_ fun sg h1 ⟨i, f, e, il, hf, f0, fl, B1, G1⟩ => ?_
  · simp [startD, List.replicate, hl]
    refine (draw_ok B (size := (ls.length : Int)) (by omega) (by omega)).mono fun d h1 ⟨k, e, k0, k1, B1, G1⟩ => ?_
    subst e
    have hl1 := G1.get lb hl
    simp [hl1, sgC]
    exact ⟨k.toNat, h1.length, ⟨by omega, rfl⟩, by omega, by simp, G1.len, by omega, B1.ex Ex.app, G1.trans Ex.app.gr⟩
  subst e
  have hl1 := G1.get lb hl
  obtain ⟨l, el⟩ : ∃ l, ls[i]? = some l := ⟨_, List.getElem?_eq_getElem il⟩
  have el2 : ls[i] = l := (List.getElem?_eq_some_iff.mp el).2
  have lm := List.mem_of_getElem? el
  refine stepT (fun sg h' => ∃ kr, sg = sgC b lr (i : Nat) f (some l.d) (some (.ref kr)) none none ∧ h'[kr]? = some (.lst ((known ls).map D.str)) ∧ h1.length ≤ kr ∧ Ex h1 h') ?_ fun sg h2 ⟨kr, e, hk, k0, X2⟩ => ?_
  · rw [w_par, wp_th, w_cons, wp_bind]
    simp [sgC, hl1, atI, ixN, il, el2]
    refine wp_of (lc_ls3 (fun l => !l.isOpn) (fun l => .str l.wire) hl1 (by omega) (fun l _ acc => ?_) (fun l _ hp acc => ?_)) ?_
    · cases l <;> simp [wipeD, Ln.d, Ln.isOpn, atI, ixN]
    · cases l <;> simp [wipeD, Ln.d, Ln.wire, atI, ixN]
    · rw [known_eq]
      simp
      exact Ex.app
  subst e
  refine stepT (fun sg h' => ∃ ar, sg = sgC b lr (i : Nat) f (some l.d) (some (.ref kr)) (some (.ref ar)) none ∧ h'[ar]? = some (.lst ((known (ls.take i)).map D.str)) ∧ h2.length ≤ ar ∧ Ex h2 h') ?_ fun sg h3 ⟨ar, e, ha, a0, X3⟩ => ?_
  · have hl2 := X2.get hl1
    have ct : Mo.cutD (ls.map Ln.d) none (some (i : Int)) = (ls.take i).map Ln.d := by rw [cut_to (by rw [List.length_map]; omega), List.map_take]
    rw [w_set, wp_th, w_lc, wp_bind, w_iter, wp_bind, w_sl, wp_bind, w_var]
    simp only [sgC, List.getElem?_cons_succ, List.getElem?_cons_zero, wp_ok, w_noP, w_part, w_var, wp_bind, l_sl, hl2, ct, l_iter, at_end, srcL_items]
    refine wp_of (lc_ls3 (fun l => !l.isOpn) (fun l => .str l.wire) at_end (by rw [List.length_take]; omega) (fun l _ acc => ?_) (fun l _ hp acc => ?_)) ?_
    · cases l <;> simp [wipeD, Ln.d, Ln.isOpn, atI, ixN]
    · cases l <;> simp [wipeD, Ln.d, Ln.wire, atI, ixN]
    · rw [known_eq]
      simp
      exact Ex.app
  subst e
  have X := X2.trans X3
  have hl3 := X.get hl1
  have hf3 := X.get hf
  have hk3 := X3.get hk
  have B3 := B1.ex X
  have G3 := G1.trans (X.gr (b := b))
  have b1 := B1.lt
  have l1 := G1.len
  have l2 := X2.len
  have kl := known_len (ls := ls)
  have kl2 := known_len (ls := ls.take i)
  rw [List.length_take] at kl2
  have sub : ∀ s ∈ known (ls.take i), s ∈ known ls := fun s hs => by
    obtain ⟨q, hq, ho, e⟩ := known_mem.mp hs
    exact known_mem.mpr ⟨q, List.mem_of_mem_take hq, ho, e⟩
  -- one line set
  have setS : ∀ (m : Ln) (h4 : Mh), BagOk h4 b → Gr b h3 h4 → Sw ls i l m → (∀ s ∈ m.froms, s ∈ known ls) → ∃ ms : List Ln, (h4.set f (.lst ((ls.map Ln.d).set i m.d)))[f]? = some (.lst (ms.map Ln.d)) ∧ h.length ≤ f ∧ (v9 ∉ known ls → WL (n + 1) (o + 1) ms) ∧ BagOk (h4.set f (.lst ((ls.map Ln.d).set i m.d))) b ∧ Gr b h (h4.set f (.lst ((ls.map Ln.d).set i m.d))) := fun m h4 B4 G4 S hfr => by
    have l4 := G4.len
    have l3 := X.len
    refine ⟨ls.set i m, by rw [set_at (by omega), List.map_set], f0, fun _ => (W.swap S hfr).more (by omega) (by omega), B4.put (by omega), (G3.trans G4).put (.inl f0)⟩
  have tail : ∀ (l : Ln), ls[i]? = some l → l.isOpn = false → ∀ (sg : Sg), sg = sgC b lr (i : Nat) f (some l.d) (some (.ref kr)) (some (.ref ar)) none → (sSet 3 (mIte (mTest (m2 (dE false) (mLc (mIter (mVar 1)) (gNm 7) (mTest (m2 (dE false) (m2 dIx (mVar 7) (mLit (.int 0))) (mLit (.str (Str.ofString "open"))))) (mVar 7) [7]) (mLst mNil))) (m2 dAdd (mVar 3) (mLst (mCons (mTup (mCons (mLit (.str (Str.ofString "open"))) (mCons (m2 dIx (mVar 4) (mLit (.int 1))) mNil))) mNil))) (m2 dAdd (mVar 3) (mLst (mCons (mTup (mCons (mLit (.str (Str.ofString "secret"))) (mCons (mLit (.str (Str.ofString "v9v9v9v9"))) (mCons (m2 dIx (mVar 4) (mLit (.int 1))) mNil)))) mNil)))) sg h3).wp (fun sg h' => ∃ r ms, sg[3]? = some (some (.ref r)) ∧ h'[r]? = some (.lst (ms.map Ln.d)) ∧ h.length ≤ r ∧ (v9 ∉ known ls → WL (n + 1) (o + 1) ms) ∧ BagOk h' b ∧ Gr b h h') (fun d h' => ∃ r ms, d = .ref r ∧ h'[r]? = some (.lst (ms.map Ln.d)) ∧ h.length ≤ r ∧ (v9 ∉ known ls → WL (n + 1) (o + 1) ms) ∧ BagOk h' b ∧ Gr b h h') := fun l el ho sg es => by
    subst es
    have lk : l.wire ∈ known ls := known_mem.mpr ⟨l, List.mem_of_getElem? el, ho, rfl⟩
    have nmw := W.P.known_nu _ lk
    have l3 := X.len
    have w1 : ∀ h, dIx l.d (.int 1) h = .ok (.str l.wire) h := fun h => by cases l <;> rfl
    rw [w_set, wp_th, w_ite, wp_bind, w_test, wp_bind, w_m2, wp_bind, w_lc, wp_bind, w_iter, wp_bind, w_var]
    simp only [sgC, List.getElem?_cons_succ, List.getElem?_cons_zero, wp_ok, l_iter, hl3, srcL_items]
    refine wp_of (lc_ls3 (fun l => l.isOpn) Ln.d hl3 (by omega) (fun l _ acc => ?_) (fun l _ hp acc => ?_)) ?_
    · cases l <;> simp [wipeD, Ln.d, Ln.isOpn, atI, ixN]
    · simp [wipeD]
    · simp
      refine wp_of (dE_empty (neg := false) (l := ls.filter Ln.isOpn) (F := Ln.d) (G := Ln.p) (by simp) (by simp) (fun s _ => pd_ln s) (fun s hs => W.good s (List.mem_filter.mp hs).1)) ?_
      have hf5 : ∀ t, (h3 ++ t)[f]? = some (.lst (ls.map Ln.d)) := fun t => app_get hf3
      have le1 : LenE (ls.length + 1) := lenE (by omega)
      cases hz : (ls.filter Ln.isOpn).isEmpty with
      | true =>
        simp [w1, hf5, le1]
        exact ⟨ls ++ [.opn l.wire], by simp [Ln.d], by omega, fun _ => W.add ⟨nmw, by simpa [Ln.reads] using nmw⟩ (by simp [Ln.isOpn]) (by simpa [Ln.reads] using lk) (by simp [Ln.froms]) (by simp [Ln.kind]), B3.ex Ex.app, G3.trans Ex.app.gr⟩
      | false =>
        simp [w1, hf5, le1]
        exact ⟨ls ++ [.sec v9 l.wire], by simp [Ln.d, v9], by omega, fun hv => W.add (l := .sec v9 l.wire) ⟨v9_nm, by simp [Ln.reads]⟩ (fun _ => hv) (by simp [Ln.reads]) (by simpa [Ln.froms] using lk) (by simp [Ln.kind]), B3.ex Ex.app, G3.trans Ex.app.gr⟩
  refine stepT (fun sg h' => ∃ r ms, sg[3]? = some (some (.ref r)) ∧ h'[r]? = some (.lst (ms.map Ln.d)) ∧ h.length ≤ r ∧ (v9 ∉ known ls → WL (n + 1) (o + 1) ms) ∧ BagOk h' b ∧ Gr b h h') ?_ fun sg h4 ⟨r, ms, e, hr, r0, hw, B4, G4⟩ => ?_
  · have fb : f ≠ b := by omega
    have kb : kr ≠ b := by omega
    have ab : ar ≠ b := by omega
    cases l with
    | sec nm fr =>
      have kne : known ls ≠ [] := fun z => by
        have : nm ∈ known ls := known_mem.mpr ⟨_, lm, rfl, rfl⟩
        rw [z] at this; cases this
      simp [sgC, Ln.d, atI, ixN, cut_tup3]
      refine (of_strs B3 hk3 kb kne (by omega)).mono fun d h4 ⟨c, e, hc, B4, G4⟩ => ?_
      subst e
      have hf4 := G4.get fb hf3
      simp [hf4, ixN, il]
      exact setS (.sec nm c) h4 B4 G4 ⟨el, .inr rfl, rfl, rfl, by simp [Ln.reads], by simp [Ln.isOpn]⟩ (by simpa [Ln.froms] using hc)
    | cel nm bt fr =>
      have kne : known ls ≠ [] := fun z => by
        have : nm ∈ known ls := known_mem.mpr ⟨_, lm, rfl, rfl⟩
        rw [z] at this; cases this
      simp [sgC, Ln.d, atI, ixN, cut_tup4]
      refine (draw_ok B3 (size := 2) (by decide) (by decide)).mono fun d h4 ⟨k, e, k0, k1, B4, G4⟩ => ?_
      subst e
      have hf4 := G4.get fb hf3
      by_cases z : k = 0
      · subst z
        simp [hf4, ixN, il, atI]
        have eb : 1 - bI bt = bI (!bt) := by cases bt <;> rfl
        rw [eb]
        exact setS (.cel nm (!bt) fr) h4 B4 G4 ⟨el, .inr rfl, rfl, rfl, by simp [Ln.reads], by simp [Ln.isOpn]⟩ (by simpa [Ln.froms] using W.fr _ lm fr (by simp [Ln.froms]))
      · simp [z, atI, ixN, cut_tup4]
        refine (of_strs B4 (G4.get kb hk3) kb kne (by omega)).mono fun d h5 ⟨c, e, hc, B5, G5⟩ => ?_
        subst e
        have hf5 := G5.get fb hf4
        simp [hf5, ixN, il]
        exact setS (.cel nm bt c) h5 B5 (G4.trans G5) ⟨el, .inr rfl, rfl, rfl, by simp [Ln.reads], by simp [Ln.isOpn]⟩ (by simpa [Ln.froms] using hc)
    | opn nm =>
      have hnm := W.P.rd i _ el nm (by simp [Ln.reads])
      simp [sgC, Ln.d, atI, ixN]
      refine (of_strs B3 ha ab (fun z => by rw [z] at hnm; cases hnm) (by omega)).mono fun d h4 ⟨c, e, hc, B4, G4⟩ => ?_
      subst e
      have hf4 := G4.get fb hf3
      simp [hf4, ixN, il]
      exact setS (.opn c) h4 B4 G4 ⟨el, .inl rfl, rfl, rfl, by simpa [Ln.reads] using hc, fun _ => hc⟩ (by simp [Ln.froms])
    | gbi nm x a c =>
      have hnm := W.P.rd i _ el a (by simp [Ln.reads])
      have ane : known (ls.take i) ≠ [] := fun z => by rw [z] at hnm; cases hnm
      have kn : (kS x = Str.ofString "not") = False := by cases x <;> simp [kS]
      simp [sgC, Ln.d, atI, ixN, kn]
      have B3' := B3.ex (h' := h3 ++ [.lst ([Str.ofString "and", Str.ofString "xor"].map D.str)]) Ex.app
      have l3 := X.len
      refine (of_strs (ks := [Str.ofString "and", Str.ofString "xor"]) B3' at_end (by omega) (by simp) (by simp)).mono fun d h4 ⟨kk, e, hkk, B4, G4⟩ => ?_
      subst e
      have ha4 := G4.get ab (app_get ha)
      have G34 : Gr b h3 h4 := Ex.app.gr.trans G4
      simp
      refine (of_strs B4 ha4 ab ane (by omega)).mono fun d h5 ⟨c1, e, hc1, B5, G5⟩ => ?_
      subst e
      simp
      refine (of_strs B5 (G5.get ab ha4) ab ane (by omega)).mono fun d h6 ⟨c2, e, hc2, B6, G6⟩ => ?_
      subst e
      have G36 := G34.trans (G5.trans G6)
      have hf6 := G36.get fb hf3
      simp [hf6, ixN, il]
      have hx : ∃ y, kk = kS y := by
        simp at hkk
        rcases hkk with rfl | rfl
        · exact ⟨false, rfl⟩
        · exact ⟨true, rfl⟩
      obtain ⟨y, rfl⟩ := hx
      exact setS (.gbi nm y c1 c2) h6 B6 G36 ⟨el, .inr rfl, rfl, rfl, by simp [Ln.reads]; exact ⟨hc1, hc2⟩, by simp [Ln.isOpn]⟩ (by simp [Ln.froms])
    | inn nm =>
      refine skip1 (by simp [sgC, Ln.d, atI, ixN]) (skip1 (by simp [sgC, Ln.d, atI, ixN]) (skip1 (by simp [sgC, Ln.d, atI, ixN]) (skip1 (by simp [sgC, Ln.d, atI, ixN]) ?_)))
      exact tail (.inn nm) el rfl _ rfl
    | gno nm a =>
      refine skip1 (by simp [sgC, Ln.d, atI, ixN]) (skip1 (by simp [sgC, Ln.d, atI, ixN]) (skip1 (by simp [sgC, Ln.d, atI, ixN]) (skip1 (by simp [sgC, Ln.d, atI, ixN]) ?_)))
      exact tail (.gno nm a) el rfl _ rfl
  · simp [e]
    exact ⟨ms, hr, r0, hw, B4, G4⟩
end K10

namespace K10
open PySem PySem.Spec PyProof.Rows L2 Mo
theorem disp1 {ma mb : Sg → Mh → R D} {sg : Sg} {h : Mh} {s : Str} {v : D} (ha : ma sg (h ++ [.dk []]) = .ok (.str s) (h ++ [.dk []])) (hb : mb sg (h ++ [.dk []]) = .ok v (h ++ [.dk []])) : mDisp (mPCons ma mb mPNil) sg h = .ok (.ref h.length) (h ++ [.dk [(Sum.inr s, v)]]) := by
  unfold mDisp mPCons mPNil
  simp only [ha, hb, R.bind, at_end, keyPs, key_s]
  rw [if_pos (by simp)]
  simp [mergeD, putD]
/-- what may be asked for: a text, or a thing of a known kind -/
def Th (b : Nat) (h : Mh) (x : D) : Prop := (∃ s, x = .str s) ∨ x = .non ∨ (∃ v, x = .bl v) ∨ (∃ v, x = .int v) ∨ (∃ v, x = .tup v) ∨ ∃ q, x = .ref q ∧ q ≠ b ∧ ((∃ xs, h[q]? = some (.lst xs)) ∨ ∃ kvs, h[q]? = some (.dk kvs))
theorem Th.gr {b : Nat} {h h' : Mh} {x : D} (t : Th b h x) (G : Gr b h h') : Th b h' x := by
  rcases t with t | t | t | t | t | ⟨q, e, qb, t | t⟩
  · exact .inl t
  · exact .inr (.inl t)
  · exact .inr (.inr (.inl t))
  · exact .inr (.inr (.inr (.inl t)))
  · exact .inr (.inr (.inr (.inr (.inl t))))
  · obtain ⟨xs, t⟩ := t
    exact .inr (.inr (.inr (.inr (.inr ⟨q, e, qb, .inl ⟨xs, G.get qb t⟩⟩))))
  · obtain ⟨xs, t⟩ := t
    exact .inr (.inr (.inr (.inr (.inr ⟨q, e, qb, .inr ⟨xs, G.get qb t⟩⟩))))
theorem Th.no {b : Nat} {h : Mh} {x : D} (t : Th b h x) (hs : ∀ s, x ≠ .str s) : ∃ T, tyD x h = some T ∧ T ≠ "str" := by
  rcases t with ⟨s, e⟩ | rfl | ⟨v, rfl⟩ | ⟨v, rfl⟩ | ⟨v, rfl⟩ | ⟨q, rfl, _, ⟨xs, t⟩ | ⟨xs, t⟩⟩
  · exact absurd e (hs s)
  · exact ⟨_, rfl, by decide⟩
  · exact ⟨_, rfl, by decide⟩
  · exact ⟨_, rfl, by decide⟩
  · exact ⟨_, rfl, by decide⟩
  · exact ⟨"list", by simp only [tyD, t], by decide⟩
  · exact ⟨"dict", by simp only [tyD, t], by decide⟩
def hasB (ks : List Str) : D → Bool
  | .str s => decide (s ∈ ks)
  | _ => false
def sgI (b n lr kr dr so : Nat) (x6 x7 x8 : Option D) : Sg := [some (.ref b), some (.ref n), some (.ref lr), some (.ref kr), some (.ref dr), some (.ref so), x6, x7, x8]
theorem inO2 {x : D} {h : Mh} {n b : Nat} {ls : List Ln} (C : Circ h n ls) (t : Th b h x) (neg : Bool) : dInO (Str.ofString "Circuit") neg f_Circuit___contains__ x (.ref n) h = .ok (.bl (if neg then !hasB (known ls) x else hasB (known ls) x)) h := by
  by_cases hs : ∃ s, x = .str s
  · obtain ⟨s, rfl⟩ := hs
    exact inO1 C (has_str C)
  · have hs' : ∀ s, x ≠ .str s := fun s e => hs ⟨s, e⟩
    obtain ⟨T, e1, e2⟩ := t.no hs'
    rw [inO1 (b := false) C (has_no C e1 e2)]
    cases x <;> first | rfl | exact absurd rfl (hs' _)
theorem upper_ok {s : Str} {h : Mh} (l : s.length ≤ 1000) : dUpper (.str s) [] h = .ok (.str (Txt.upper s)) h := if_pos (by omega)
/-- thing by thing -/
theorem in_loop {h : Mh} {b n lr kr dr so : Nat} {ls : List Ln} {xs : List D} {x6 x8 : Option D} {N : Sg → Mh → Prop} (B : BagOk h b) (C : Circ h n ls) (hk : h[kr]? = some (.lst ((known ls).map D.str))) (hs : h[so]? = some (.lst xs)) (ht : ∀ x ∈ xs, Th b h x) (fin : ∀ sg h', BagOk h' b → Ex h h' → N sg h') :
    (sFor (mIter (mVar 5)) (gNm 7) (sSeq (sSet 8 (mAnd (mBi dIsi1 (mCons (mVar 7) (mCons (mLit (.ty "str")) mNil))) (m2 (dIn false) (mVar 7) (mVar 3))))
    (sIf (mNotT (mTru (mCall 2 (f__law_like 8) (mCons (mLst (mCons (m2 (dInO (Str.ofString "Circuit") false f_Circuit___contains__) (mVar 7) (mVar 1)) (mCons (m2 (dInO (Str.ofString "Circuit") true f_Circuit___contains__) (mVar 7) (mVar 1)) mNil))) (mCons (mLst (mCons (mVar 8) (mCons (mNot (mVar 8)) mNil))) mNil)) []))) (sRet (mLit (.bl false))) sNext)) (sgI b n lr kr dr so x6 none x8) h).wp N (fun _ _ => False) := by
  rw [w_for, wp_th]
  simp [sgI, hs]
  refine loop (fun j sg h' => ∃ x7 x8, sg = sgI b n lr kr dr so x6 x7 x8 ∧ Ex h h') ⟨_, _, rfl, Ex.rfl⟩ (fun j x sg h' e ⟨x7, x8, es, X⟩ => ?_) (fun sg h' ⟨x7, x8, es, X⟩ => ⟨by have := srcL_fin (X.get hs); simpa using this, fin _ _ (B.ex X) X⟩)
  subst es
  have t := (ht x (List.mem_of_getElem? e)).gr (X.gr (b := b))
  refine ⟨srcL_at (X.get hs) e, _, rfl, ?_⟩
  refine stepT (fun sg h'' => sg = sgI b n lr kr dr so x6 (some x) (some (.bl (hasB (known ls) x))) ∧ h'' = h') ?_ fun sg h1 ⟨e, eh⟩ => ?_
  · by_cases hs' : ∃ s, x = .str s
    · obtain ⟨s, rfl⟩ := hs'
      simp [-in_lst, sgI, dIsi1, tyD, knT, isiB, in_known (X.get hk)]
      rfl
    · have hs'' : ∀ s, x ≠ .str s := fun s e => hs' ⟨s, e⟩
      obtain ⟨T, e1, e2⟩ := t.no hs''
      have e3 : isiB T "str" = false := by unfold isiB; simp [e2]
      simp [sgI, dIsi1, e1, knT, e3]
      cases x <;> first | rfl | exact absurd rfl (hs'' _)
  subst e eh
  have C1 := C.ex X
  generalize hv : hasB (known ls) x = v
  have i1 := inO2 C1 t false
  have i2 := inO2 C1 t true
  simp only [hv] at i1 i2
  simp [sgI, i1, i2]
  refine (like_ok 8 _ _ _ ?_).mono fun d h' ⟨e, X'⟩ => ?_
  · refine .lst (xs := [.bl v, .bl (!v)]) (ys := [.bl v, .bl (!v)]) (by simp) (by simp) rfl (by simp) fun i p q e1 e2 => ?_
    rw [e1] at e2; cases e2
    have := List.mem_of_getElem? e1
    simp at this
    rcases this with rfl | rfl <;> exact .bl _
  · subst e
    simp
    exact X.trans (Ex.app.trans X')
theorem th_str {b : Nat} {h : Mh} {s : Str} : Th b h (.str s) := .inl ⟨s, rfl⟩
theorem th_lst {b : Nat} {h : Mh} {q : Nat} {xs : List D} (qb : q ≠ b) (e : h[q]? = some (.lst xs)) : Th b h (.ref q) := .inr (.inr (.inr (.inr (.inr ⟨q, rfl, qb, .inl ⟨_, e⟩⟩))))
theorem th_dk {b : Nat} {h : Mh} {q : Nat} {xs : List (Key × D)} (qb : q ≠ b) (e : h[q]? = some (.dk xs)) : Th b h (.ref q) := .inr (.inr (.inr (.inr (.inr ⟨q, rfl, qb, .inr ⟨_, e⟩⟩))))
theorem in_so {h : Mh} {b n lr : Nat} {ls : List Ln} (B : BagOk h b) (C : Circ h n ls) (hl : h[lr]? = some (.lst (ls.map Ln.d))) (W : WF ls) : (f__law_in_so [.ref b, .ref n, .ref lr] h).wp fun d h' => d = .bl true ∧ BagOk h' b ∧ Gr b h h' := by
  have bl := B.lt
  have l60 := W.len
  have kl := known_len (ls := ls)
  have nmk : ∀ s ∈ known ls, Nm s := fun s hs => by
    obtain ⟨q, hq, _, e⟩ := known_mem.mp hs
    rw [← e]; exact (W.nms q hq).1
  unfold f__law_in_so m__law_in_so
  rw [w_run]
  refine stepT (fun sg h' => ∃ kr, sg = [some (.ref b), some (.ref n), some (.ref lr), some (.ref kr), none, none, none, none, none] ∧ h'[kr]? = some (.lst ((known ls).map D.str)) ∧ h.length ≤ kr ∧ Ex h h') ?_ fun sg h1 ⟨kr, e, hk, k0, X1⟩ => ?_
  · rw [w_set, wp_th]
    refine (lc_ls (fun l => !l.isOpn) (fun l => .str l.wire) hl (by omega) (by simp [startD]) (fun l _ h' => ?_) (fun l _ hp h' => ?_)).mono fun d h' ⟨e, e2⟩ => ?_
    · cases l <;> simp [startD, List.replicate, wipeD, Ln.d, Ln.isOpn, atI, ixN]
    · cases l <;> first | (simp [startD, List.replicate, wipeD, Ln.d, Ln.wire, atI, ixN]; done) | (simp [Ln.isOpn] at hp)
    · subst e e2
      rw [known_eq]
      simp [startD, List.replicate]
      exact Ex.app
  subst e
  refine stepT (fun sg h' => ∃ (dr : Nat) (ns : List Str), sg = [some (.ref b), some (.ref n), some (.ref lr), some (.ref kr), some (.ref dr), none, none, none, none] ∧ h'[dr]? = some (.lst (ns.map D.str)) ∧ ns.length = 2 ∧ BagOk h' b ∧ Gr b h1 h') ?_ fun sg h2 ⟨dr, ns, e, hd, n2, B2, G2⟩ => ?_
  · simp
    refine (names_ok (many := 2) (by decide) (B.ex X1)).mono fun d h2 ⟨⟨r, ns, e, hr, _, l2, _, _⟩, B2, G2⟩ => ?_
    subst e
    simp
    exact ⟨ns, hr, l2, B2, G2⟩
  subst e
  have C2 : Circ h2 n ls := by
    obtain ⟨c, i, g, o, w, C⟩ := C.ex X1
    have nb : ∀ {q : Nat} {u : MO}, h1[q]? = some u → (∀ xs, u = .lst xs → ∀ c i r m t, xs ≠ [.ref c, .int i, .int r, .int m, .int t]) → q ≠ b := fun {q u} e1 e2 z => by
      subst z
      obtain ⟨c, cells, i, rest, mix, cnt, B⟩ := B.ex X1
      rw [B.bag] at e1; cases e1
      exact e2 _ rfl c i rest mix cnt rfl
    have tb : ∀ k c i r m t, toldBy k ls ≠ [.ref c, .int i, .int r, .int m, .int t] := fun k c i r m t z => by
      have : D.ref c ∈ toldBy k ls := by rw [z]; simp
      unfold toldBy at this
      obtain ⟨l, _, e⟩ := List.mem_map.mp this
      cases l <;> cases e
    refine ⟨c, i, g, o, w, G2.get (nb C.at_ fun xs e => by cases e) C.at_, G2.get (nb C.c fun xs e => by cases e; exact tb _) C.c, G2.get (nb C.i fun xs e => by cases e; exact tb _) C.i, G2.get (nb C.g fun xs e => by cases e; exact tb _) C.g, G2.get (nb C.o fun xs e => by cases e; exact tb _) C.o, G2.get (nb C.w fun xs e => by cases e) C.w⟩
  have hk2 := G2.get (by omega) hk
  have l1 := X1.len
  have l2 := G2.len
  have G12 : Gr b h h2 := (X1.gr (b := b)).trans G2
  refine stepT (fun sg h' => ∃ so xs, sg = sgI b n lr kr dr so none none none ∧ h'[so]? = some (.lst xs) ∧ xs.length ≤ 20 ∧ h2.length ≤ so ∧ (∀ x ∈ xs, Th b h' x) ∧ Ex h2 h') ?_ fun sg h3 ⟨so, xs, e, hs, xl, so0, ht, X3⟩ => ?_
  · have dd : ∀ (sg : Sg) (h : Mh), mDisp (mPCons (mLit (.str (Str.ofString "a"))) (mLit (.int 1)) mPNil) sg h = .ok (.ref h.length) (h ++ [.dk [(Sum.inr (Str.ofString "a"), .int 1)]]) := fun sg h => disp1 rfl rfl
    have hd' : ∀ t, (h2 ++ t)[dr]? = some (.lst (ns.map D.str)) := fun t => app_get hd
    have l15 : LenE (ns.length + 13) := lenE (by omega)
    simp [hd', dd, l15, sgI]
    have at' : ∀ (t : Mh) (k : Nat), (h2 ++ t)[h2.length + k]? = t[k]? := fun t k => by rw [List.getElem?_append_right (by omega)]; congr 1; omega
    have at0 : ∀ (t : Mh), (h2 ++ t)[h2.length]? = t[0]? := fun t => by rw [List.getElem?_append_right (by omega)]; congr 1; omega
    refine ⟨by omega, fun x hx => ?_, Ex.app⟩
    rcases hx with ⟨s, _, rfl⟩ | rfl | rfl | rfl | rfl | rfl | rfl | rfl | rfl | rfl | rfl | rfl | rfl | rfl
    · exact th_str
    · exact .inr (.inl rfl)
    · exact .inr (.inr (.inl ⟨_, rfl⟩))
    · exact .inr (.inr (.inr (.inl ⟨_, rfl⟩)))
    · exact .inr (.inr (.inr (.inl ⟨_, rfl⟩)))
    · exact th_str
    · exact th_str
    · exact th_str
    · exact .inr (.inr (.inr (.inr (.inl ⟨_, rfl⟩))))
    · exact th_lst (xs := []) (by omega) (by rw [at0]; rfl)
    · exact th_lst (by omega) (by rw [at']; rfl)
    · exact .inr (.inr (.inr (.inr (.inl ⟨_, rfl⟩))))
    · exact th_dk (by omega) (by rw [at']; rfl)
    · exact th_dk (by omega) (by rw [at']; rfl)
  subst e
  have B3 := B2.ex X3
  have C3 := C2.ex X3
  have hk3 := X3.get hk2
  have G3 := G12.trans (X3.gr (b := b))
  refine stepT (fun sg h' => ∃ so xs x6, sg = sgI b n lr kr dr so x6 none none ∧ h'[so]? = some (.lst xs) ∧ (∀ x ∈ xs, Th b h' x) ∧ BagOk h' b ∧ Gr b h3 h') ?_ fun sg h4 ⟨so, xs, x6, e, hs, ht, B4, G4⟩ => ?_
  · rw [w_if, wp_th, w_test, wp_bind, w_m2, wp_bind, w_var]
    simp only [sgI, List.getElem?_cons_succ, List.getElem?_cons_zero, wp_ok]
    simp
    refine wp_of (dE_strs (neg := true) (app_get hk3) at_end fun s hs => nm_ok (nmk s hs)) ?_
    cases hz : (known ls).isEmpty with
    | true =>
      simp
      exact ⟨xs, app_get hs, fun x hx => (ht x hx).gr Ex.app.gr, B3.ex Ex.app, Ex.app.gr⟩
    | false =>
      have ne : known ls ≠ [] := fun z => by rw [z] at hz; cases hz
      have kb : kr ≠ b := by omega
      have l3 := X3.len
      simp
      refine (of_strs (h := h3 ++ [.lst []]) (B3.ex Ex.app) (app_get hk3) kb ne (by omega)).mono fun d h4 ⟨s, e, hsn, B4, G4⟩ => ?_
      subst e
      have sl := (nmk s hsn).len
      have dd : ∀ (sg : Sg) (h : Mh), sg[6]? = some (some (.str s)) → mDisp (mPCons (mVar 6) (mVar 6) mPNil) sg h = .ok (.ref h.length) (h ++ [.dk [(Sum.inr s, .str s)]]) := fun sg h e => by
        have : ∀ h, mVar 6 sg h = .ok (.str s) h := fun h => by unfold mVar; rw [e]
        exact disp1 (this _) (this _)
      have G34 : Gr b h3 h4 := Ex.app.gr.trans G4
      have sob : so ≠ b := by omega
      have hs4 := G34.get sob hs
      have hs' : ∀ t, (h4 ++ t)[so]? = some (.lst xs) := fun t => app_get hs4
      have lq : LenE (xs.length + 8) := lenE (by omega)
      have e1 : LenE (s.length + 1) := lenE (by omega)
      have e2 : LenE (s.length + s.length) := lenE (by omega)
      have e3 : LenE s.length := lenE (by omega)
      simp [dd, hs', lq, e1, e2, e3, cN.2.2.2.2.2.1, cN.2.2.2.2.2.2.1, upper_ok (s := s) (by omega), isTy]
      have l34 := G34.len
      have at' : ∀ (t : Mh) (k : Nat), (h4 ++ t)[h4.length + k]? = t[k]? := fun t k => by rw [List.getElem?_append_right (by omega)]; congr 1; omega
      have at0 : ∀ (t : Mh), (h4 ++ t)[h4.length]? = t[0]? := fun t => by rw [List.getElem?_append_right (by omega)]; congr 1; omega
      refine ⟨fun x hx => ?_, B4.ex Ex.app, G34.trans Ex.app.gr⟩
      rcases hx with hx | rfl | rfl | rfl | rfl | rfl | rfl | rfl | rfl
      · exact (ht x hx).gr (G34.trans Ex.app.gr)
      · exact th_lst (xs := [.str s]) (by omega) (by rw [at0]; rfl)
      · exact .inr (.inr (.inr (.inr (.inl ⟨_, rfl⟩))))
      · exact th_str
      · exact th_str
      · exact th_str
      · exact th_str
      · exact th_str
      · exact th_dk (by omega) (by rw [at']; rfl)
  subst e
  have cb : ∀ {h h' : Mh}, BagOk h b → Gr b h h' → Circ h n ls → Circ h' n ls := fun {h h'} B G C => by
    obtain ⟨c, i, g, o, w, C⟩ := C
    have nb : ∀ {q : Nat} {u : MO}, h[q]? = some u → (∀ xs, u = .lst xs → ∀ c i r m t, xs ≠ [.ref c, .int i, .int r, .int m, .int t]) → q ≠ b := fun {q u} e1 e2 z => by
      subst z
      obtain ⟨c, cells, i, rest, mix, cnt, B⟩ := B
      rw [B.bag] at e1; cases e1
      exact e2 _ rfl c i rest mix cnt rfl
    have tb : ∀ k c i r m t, toldBy k ls ≠ [.ref c, .int i, .int r, .int m, .int t] := fun k c i r m t z => by
      have : D.ref c ∈ toldBy k ls := by rw [z]; simp
      unfold toldBy at this
      obtain ⟨l, _, e⟩ := List.mem_map.mp this
      cases l <;> cases e
    exact ⟨c, i, g, o, w, G.get (nb C.at_ fun xs e => by cases e) C.at_, G.get (nb C.c fun xs e => by cases e; exact tb _) C.c, G.get (nb C.i fun xs e => by cases e; exact tb _) C.i, G.get (nb C.g fun xs e => by cases e; exact tb _) C.g, G.get (nb C.o fun xs e => by cases e; exact tb _) C.o, G.get (nb C.w fun xs e => by cases e) C.w⟩
  have C4 := cb B3 G4 C3
  have hk4 := G4.get (by omega) hk3
  refine stepT (fun sg h' => BagOk h' b ∧ Ex h4 h') (T := fun d h' => d = .bl true ∧ BagOk h' b ∧ Gr b h h') ?_ fun sg h5 ⟨B5, X5⟩ => ?_
  · exact RS.wp.mono (in_loop (N := fun sg h' => BagOk h' b ∧ Ex h4 h') B4 C4 hk4 hs ht (fun sg h' B X => ⟨B, X⟩)) (fun _ _ z => z) fun _ _ z => z.elim
  · simp
    exact ⟨B5, G3.trans (G4.trans X5.gr)⟩
end K10

namespace K10
open PySem PySem.Spec PyProof.Rows L2 Mo
/-- what lies at m and above is as it was -/
structure Up (m : Nat) (h h' : Mh) : Prop where
  len : h.length ≤ h'.length
  old : ∀ q, m ≤ q → q < h.length → h'[q]? = h[q]?
theorem Up.get {m q : Nat} {h h' : Mh} {o : MO} (u : Up m h h') (hq : m ≤ q) (e : h[q]? = some o) : h'[q]? = some o := (u.old q hq (lt_of e)).trans e
theorem Up.trans {m : Nat} {h h' h'' : Mh} (a : Up m h h') (b : Up m h' h'') : Up m h h'' := ⟨Nat.le_trans a.len b.len, fun q h1 h2 => (b.old q h1 (Nat.lt_of_lt_of_le h2 a.len)).trans (a.old q h1 h2)⟩
theorem Up.rfl {m : Nat} {h : Mh} : Up m h h := ⟨Nat.le_refl _, fun _ _ _ => by rfl⟩
theorem ex_up {m : Nat} {h h' : Mh} (e : Ex h h') : Up m h h' := ⟨e.len, fun q _ l => e.old q l⟩
theorem gr_up {m b : Nat} {h h' : Mh} (e : Gr b h h') (l : b < m) : Up m h h' := ⟨e.len, fun q hq ql => e.old q ql (by omega)⟩
theorem Up.put {m k : Nat} {h : Mh} {o : MO} (l : k < m) : Up m h (h.set k o) := ⟨by simp, fun q hq ql => set_off (by omega)⟩
def CircL (m : Nat) (h : Mh) (n : Nat) (ls : List Ln) : Prop := m ≤ n ∧ ∃ c i g o w, CircX h n ls c i g o w ∧ m ≤ c ∧ m ≤ i ∧ m ≤ g ∧ m ≤ o ∧ m ≤ w
theorem CircL.circ {m : Nat} {h : Mh} {n : Nat} {ls : List Ln} (C : CircL m h n ls) : Circ h n ls := by
  obtain ⟨_, c, i, g, o, w, C, _⟩ := C
  exact ⟨c, i, g, o, w, C⟩
theorem CircL.up {m : Nat} {h h' : Mh} {n : Nat} {ls : List Ln} (C : CircL m h n ls) (u : Up m h h') : CircL m h' n ls := by
  obtain ⟨n0, c, i, g, o, w, C, h1, h2, h3, h4, h5⟩ := C
  exact ⟨n0, c, i, g, o, w, ⟨u.get n0 C.at_, u.get h1 C.c, u.get h2 C.i, u.get h3 C.g, u.get h4 C.o, u.get h5 C.w⟩, h1, h2, h3, h4, h5⟩
theorem CircL.less {m m' : Nat} {h : Mh} {n : Nat} {ls : List Ln} (C : CircL m h n ls) (l : m' ≤ m) : CircL m' h n ls := by
  obtain ⟨n0, c, i, g, o, w, C, h1, h2, h3, h4, h5⟩ := C
  exact ⟨by omega, c, i, g, o, w, C, by omega, by omega, by omega, by omega, by omega⟩
theorem make_ok {ml : Sg → Mh → R (List D)} {sg : Sg} {h : Mh} {ls : List Ln} (W : WF ls) (F : Few ls) (e : ml sg h = .ok [.str (textOf ls)] h) : (mMake (Str.ofString "Circuit") 2 f_Circuit___init__ ml [] sg h).wp fun d h' => d = .ref h.length ∧ Ex h h' ∧ CircL h.length h' h.length ls := by
  rw [w_make, wp_bind, e, wp_ok, if_pos (by simp), wp_bind, List.append_nil]
  have key := init_ok' (h := h ++ [.ins (Str.ofString "Circuit") []]) (n := h.length) W F at_end
  revert key
  generalize f_Circuit___init__ [.ref h.length, .str (textOf ls)] (h ++ [.ins (Str.ofString "Circuit") []]) = r
  intro key
  refine key.mono fun d h' hh => ?_
  obtain ⟨ed, ⟨c, i, g, o, w, C, h1, h2, h3, h4, h5⟩, G⟩ := hh
  subst ed
  have l1 : (h ++ [MO.ins (Str.ofString "Circuit") []]).length = h.length + 1 := by simp
  have gl := G.len
  rw [l1] at h1 h2 h3 h4 h5 gl
  rw [wp_ok]
  refine ⟨rfl, ⟨by omega, fun q ql => ?_⟩, Nat.le_refl _, c, i, g, o, w, C, by omega, by omega, by omega, by omega, by omega⟩
  rw [G.old q (by omega) (by omega), List.getElem?_append_left ql]
def KOk (m : Nat) (h : Mh) (x : D) : Prop := ∃ n lr ls, x = .tup [.ref n, .ref lr, .str (textOf ls)] ∧ CircL m h n ls ∧ h[lr]? = some (.lst (ls.map Ln.d)) ∧ m ≤ lr ∧ WF ls ∧ Few ls
theorem KOk.up {m : Nat} {h h' : Mh} {x : D} (k : KOk m h x) (u : Up m h h') : KOk m h' x := by
  obtain ⟨n, lr, ls, e, C, hl, l0, W, F⟩ := k
  exact ⟨n, lr, ls, e, C.up u, u.get l0 hl, l0, W, F⟩
structure LS (h : Mh) (b kp m : Nat) (xs : List D) : Prop where
  B : BagOk h b
  k : h[kp]? = some (.lst xs)
  ok : ∀ x ∈ xs, KOk m h x
  bk : b < kp
  km : kp < m
  ml : m ≤ h.length
theorem LS.dr {h h' : Mh} {b kp m : Nat} {xs : List D} (L : LS h b kp m xs) (B : BagOk h' b) (G : Gr b h h') : LS h' b kp m xs :=
  have := L.bk
  have := L.km
  ⟨B, G.get (by omega) L.k, fun x hx => (L.ok x hx).up (gr_up G (by omega)), L.bk, L.km, Nat.le_trans L.ml G.len⟩
theorem LS.ex {h h' : Mh} {b kp m : Nat} {xs : List D} (L : LS h b kp m xs) (X : Ex h h') : LS h' b kp m xs := L.dr (L.B.ex X) X.gr
theorem LS.add {h : Mh} {b kp m : Nat} {xs : List D} {x : D} (L : LS h b kp m xs) (k : KOk m h x) : LS (h.set kp (.lst (xs ++ [x]))) b kp m (xs ++ [x]) :=
  have := L.bk
  have := L.km
  ⟨L.B.put L.bk, set_at (lt_of L.k), fun y hy => by
    rcases List.mem_append.mp hy with hy | hy
    · exact (L.ok y hy).up (Up.put L.km)
    · rw [List.mem_singleton.mp hy]; exact k.up (Up.put L.km), L.bk, L.km, by rw [List.length_set]; exact L.ml⟩
theorem mulS {h : Mh} {r : Nat} {s : Str} {k : Int} (e : h[r]? = some (.lst [.str s])) (k0 : 0 ≤ k) (k1 : k ≤ 100) : dMul (.ref r) (.int k) h = .ok (.ref h.length) (h ++ [.lst ((List.replicate k.toNat s).map D.str)]) := by
  unfold dMul
  simp only [e]
  rw [if_pos ⟨by omega, by omega, Nat.le_trans (by simp; omega : [D.str s].length * k.toNat ≤ 1000) line_le⟩]
  have : ∀ n : Nat, (List.replicate n [D.str s]).flatten = (List.replicate n s).map D.str := fun n => by
    induction n with
    | zero => rfl
    | succ n ih => rw [List.replicate_succ, List.flatten_cons, ih, List.replicate_succ]; rfl
  rw [this]
theorem cnt_rep {k s : Str} {n : Nat} : cnt k (List.replicate n s) = if s = k then n else 0 := by
  unfold cnt
  by_cases h : s = k <;> simp [h]
theorem cnt_app {k : Str} {a b : List Str} : cnt k (a ++ b) = cnt k a + cnt k b := by unfold cnt; rw [List.filter_append, List.length_append]
end K10

namespace K10
open PySem PySem.Spec PyProof.Rows L2 Mo
def sgL (b kp : Nat) (x3 x4 x5 x6 x7 x8 x9 x10 : Option D) : Sg := [some (.ref 0), some (.ref b), some (.ref kp), x3, x4, x5, x6, x7, x8, x9, x10]
def PT (j : Nat) (ls : List Ln) : Prop := (j ≤ 1 → WL 30 6 ls ∧ v9 ∉ known ls) ∧ (j = 2 → WL 31 7 ls)
theorem PT.wl {j : Nat} {ls : List Ln} (p : PT j ls) (h : j < 3) : WL 31 7 ls := by
  by_cases c : j ≤ 1
  · exact (p.1 c).1.more (by decide) (by decide)
  · exact p.2 (by omega)
noncomputable def turnB : Sg → Mh → RS := (sSeq (sSet 7 (mCall 1 f__law_text_of (mCons (mVar 5) mNil) []))
    (sSeq (sExpr (mMt "list" dAppend (mVar 2) (mCons (mTup (mCons (mIte (mTest (m2 (dE false) (mVar 6) (mLit (.int 0)))) (mMake (Str.ofString "Circuit") 2 f_Circuit___init__ (mCons (mVar 7) mNil) []) (mMake (Str.ofString "Circuit") 2 f_Circuit___init__ (mCons (mVar 7) mNil) [])) (mCons (mVar 5) (mCons (mVar 7) mNil)))) mNil)))
    (sIf (mTest (m2 (dE true) (mVar 5) (mLst mNil))) (sSet 5 (mIte (mTest (m2 (dE false) (mVar 6) (mLit (.int 0)))) (mCall 2 f__law_other_order (mCons (mVar 1) (mCons (mVar 5) mNil)) []) (mCall 2 f__law_changed (mCons (mVar 1) (mCons (mVar 5) mNil)) []))) sNext)))
theorem turn_ok {h : Mh} {b kp m j lr : Nat} {xs : List D} {ls : List Ln} {x3 x4 x7 x8 x9 x10 : Option D} {Q : D → Mh → Prop} (L : LS h b kp m xs) (xl : xs.length ≤ 100) (j3 : j < 3) (hl : h[lr]? = some (.lst (ls.map Ln.d))) (l0 : m ≤ lr) (p : PT j ls) :
    (turnB (sgL b kp x3 x4 (some (.ref lr)) (some (.int (j : Int))) x7 x8 x9 x10) h).wp (fun sg h' => ∃ lr' ls' x x7, sg = sgL b kp x3 x4 (some (.ref lr')) (some (.int (j : Int))) x7 x8 x9 x10 ∧ LS h' b kp m (xs ++ [x]) ∧ h'[lr']? = some (.lst (ls'.map Ln.d)) ∧ m ≤ lr' ∧ PT (j + 1) ls') Q := by
  have W := p.wl j3
  have wf := W.wf (by decide)
  have few := W.few (by decide)
  have bk := L.bk
  have km := L.km
  have ml := L.ml
  unfold turnB
  refine stepT (fun sg h' => sg = sgL b kp x3 x4 (some (.ref lr)) (some (.int (j : Int))) (some (.str (textOf ls))) x8 x9 x10 ∧ Ex h h') ?_ fun sg h1 ⟨e, X1⟩ => ?_
  · simp [sgL]
    refine (text_of_ok hl wf.nms (by have := W.len; omega)).mono fun d h1 ⟨e, X⟩ => ?_
    subst e
    simp
    exact X
  subst e
  have L1 := L.ex X1
  have hl1 := X1.get hl
  have lx : LenC xs.length := lenC (by omega)
  refine stepT (fun sg h' => ∃ x, sg = sgL b kp x3 x4 (some (.ref lr)) (some (.int (j : Int))) (some (.str (textOf ls))) x8 x9 x10 ∧ LS h' b kp m (xs ++ [x]) ∧ h'[lr]? = some (.lst (ls.map Ln.d))) ?_ fun sg h2 ⟨x, e, L2, hl2⟩ => ?_
  · have mk : ∀ sg : Sg, sg[7]? = some (some (.str (textOf ls))) → (mMake (Str.ofString "Circuit") 2 f_Circuit___init__ (mCons (mVar 7) mNil) [] sg h1).wp fun d h' => d = .ref h1.length ∧ Ex h1 h' ∧ CircL h1.length h' h1.length ls := fun sg e => make_ok wf few (by
      unfold mCons mVar mNil
      rw [e]; rfl)
    have mk2 : (mIte (mTest (m2 (dE false) (mVar 6) (mLit (.int 0)))) (mMake (Str.ofString "Circuit") 2 f_Circuit___init__ (mCons (mVar 7) mNil) []) (mMake (Str.ofString "Circuit") 2 f_Circuit___init__ (mCons (mVar 7) mNil) []) (sgL b kp x3 x4 (some (.ref lr)) (some (.int (j : Int))) (some (.str (textOf ls))) x8 x9 x10) h1).wp fun d h' => d = .ref h1.length ∧ Ex h1 h' ∧ CircL h1.length h' h1.length ls := by
      rw [w_ite, wp_bind, w_test, wp_bind, w_m2, wp_bind, w_var]
      simp only [sgL, List.getElem?_cons_succ, List.getElem?_cons_zero, wp_ok, w_lit, wp_bind, eq_ii]
      by_cases c : (j : Int) = 0
      · rw [if_pos (decide_eq_true c)]; exact mk _ rfl
      · rw [if_neg (by simpa using c)]; exact mk _ rfl
    rw [w_expr, wp_th, w_mt, wp_bind, w_var]
    simp only [sgL, List.getElem?_cons_succ, List.getElem?_cons_zero, wp_ok, l_isTy, L1.k]
    rw [if_pos (by rfl), wp_bind, w_cons, wp_bind, w_tup, w_cons, wp_bind]
    refine mk2.mono fun d h2 ⟨e, X2, C2⟩ => ?_
    subst e
    have L2 := L1.ex X2
    simp [L2.k, lx]
    have l1 := X1.len
    exact ⟨⟨_, L2.add ⟨h1.length, lr, ls, rfl, C2.less (by omega), X2.get hl1, l0, wf, few⟩⟩, by rw [set_off (by omega)]; exact X2.get hl1⟩
  subst e
  rw [w_if, wp_th, w_test, wp_bind, w_m2, wp_bind, w_var]
  simp only [sgL, List.getElem?_cons_succ, List.getElem?_cons_zero, wp_ok]
  simp
  refine wp_of (dE_empty (neg := true) (l := ls) (F := Ln.d) (G := Ln.p) (app_get hl2) at_end (fun s _ => pd_ln s) W.good) ?_
  have L3 := L2.ex (h' := h2 ++ [.lst []]) Ex.app
  have hl3 : (h2 ++ [MO.lst []])[lr]? = some (.lst (ls.map Ln.d)) := app_get hl2
  have l2 := L2.ml
  cases hz : ls.isEmpty with
  | true =>
    have e0 : ls = [] := List.isEmpty_iff.mp hz
    simp
    exact ⟨⟨x, L3⟩, ls, hl3, l0, ⟨fun _ => by subst e0; exact ⟨⟨PW.nil, by simp, by simp, by simp [toldBy], by simp [toldBy]⟩, by simp [known]⟩, fun _ => W⟩⟩
  | false =>
    have ne : ls ≠ [] := fun z => by rw [z] at hz; cases hz
    simp
    by_cases c : j = 0
    · subst c
      obtain ⟨W0, v0⟩ := p.1 (by decide)
      simp
      refine (other_ok L3.B hl3 W0 (by decide) (by omega)).mono fun d h4 ⟨r, fs, e, hr, r0, pm, P, B4, G4⟩ => ?_
      subst e
      simp
      exact ⟨⟨x, L3.dr B4 G4⟩, fs, hr, by simp at r0; omega, ⟨fun _ => ⟨W0.perm pm P, fun z => v0 ((known_perm pm).mem_iff.mp z)⟩, fun z => by omega⟩⟩
    · have c' : ¬ ((j : Int) = 0) := by omega
      simp [c]
      by_cases c1 : j = 1
      · obtain ⟨W0, v0⟩ := p.1 (by omega)
        refine (changed_ok L3.B hl3 W0 (by decide) (by omega) ne).mono fun d h4 ⟨r, ms, e, hr, r0, hw, B4, G4⟩ => ?_
        subst e
        simp
        exact ⟨⟨x, L3.dr B4 G4⟩, ms, hr, by simp at r0; omega, ⟨fun z => by omega, fun z => hw v0⟩⟩
      · refine (changed_ok L3.B hl3 W (by decide) (by omega) ne).mono fun d h4 ⟨r, ms, e, hr, r0, hw, B4, G4⟩ => ?_
        subst e
        simp
        exact ⟨⟨x, L3.dr B4 G4⟩, ms, hr, by simp at r0; omega, ⟨fun z => by omega, fun z => by omega⟩⟩
end K10

namespace K10
open PySem PySem.Spec PyProof.Rows L2 Mo
def SL (b : Nat) (h : Mh) (P : List Str → Prop) (d : D) (h' : Mh) : Prop := ∃ r xs, d = .ref r ∧ h'[r]? = some (.lst (xs.map D.str)) ∧ b < r ∧ P xs ∧ BagOk h' b ∧ Gr b h h'
theorem sl_mul {b : Nat} {h : Mh} {sg : Sg} {s : Str} {k : Int} (B : BagOk h b) (h1 : sg[1]? = some (some (.ref b))) (k0 : 0 < k) (k1 : k ≤ 20) : (m2 dMul (mLst (mCons (mLit (.str s)) mNil)) (mCall 2 f__law_draw (mCons (mVar 1) (mCons (mLit (.int k)) mNil)) []) sg h).wp (SL b h fun xs => ∃ n : Nat, (n : Int) < k ∧ xs = List.replicate n s) := by
  have bl := B.lt
  rw [w_m2, wp_bind]
  simp [h1]
  refine (draw_ok (h := h ++ [.lst [.str s]]) (B.ex Ex.app) k0 (by omega)).mono fun d h' hh => ?_
  obtain ⟨q, e, q0, q1, B', G'⟩ := hh
  subst e
  have g := G'.get (by omega) (at_end (h := h) (o := .lst [.str s]))
  refine wp_of (mulS g q0 (by omega)) ⟨h'.length, List.replicate q.toNat s, rfl, at_end, by have := B'.lt; omega, ⟨q.toNat, by omega, rfl⟩, B'.ex Ex.app, (Ex.app.gr.trans G').trans Ex.app.gr⟩
theorem sl_add {b : Nat} {h : Mh} {sg : Sg} {ma mb : Sg → Mh → R D} {P1 P2 : List Str → Prop} (w1 : (ma sg h).wp (SL b h P1)) (w2 : ∀ h1, BagOk h1 b → (mb sg h1).wp (SL b h1 P2)) (l1 : ∀ xs, P1 xs → xs.length ≤ 100) (l2 : ∀ xs, P2 xs → xs.length ≤ 100) : (m2 dAdd ma mb sg h).wp (SL b h fun xs => ∃ a c, P1 a ∧ P2 c ∧ xs = a ++ c) := by
  rw [w_m2, wp_bind]
  refine w1.mono fun d h1 hh => ?_
  obtain ⟨r, xs, e, hr, br, p1, B1, G1⟩ := hh
  subst e
  rw [wp_bind]
  refine (w2 h1 B1).mono fun d h2 hh => ?_
  obtain ⟨q, ys, e, hq, bq, p2, B2, G2⟩ := hh
  subst e
  have hr2 := G2.get (by omega) hr
  have a1 := l1 _ p1
  have a2 := l2 _ p2
  have le : LenE (xs.length + ys.length) := lenE (by omega)
  simp [hr2, hq, le]
  exact ⟨h2.length, xs ++ ys, rfl, by simp, by have := B2.lt; omega, ⟨xs, p1, ys, p2, rfl⟩, B2.ex Ex.app, (G1.trans G2).trans Ex.app.gr⟩
noncomputable def lapB : Sg → Mh → RS := (sSeq (sSet 4 (m2 dAdd (m2 dAdd (m2 dMul (mLst (mCons (mLit (.str (Str.ofString "secret"))) mNil)) (mCall 2 f__law_draw (mCons (mVar 1) (mCons (mLit (.int 4)) mNil)) [])) (m2 dMul (mLst (mCons (mLit (.str (Str.ofString "cell"))) mNil)) (mCall 2 f__law_draw (mCons (mVar 1) (mCons (mLit (.int 4)) mNil)) []))) (m2 dMul (mLst (mCons (mLit (.str (Str.ofString "in"))) mNil)) (mCall 2 f__law_draw (mCons (mVar 1) (mCons (mLit (.int 4)) mNil)) []))))
    (sSeq (sSet 4 (m2 dAdd (m2 dAdd (mVar 4) (m2 dMul (mLst (mCons (mLit (.str (Str.ofString "gate"))) mNil)) (mCall 2 f__law_of (mCons (mVar 1) (mCons (mLst (mCons (mLit (.int 4)) (mCons (mLit (.int 8)) (mCons (mLit (.int 12)) (mCons (mLit (.int 0)) (mCons (mLit (.int 1)) mNil)))))) mNil)) []))) (m2 dMul (mLst (mCons (mLit (.str (Str.ofString "open"))) mNil)) (mCall 2 f__law_draw (mCons (mVar 1) (mCons (mLit (.int 7)) mNil)) []))))
    (sSeq (sSet 5 (mCall 3 f__law_grown (mCons (mVar 1) (mCons (mVar 4) (mCons (mCall 2 f__law_wire_names (mCons (mVar 1) (mCons (mLit (.int 30)) mNil)) []) mNil))) []))
    (sFor (mRange1 (mLit (.int 3))) (gNm 6) turnB))))
theorem sl_gate {b : Nat} {h : Mh} {sg : Sg} (B : BagOk h b) (h1 : sg[1]? = some (some (.ref b))) : (m2 dMul (mLst (mCons (mLit (.str (Str.ofString "gate"))) mNil)) (mCall 2 f__law_of (mCons (mVar 1) (mCons (mLst (mCons (mLit (.int 4)) (mCons (mLit (.int 8)) (mCons (mLit (.int 12)) (mCons (mLit (.int 0)) (mCons (mLit (.int 1)) mNil)))))) mNil)) []) sg h).wp (SL b h fun xs => ∃ n : Nat, n ≤ 12 ∧ xs = List.replicate n (Str.ofString "gate")) := by
  have bl := B.lt
  rw [w_m2, wp_bind]
  simp [h1]
  refine (of_ok (h := h ++ [.lst [.str (Str.ofString "gate")], .lst [.int 4, .int 8, .int 12, .int 0, .int 1]]) (r := h.length + 1) (ds := [.int 4, .int 8, .int 12, .int 0, .int 1]) (B.ex Ex.app) (by simp) (by omega) (by simp) (by simp)).mono fun d h' hh => ?_
  obtain ⟨⟨q, e⟩, B', G'⟩ := hh
  have : ∃ n : Nat, n ≤ 12 ∧ d = .int (n : Int) := by
    have := List.mem_of_getElem? e
    simp at this
    rcases this with rfl | rfl | rfl | rfl | rfl
    · exact ⟨4, by decide, rfl⟩
    · exact ⟨8, by decide, rfl⟩
    · exact ⟨12, by decide, rfl⟩
    · exact ⟨0, by decide, rfl⟩
    · exact ⟨1, by decide, rfl⟩
  obtain ⟨n, n12, rfl⟩ := this
  have g : h'[h.length]? = some (.lst [.str (Str.ofString "gate")]) := G'.get (by omega) (by simp)
  refine wp_of (mulS g (by omega) (by omega)) ⟨h'.length, List.replicate n (Str.ofString "gate"), rfl, by rw [Int.toNat_natCast]; exact at_end, by have := B'.lt; omega, ⟨n, n12, rfl⟩, B'.ex Ex.app, (Ex.app.gr.trans G').trans Ex.app.gr⟩
theorem lap_ok {h : Mh} {b kp m : Nat} {xs : List D} {x3 x4 x5 x6 x7 x8 x9 x10 : Option D} {Q : D → Mh → Prop} (L : LS h b kp m xs) (xl : xs.length ≤ 50) :
    (lapB (sgL b kp x3 x4 x5 x6 x7 x8 x9 x10) h).wp (fun sg h' => ∃ x4 x5 x6 x7 ys, sg = sgL b kp x3 x4 x5 x6 x7 x8 x9 x10 ∧ LS h' b kp m ys ∧ ys.length = xs.length + 3) Q := by
  have bk := L.bk
  have km := L.km
  unfold lapB
  refine stepT (fun sg h' => ∃ r hs, sg = sgL b kp x3 (some (.ref r)) x5 x6 x7 x8 x9 x10 ∧ h'[r]? = some (.lst (hs.map D.str)) ∧ b < r ∧ (hs.length ≤ 9 ∧ (∀ s ∈ hs, s ∈ headsL) ∧ cnt (Str.ofString "open") hs = 0 ∧ cnt (Str.ofString "in") hs ≤ 3) ∧ BagOk h' b ∧ Gr b h h') ?_ fun sg h1 hh => ?_
  · rw [w_set, wp_th]
    refine (sl_add (sl_add (sl_mul L.B rfl (by decide) (by decide)) (fun h1 B1 => sl_mul B1 rfl (by decide) (by decide)) (fun xs ⟨n, hn, e⟩ => by rw [e, List.length_replicate]; omega) (fun xs ⟨n, hn, e⟩ => by rw [e, List.length_replicate]; omega)) (fun h1 B1 => sl_mul B1 rfl (by decide) (by decide)) (fun xs ⟨a, c, ⟨n, hn, e⟩, ⟨n', hn', e'⟩, e2⟩ => by rw [e2, e, e', List.length_append, List.length_replicate, List.length_replicate]; omega) (fun xs ⟨n, hn, e⟩ => by rw [e, List.length_replicate]; omega)).mono fun d h1 hh => ?_
    obtain ⟨r, hs, e, hr, br, ⟨a, c, ⟨a1, a2, ⟨n1, l1, e1⟩, ⟨n2, l2, e2⟩, e3⟩, ⟨n3, l3, e4⟩, e5⟩, B1, G1⟩ := hh
    subst e e1 e2 e3 e4 e5
    simp only [wp_nx, sgL, List.set_cons_succ, List.set_cons_zero]
    refine ⟨r, _, rfl, hr, br, ⟨by simp; omega, fun s hs => ?_, ?_, ?_⟩, B1, G1⟩
    · simp only [List.mem_append, List.mem_replicate] at hs
      rcases hs with (⟨_, rfl⟩ | ⟨_, rfl⟩) | ⟨_, rfl⟩ <;> simp [headsL]
    · rw [cnt_app, cnt_app, cnt_rep, cnt_rep, cnt_rep]; simp
    · rw [cnt_app, cnt_app, cnt_rep, cnt_rep, cnt_rep]; simp; omega
  obtain ⟨r, hs, e, hr, br, ⟨p1, p2, p3, p4⟩, B1, G1⟩ := hh
  subst e
  have G1' := G1
  refine stepT (fun sg h' => ∃ r hs, sg = sgL b kp x3 (some (.ref r)) x5 x6 x7 x8 x9 x10 ∧ h'[r]? = some (.lst (hs.map D.str)) ∧ b < r ∧ (hs.length ≤ 27 ∧ (∀ s ∈ hs, s ∈ headsL) ∧ cnt (Str.ofString "open") hs ≤ 6 ∧ cnt (Str.ofString "in") hs ≤ 3) ∧ BagOk h' b ∧ Gr b h h') ?_ fun sg h2 hh => ?_
  · rw [w_set, wp_th]
    have v4 : (mVar 4 (sgL b kp x3 (some (.ref r)) x5 x6 x7 x8 x9 x10) h1).wp (SL b h1 fun xs => xs = hs) := wp_of rfl ⟨r, hs, rfl, hr, br, rfl, B1, Gr.rfl⟩
    refine (sl_add (sl_add v4 (fun h1 B1 => sl_gate B1 rfl) (fun xs e => by rw [e]; omega) (fun xs ⟨n, hn, e⟩ => by rw [e, List.length_replicate]; omega)) (fun h1 B1 => sl_mul B1 rfl (by decide) (by decide)) (fun xs ⟨a, c, e, ⟨n', hn', e'⟩, e2⟩ => by rw [e2, e, e', List.length_append, List.length_replicate]; omega) (fun xs ⟨n, hn, e⟩ => by rw [e, List.length_replicate]; omega)).mono fun d h2 hh => ?_
    obtain ⟨r, ys, e, hr, br, ⟨a, c, ⟨a1, a2, e1, ⟨n2, l2, e2⟩, e3⟩, ⟨n3, l3, e4⟩, e5⟩, B2, G2⟩ := hh
    subst e e1 e2 e3 e4 e5
    simp only [wp_nx, sgL, List.set_cons_succ, List.set_cons_zero]
    refine ⟨r, _, rfl, hr, br, ⟨by simp; omega, fun s hs' => ?_, ?_, ?_⟩, B2, G1.trans G2⟩
    · simp only [List.mem_append, List.mem_replicate] at hs'
      rcases hs' with (hs' | ⟨_, rfl⟩) | ⟨_, rfl⟩
      · exact p2 s hs'
      · simp [headsL]
      · simp [headsL]
    · rw [cnt_app, cnt_app, cnt_rep, cnt_rep, p3]; simp; omega
    · rw [cnt_app, cnt_app, cnt_rep, cnt_rep]; simp; omega
  obtain ⟨r, hs, e, hr, br, ⟨p1, p2, p3, p4⟩, B2, G2⟩ := hh
  subst e
  refine stepT (fun sg h' => ∃ lr ls, sg = sgL b kp x3 (some (.ref r)) (some (.ref lr)) x6 x7 x8 x9 x10 ∧ h'[lr]? = some (.lst (ls.map Ln.d)) ∧ h2.length ≤ lr ∧ WL 30 6 ls ∧ v9 ∉ known ls ∧ BagOk h' b ∧ Gr b h h') ?_ fun sg h3 hh => ?_
  · rw [w_set, wp_th, w_call, wp_bind, w_cons, wp_bind, w_var]
    simp only [sgL, List.getElem?_cons_succ, List.getElem?_cons_zero, wp_ok]
    simp
    refine (names_ok (many := 30) (by decide) B2).mono fun d h3 hh => ?_
    obtain ⟨⟨q, ns, e, hq, q0, nl, nd, nu⟩, B3, G3⟩ := hh
    subst e
    have bl2 := B2.lt
    simp
    refine (grown_ok B3 (G3.get (by omega) hr) hq (by omega) nl nd nu (by omega) p2 p3 p4).mono fun d h4 hh => ?_
    obtain ⟨lr, ls, e, hl, l0, W, v, B4, G4⟩ := hh
    subst e
    have := G3.len
    simp
    exact ⟨ls, hl, by omega, W, v, B4, (G2.trans G3).trans G4⟩
  obtain ⟨lr, ls, e, hl, l0, W, v, B3, G3⟩ := hh
  subst e
  have L3 := L.dr B3 G3
  have ml := L.ml
  have gl := G2.len
  rw [w_for, wp_th]
  have i3 : InR 3 := inR_of (by decide) (by decide)
  simp [i3]
  refine loop (fun j sg h' => ∃ lr ls x6 x7 ys, sg = sgL b kp x3 (some (.ref r)) (some (.ref lr)) x6 x7 x8 x9 x10 ∧ LS h' b kp m ys ∧ ys.length = xs.length + j ∧ h'[lr]? = some (.lst (ls.map Ln.d)) ∧ m ≤ lr ∧ PT j ls) ⟨lr, ls, x6, x7, xs, rfl, L3, rfl, hl, by omega, ⟨fun _ => ⟨W, v⟩, fun z => by omega⟩⟩ (fun j d sg h' e hh => ?_) (fun sg h' hh => ?_)
  · obtain ⟨lr, ls, x6, x7, ys, es, L, yl, hl, l0, p⟩ := hh
    subst es
    have jl : j < 3 := by
      have := (List.getElem?_eq_some_iff.mp e).1
      simpa using this
    have ed : d = .int (j : Int) := by
      simp [List.getElem?_range jl] at e
      exact e.symm
    subst ed
    refine ⟨trivial, _, rfl, ?_⟩
    refine RS.wp.mono (turn_ok (x3 := x3) (x4 := some (.ref r)) (x7 := x7) (x8 := x8) (x9 := x9) (x10 := x10) (Q := Q) L (by omega) jl hl l0 p) (fun sg h' hh => ?_) fun _ _ z => z
    obtain ⟨lr', ls', x, x7, e, L', hl', l0', p'⟩ := hh
    exact ⟨lr', ls', _, x7, _, e, L', by simp; omega, hl', l0', p'⟩
  · obtain ⟨lr, ls, x6, x7, ys, es, L, yl, hl, l0, p⟩ := hh
    exact ⟨trivial, _, _, _, _, ys, es, L, by simpa using yl⟩
end K10

namespace K10
open PySem PySem.Spec PyProof.Rows L2 Mo
theorem text_nil : textOf [] = Str.ofString "" := lS_ext (by rw [lS_text]; decide +kernel)
theorem wf_nil : WF [] := PW.nil.wf (by simp) (by decide)
theorem few_nil : Few [] := ⟨by simp [toldBy], by simp [toldBy]⟩
theorem ins_of {h : Mh} {n : Nat} {ls : List Ln} (C : Circ h n ls) : ∃ fs, insAt (Str.ofString "Circuit") (.ref n) h = some (n, fs) := by
  obtain ⟨c, i, g, o, w, C⟩ := C
  exact ⟨_, by rw [ins_at, C.at_]; exact if_pos rfl⟩
theorem eqO {h : Mh} {n k : Nat} {ls ms : List Ln} (C : Circ h n ls) (C' : Circ h k ms) : dEqO (Str.ofString "Circuit") f_Circuit___eq__ (.ref n) (.ref k) h = .ok (.bl (decide (textOf ls = textOf ms))) h := by
  obtain ⟨fs, e1⟩ := ins_of C
  obtain ⟨gs, e2⟩ := ins_of C'
  obtain ⟨d, h', e, rfl, rfl⟩ := (eq_circ C C').out
  unfold dEqO
  rw [e1]
  dsimp only
  rw [if_pos (.inr (by rw [e2]; rfl)), e]
  rfl
theorem eqNo {h : Mh} {n : Nat} {ls : List Ln} {y : D} {t : String} (C : Circ h n ls) (hy : insAt (Str.ofString "Circuit") y h = none) (ht : tyD y h = some t) : dEqO (Str.ofString "Circuit") f_Circuit___eq__ (.ref n) y h = .ok (.bl false) h := by
  obtain ⟨fs, e1⟩ := ins_of C
  obtain ⟨d, h', e, rfl, rfl⟩ := (eq_no C hy ht).out
  unfold dEqO
  rw [e1]
  dsimp only
  rw [if_pos (.inl (by rw [ht]; rfl)), e]
  rfl
theorem neO {h : Mh} {n k : Nat} {ls ms : List Ln} (C : Circ h n ls) (C' : Circ h k ms) : dNeO (Str.ofString "Circuit") f_Circuit___eq__ (.ref n) (.ref k) h = .ok (.bl (!decide (textOf ls = textOf ms))) h := by
  obtain ⟨fs, e1⟩ := ins_of C
  obtain ⟨gs, e2⟩ := ins_of C'
  obtain ⟨d, h', e, rfl, rfl⟩ := (eq_circ C C').out
  unfold dNeO
  rw [e1]
  dsimp only
  rw [if_pos (.inr (by rw [e2]; rfl)), e]
  rfl
theorem like3 {h : Mh} {r q : Nat} {a b c : Bool} (hr : h[r]? = some (.lst [.bl a, .bl b, .bl c])) (hq : h[q]? = some (.lst [.bl a, .bl b, .bl c])) : Lk 8 h (.ref r) (.ref q) := .lst hr hq rfl (by simp) fun i x y e1 e2 => by
  rw [e1] at e2; cases e2
  have := List.mem_of_getElem? e1
  simp at this
  rcases this with rfl | rfl | rfl <;> exact .bl _
theorem t0 {a b c : D} : atI [a, b, c] 0 = some a := rfl
theorem t1 {a b c : D} : atI [a, b, c] 1 = some b := rfl
theorem t2 {a b c : D} : atI [a, b, c] 2 = some c := rfl
theorem law_wp {ns : List Int} (hl : ns.length ≤ 63) : (f_law [.ref 0] [.fls (ns.map D.int)]).wp fun d h' => d = .bl true := by
  unfold f_law m_law
  rw [w_run]
  refine stepT (fun sg h' => ∃ b, sg = [some (.ref 0), some (.ref b), none, none, none, none, none, none, none, none, none] ∧ BagOk h' b) ?_ fun sg h1 hh => ?_
  · simp [startD, List.replicate]
    refine (bag_ok (h := [.fls (ns.map D.int)]) (r := 0) rfl hl).mono fun d h1 hh => ?_
    obtain ⟨b, e, B, X⟩ := hh
    subst e
    simp
    exact B
  obtain ⟨b, e, B1⟩ := hh
  subst e
  refine stepT (fun sg h' => ∃ kp, sg = sgL b kp none none none none none none none none ∧ LS h' b kp (kp + 1) []) ?_ fun sg h2 hh => ?_
  · simp [sgL]
    exact ⟨B1.ex Ex.app, by simp, by simp, B1.lt, by omega, by simp⟩
  obtain ⟨kp, e, L2⟩ := hh
  subst e
  refine stepT (fun sg h' => ∃ x3 x4 x5 x6 x7 ys, sg = sgL b kp x3 x4 x5 x6 x7 none none none ∧ LS h' b kp (kp + 1) ys ∧ ys.length ≤ 9) ?_ fun sg h3 hh => ?_
  · rw [w_for, wp_th]
    have i3 : InR 3 := inR_of (by decide) (by decide)
    simp [i3]
    refine loop (fun j sg h' => ∃ x3 x4 x5 x6 x7 ys, sg = sgL b kp x3 x4 x5 x6 x7 none none none ∧ LS h' b kp (kp + 1) ys ∧ ys.length ≤ 3 * j) ⟨_, _, _, _, _, _, rfl, L2, by simp⟩ (fun j d sg h' e hh => ?_) (fun sg h' hh => ?_)
    · obtain ⟨x3, x4, x5, x6, x7, ys, es, L, yl⟩ := hh
      subst es
      have jl : j < 3 := by
        have := (List.getElem?_eq_some_iff.mp e).1
        simpa using this
      refine ⟨trivial, _, rfl, ?_⟩
      refine RS.wp.mono (lap_ok (x3 := some d) (x4 := x4) (x5 := x5) (x6 := x6) (x7 := x7) (x8 := none) (x9 := none) (x10 := none) (Q := fun _ _ => False) L (by omega)) (fun sg h' hh => ?_) fun _ _ z => z.elim
      obtain ⟨x4, x5, x6, x7, zs, e, L', zl⟩ := hh
      exact ⟨_, x4, x5, x6, x7, zs, e, L', by omega⟩
    · obtain ⟨x3, x4, x5, x6, x7, ys, es, L, yl⟩ := hh
      exact ⟨trivial, _, _, _, _, _, ys, es, L, by simpa using yl⟩
  obtain ⟨x3, x4, x5, x6, x7, ys, e, L3, yl⟩ := hh
  subst e
  refine stepT (fun sg h' => ∃ ys, sg = sgL b kp x3 x4 x5 x6 x7 none none none ∧ LS h' b kp (kp + 1) ys ∧ 0 < ys.length ∧ ys.length ≤ 10) ?_ fun sg h4 hh => ?_
  · have mk : (mMake (Str.ofString "Circuit") 2 f_Circuit___init__ (mCons (mLit (.str (Str.ofString ""))) mNil) [] (sgL b kp x3 x4 x5 x6 x7 none none none) h3).wp fun d h' => d = .ref h3.length ∧ Ex h3 h' ∧ CircL h3.length h' h3.length [] := make_ok wf_nil few_nil (by rw [text_nil]; rfl)
    have lx : LenC ys.length := lenC (by omega)
    rw [w_expr, wp_th, w_mt, wp_bind, w_var]
    simp only [sgL, List.getElem?_cons_succ, List.getElem?_cons_zero, wp_ok, l_isTy, L3.k]
    rw [if_pos (by rfl), wp_bind, w_cons, wp_bind, w_tup, w_cons, wp_bind]
    refine mk.mono fun d h4 hh => ?_
    obtain ⟨e, X, C⟩ := hh
    subst e
    have L4 := (L3.ex X).ex (h' := h4 ++ [.lst []]) Ex.app
    have ml := L3.ml
    have xl := X.len
    simp [L4.k, lx]
    exact ⟨_, L4.add ⟨h3.length, h4.length, [], by rw [text_nil], (C.less (by omega)).up (ex_up Ex.app), by simp, by omega, wf_nil, few_nil⟩, by simp, by simp; omega⟩
  obtain ⟨ys, e, L4, y0, yl⟩ := hh
  subst e
  refine stepT (fun sg h' => ∃ x5 x7 x8, sg = sgL b kp x3 x4 x5 x6 x7 x8 none none ∧ LS h' b kp (kp + 1) ys) ?_ fun sg h5 hh => ?_
  · rw [w_for, wp_th]
    simp [sgL, L4.k]
    refine loop (fun j sg h' => ∃ x5 x7 x8, sg = sgL b kp x3 x4 x5 x6 x7 x8 none none ∧ LS h' b kp (kp + 1) ys) ⟨_, _, _, rfl, L4⟩ (fun j d sg h' e hh => ?_) (fun sg h' hh => ?_)
    · obtain ⟨x5, x7, x8, es, L⟩ := hh
      subst es
      obtain ⟨n, lr, ls, ed, C, hl, l0, W, F⟩ := L.ok d (List.mem_of_getElem? e)
      subst ed
      refine ⟨srcL_at L.k e, _, rfl, ?_⟩
      have bk := L.bk
      simp [sgL]
      refine (told_so C.circ hl W.len).mono fun d h6 hh => ?_
      obtain ⟨e, X⟩ := hh
      subst e
      have L6 := L.ex X
      simp
      refine (in_so L6.B (C.up (ex_up X)).circ (X.get hl) W).mono fun d h7 hh => ?_
      obtain ⟨e, B7, G7⟩ := hh
      subst e
      simp
      exact L6.dr B7 G7
    · obtain ⟨x5, x7, x8, es, L⟩ := hh
      exact ⟨by have := srcL_fin L.k; simpa using this, x5, x7, x8, es, L⟩
  obtain ⟨x5, x7, x8, e, L5⟩ := hh
  subst e
  refine stepT (fun sg h' => ∃ x3 x9 x10, sg = sgL b kp x3 x4 x5 x6 x7 x8 x9 x10 ∧ LS h' b kp (kp + 1) ys) ?_ fun sg h6 hh => ?_
  · rw [w_for, wp_th]
    have i12 : InR 12 := inR_of (by decide) (by decide)
    simp [i12]
    refine loop (fun j sg h' => ∃ x3 x9 x10, sg = sgL b kp x3 x4 x5 x6 x7 x8 x9 x10 ∧ LS h' b kp (kp + 1) ys) ⟨_, _, _, rfl, L5⟩ (fun j d sg h' e hh => ?_) (fun sg h' hh => ⟨trivial, hh⟩)
    obtain ⟨x3, x9, x10, es, L⟩ := hh
    subst es
    refine ⟨trivial, _, rfl, ?_⟩
    have pick : ∀ h, LS h b kp (kp + 1) ys → (f__law_of [.ref b, .ref kp] h).wp fun d h' => LS h' b kp (kp + 1) ys ∧ ∃ n lr ls, d = .tup [.ref n, .ref lr, .str (textOf ls)] ∧ CircL (kp + 1) h' n ls ∧ WF ls ∧ Few ls := fun h L => by
      have bk := L.bk
      refine (of_ok (ds := ys) L.B L.k (by omega) y0 (by omega)).mono fun d h' hh => ?_
      obtain ⟨⟨k, e⟩, B, G⟩ := hh
      have L' := L.dr B G
      obtain ⟨n, lr, ls, ed, C, hl, l0, W, F⟩ := L'.ok d (List.mem_of_getElem? e)
      exact ⟨L', n, lr, ls, ed, C, W, F⟩
    refine stepT (fun sg h' => ∃ n lr ls n2 lr2 ls2, sg = sgL b kp (some d) x4 x5 x6 x7 x8 (some (.tup [.ref n, .ref lr, .str (textOf ls)])) (some (.tup [.ref n2, .ref lr2, .str (textOf ls2)])) ∧ CircL (kp + 1) h' n ls ∧ WF ls ∧ Few ls ∧ CircL (kp + 1) h' n2 ls2 ∧ LS h' b kp (kp + 1) ys) ?_ fun sg h1 hh => ?_
    · simp [sgL]
      refine (pick _ L).mono fun d1 h1 hh => ?_
      obtain ⟨L1, n, lr, ls, ed, C, W, F⟩ := hh
      subst ed
      have bk := L.bk
      simp
      have bk := L1.bk
      refine (of_ok (ds := ys) L1.B L1.k (by omega) y0 (by omega)).mono fun d2 h2 hh => ?_
      obtain ⟨⟨k, e⟩, B, G⟩ := hh
      have L2 := L1.dr B G
      obtain ⟨n2, lr2, ls2, ed, C2, hl2, l02, W2, F2⟩ := L2.ok d2 (List.mem_of_getElem? e)
      subst ed
      simp
      refine ⟨n, lr, ls, n2, lr2, ls2, ⟨⟨rfl, rfl, rfl⟩, rfl, rfl, rfl⟩, C.up (gr_up G (by omega)), W, F, C2, L2⟩
    obtain ⟨n, lr, ls, n2, lr2, ls2, e, C, W, F, C2, L1⟩ := hh
    subst e
    have mk : (mMake (Str.ofString "Circuit") 2 f_Circuit___init__ (mCons (m2 dIx (mVar 9) (mLit (.int 2))) mNil) [] (sgL b kp (some d) x4 x5 x6 x7 x8 (some (.tup [.ref n, .ref lr, .str (textOf ls)])) (some (.tup [.ref n2, .ref lr2, .str (textOf ls2)]))) h1).wp fun d h' => d = .ref h1.length ∧ Ex h1 h' ∧ CircL h1.length h' h1.length ls := make_ok W F rfl
    rw [w_if, wp_th, w_notT, wp_bind, w_tru, wp_bind, w_call, wp_bind, w_cons, wp_bind, w_lst, w_cons, wp_bind]
    have q1 : (m2 (dEqO (Str.ofString "Circuit") f_Circuit___eq__) (m2 dIx (mVar 9) (mLit (.int 0))) (m2 dIx (mVar 10) (mLit (.int 0))) (sgL b kp (some d) x4 x5 x6 x7 x8 (some (.tup [.ref n, .ref lr, .str (textOf ls)])) (some (.tup [.ref n2, .ref lr2, .str (textOf ls2)]))) h1).wp fun d h' => d = .bl (decide (textOf ls = textOf ls2)) ∧ h' = h1 := by
      simp [sgL, t0, eqO C.circ C2.circ]
    have q2 : (m2 (dNeO (Str.ofString "Circuit") f_Circuit___eq__) (m2 dIx (mVar 9) (mLit (.int 0))) (m2 dIx (mVar 10) (mLit (.int 0))) (sgL b kp (some d) x4 x5 x6 x7 x8 (some (.tup [.ref n, .ref lr, .str (textOf ls)])) (some (.tup [.ref n2, .ref lr2, .str (textOf ls2)]))) h1).wp fun d h' => d = .bl (!decide (textOf ls = textOf ls2)) ∧ h' = h1 := by
      simp [sgL, t0, neO C.circ C2.circ]
    refine q1.mono fun d1 h1' hh => ?_
    obtain ⟨e1, e2⟩ := hh
    subst e1 e2
    rw [wp_bind, w_cons, wp_bind]
    refine q2.mono fun d1 h1'' hh => ?_
    obtain ⟨e1, e2⟩ := hh
    subst e1 e2
    rw [wp_bind, w_cons, wp_bind, w_m2, wp_bind]
    refine mk.mono fun d1 h2 hh => ?_
    obtain ⟨e1, X, C3⟩ := hh
    subst e1
    have L2 := L1.ex X
    have eC := eqO C3.circ (C.up (ex_up X)).circ
    simp [sgL, t0, t2, eC]
    refine (like_ok 8 _ _ _ ?_).mono fun d h' hh => ?_
    · exact like3 (a := decide (textOf ls = textOf ls2)) (b := !decide (textOf ls = textOf ls2)) (c := true) (by simp) (by simp)
    · obtain ⟨e, X'⟩ := hh
      subst e
      simp
      exact L2.ex (Ex.app.trans X')
  obtain ⟨x3, x9, x10, e, L6⟩ := hh
  subst e
  have h0 : ys[0]? = some ys[0] := List.getElem?_eq_getElem y0
  obtain ⟨n, lr, ls, ed, C, hl', l0, W, F⟩ := L6.ok _ (List.mem_of_getElem? h0)
  have ix : atI ys 0 = some (.tup [.ref n, .ref lr, .str (textOf ls)]) := by
    rw [← ed]; simp [atI, ixN, y0]
  have e1 := eqNo (y := .str (textOf ls)) (t := "str") C.circ rfl rfl
  have e2 := eqNo (y := .non) (t := "NoneType") C.circ rfl rfl
  have e3 := eqNo (y := .ref lr) (t := "list") C.circ (by rw [ins_at, hl']) (by simp only [tyD, hl'])
  rw [w_ret, wp_th]
  simp [sgL, L6.k, ix, t0, t1, t2, e1, e2, e3]
  refine (like_ok 8 _ _ _ ?_).mono fun d h' hh => ?_
  · exact like3 (a := false) (b := false) (c := false) (by simp) (by simp)
  · rw [wp_rt]; exact hh.1
end K10

namespace K10
open PySem PySem.Spec PyProof.Rows L2 Mo
theorem law_true : ∀ ns : List Int, ns.length ≤ 63 → ∃ h', f_law [.ref 0] [.fls (ns.map D.int)] = .ok (.bl true) h' := fun ns hl => by
  obtain ⟨d, h', e, rfl⟩ := (law_wp hl).out
  exact ⟨h', e⟩
theorem all_mk {l : PySem.W.OpenLaw} {w : World} {K : PySem.W.Frag} {h : Heap} {mg : Str → Option Value} {fa : Addr} (X : K.In h) (G : h.Ns mainGlobals mg) (hfa : mg "law" = some (.ref fa)) (ht : ∀ ns : List Int, ns.length ≤ 63 → ∃ h', f_law [.ref 0] [.fls (ns.map D.int)] = .ok (.bl true) h')
    {C0 : Addr} (aC0 : PySem.W.nsIn K mainGlobals "Circuit" = some (some (.ref C0))) (pg0 : PySem.W.plainGet K C0 Str.empty = true) (hd0 : PySem.W.hasDictIn K C0 = true) (po0 : PySem.W.plainOver K C0 = true) (sa0 : PySem.W.findIn K (.ref C0) "__setattr__" = some (some (.builtin "object.__setattr__")))
    (nf0_0 : PySem.W.findIn K (.ref C0) "_cells" = some none)
    (nf0_1 : PySem.W.findIn K (.ref C0) "_gates" = some none)
    (nf0_2 : PySem.W.findIn K (.ref C0) "_ins" = some none)
    (nf0_3 : PySem.W.findIn K (.ref C0) "_kinds" = some none)
    (nf0_4 : PySem.W.findIn K (.ref C0) "_opens" = some none)
    (nf0_5 : PySem.W.findIn K (.ref C0) "_text" = some none)
    (ha0 : PySem.W.findIn K (.ref C0) "__class__" = some (some (.builtin "object.__class__"))) (hn0 : PySem.W.specialIn K (.builtin "object.__class__") "__get__" = some (some (.builtin "getset_descriptor.__get__"))) (htk0 : PySem.W.takesIn K (.builtin "object.__class__") = some true) (hm0 : PySem.W.mroIn K C0 (.type "object") = some true) (ic0 : PySem.W.isClsIn K C0 = true) (tc0 : PySem.W.typeIn K (.ref C0) = some (.type "type"))
    (ne0 : PySem.W.findIn K (.ref C0) "__ne__" = some (some (.builtin "object.__ne__")))
    (mk0 : PySem.W.makesIn K C0 = true) (kc0 : PySem.W.keepIn K (.ref C0) = true)
    {f0 : Addr} {od0 an0 : Option Addr} {sl0 : Array (Option Value)} {oc0 kV0 dc0 pm0 cd0 ct0 : Value}
    (a0 : PySem.W.findIn K (.ref C0) "__eq__" = some (some (.ref f0))) (i0 : PySem.W.isFn K (.ref f0) = true) (l0 : K.lookup f0 = some ⟨oc0, od0, .func (PySem.W.fnOf "__eq__" "Circuit.__eq__" (defArgs s_Circuit___eq__) (defBody s_Circuit___eq__) (defScope s_Circuit___eq__) .none kV0 dc0 pm0 an0 cd0 ct0), sl0⟩) (c0 : PySem.W.codeIn K cd0 "Circuit.__eq__" = true) (k0 : PySem.W.keepIn K (.ref f0) = true)
    {f1 : Addr} {od1 an1 : Option Addr} {sl1 : Array (Option Value)} {oc1 kV1 dc1 pm1 cd1 ct1 : Value}
    (a1 : PySem.W.nsIn K mainGlobals "_check_many" = some (some (.ref f1))) (l1 : K.lookup f1 = some ⟨oc1, od1, .func (PySem.W.fnOf "_check_many" "_check_many" (defArgs s__check_many) (defBody s__check_many) (defScope s__check_many) .none kV1 dc1 pm1 an1 cd1 ct1), sl1⟩) (c1 : PySem.W.codeIn K cd1 "_check_many" = true) (k1 : PySem.W.keepIn K (.ref f1) = true)
    {f2 : Addr} {od2 an2 : Option Addr} {sl2 : Array (Option Value)} {oc2 kV2 dc2 pm2 cd2 ct2 : Value}
    (a2 : PySem.W.nsIn K mainGlobals "_check_from_wires" = some (some (.ref f2))) (l2 : K.lookup f2 = some ⟨oc2, od2, .func (PySem.W.fnOf "_check_from_wires" "_check_from_wires" (defArgs s__check_from_wires) (defBody s__check_from_wires) (defScope s__check_from_wires) .none kV2 dc2 pm2 an2 cd2 ct2), sl2⟩) (c2 : PySem.W.codeIn K cd2 "_check_from_wires" = true) (k2 : PySem.W.keepIn K (.ref f2) = true)
    {f3 : Addr} {od3 an3 : Option Addr} {sl3 : Array (Option Value)} {oc3 kV3 dc3 pm3 cd3 ct3 : Value}
    (a3 : PySem.W.nsIn K mainGlobals "is_letter_run" = some (some (.ref f3))) (l3 : K.lookup f3 = some ⟨oc3, od3, .func (PySem.W.fnOf "is_letter_run" "is_letter_run" (defArgs s_is_letter_run) (defBody s_is_letter_run) (defScope s_is_letter_run) .none kV3 dc3 pm3 an3 cd3 ct3), sl3⟩) (c3 : PySem.W.codeIn K cd3 "is_letter_run" = true) (k3 : PySem.W.keepIn K (.ref f3) = true)
    {f4 : Addr} {od4 an4 : Option Addr} {sl4 : Array (Option Value)} {oc4 kV4 dc4 pm4 cd4 ct4 : Value}
    (a4 : PySem.W.nsIn K mainGlobals "is_name" = some (some (.ref f4))) (l4 : K.lookup f4 = some ⟨oc4, od4, .func (PySem.W.fnOf "is_name" "is_name" (defArgs s_is_name) (defBody s_is_name) (defScope s_is_name) .none kV4 dc4 pm4 an4 cd4 ct4), sl4⟩) (c4 : PySem.W.codeIn K cd4 "is_name" = true) (k4 : PySem.W.keepIn K (.ref f4) = true)
    {f5 : Addr} {od5 an5 : Option Addr} {sl5 : Array (Option Value)} {oc5 kV5 dc5 pm5 cd5 ct5 : Value}
    (a5 : PySem.W.nsIn K mainGlobals "wire_name" = some (some (.ref f5))) (l5 : K.lookup f5 = some ⟨oc5, od5, .func (PySem.W.fnOf "wire_name" "wire_name" (defArgs s_wire_name) (defBody s_wire_name) (defScope s_wire_name) .none kV5 dc5 pm5 an5 cd5 ct5), sl5⟩) (c5 : PySem.W.codeIn K cd5 "wire_name" = true) (k5 : PySem.W.keepIn K (.ref f5) = true)
    {f6 : Addr} {od6 an6 : Option Addr} {sl6 : Array (Option Value)} {oc6 kV6 dc6 pm6 cd6 ct6 : Value}
    (a6 : PySem.W.nsIn K mainGlobals "_fault_of" = some (some (.ref f6))) (l6 : K.lookup f6 = some ⟨oc6, od6, .func (PySem.W.fnOf "_fault_of" "_fault_of" (defArgs s__fault_of) (defBody s__fault_of) (defScope s__fault_of) .none kV6 dc6 pm6 an6 cd6 ct6), sl6⟩) (c6 : PySem.W.codeIn K cd6 "_fault_of" = true) (k6 : PySem.W.keepIn K (.ref f6) = true)
    {f7 : Addr} {od7 an7 : Option Addr} {sl7 : Array (Option Value)} {oc7 kV7 dc7 pm7 cd7 ct7 : Value}
    (a7 : PySem.W.nsIn K mainGlobals "gate_of" = some (some (.ref f7))) (l7 : K.lookup f7 = some ⟨oc7, od7, .func (PySem.W.fnOf "gate_of" "gate_of" (defArgs s_gate_of) (defBody s_gate_of) (defScope s_gate_of) .none kV7 dc7 pm7 an7 cd7 ct7), sl7⟩) (c7 : PySem.W.codeIn K cd7 "gate_of" = true) (k7 : PySem.W.keepIn K (.ref f7) = true)
    {f8 : Addr} {od8 an8 : Option Addr} {sl8 : Array (Option Value)} {oc8 kV8 dc8 pm8 cd8 ct8 : Value}
    (a8 : PySem.W.nsIn K mainGlobals "read_by" = some (some (.ref f8))) (l8 : K.lookup f8 = some ⟨oc8, od8, .func (PySem.W.fnOf "read_by" "read_by" (defArgs s_read_by) (defBody s_read_by) (defScope s_read_by) .none kV8 dc8 pm8 an8 cd8 ct8), sl8⟩) (c8 : PySem.W.codeIn K cd8 "read_by" = true) (k8 : PySem.W.keepIn K (.ref f8) = true)
    {f9 : Addr} {od9 an9 : Option Addr} {sl9 : Array (Option Value)} {oc9 kV9 dc9 pm9 cd9 ct9 : Value}
    (a9 : PySem.W.nsIn K mainGlobals "_form_of" = some (some (.ref f9))) (l9 : K.lookup f9 = some ⟨oc9, od9, .func (PySem.W.fnOf "_form_of" "_form_of" (defArgs s__form_of) (defBody s__form_of) (defScope s__form_of) .none kV9 dc9 pm9 an9 cd9 ct9), sl9⟩) (c9 : PySem.W.codeIn K cd9 "_form_of" = true) (k9 : PySem.W.keepIn K (.ref f9) = true)
    {f10 : Addr} {od10 an10 : Option Addr} {sl10 : Array (Option Value)} {oc10 kV10 dc10 pm10 cd10 ct10 : Value}
    (a10 : PySem.W.nsIn K mainGlobals "cut_lines" = some (some (.ref f10))) (l10 : K.lookup f10 = some ⟨oc10, od10, .func (PySem.W.fnOf "cut_lines" "cut_lines" (defArgs s_cut_lines) (defBody s_cut_lines) (defScope s_cut_lines) .none kV10 dc10 pm10 an10 cd10 ct10), sl10⟩) (c10 : PySem.W.codeIn K cd10 "cut_lines" = true) (k10 : PySem.W.keepIn K (.ref f10) = true)
    {f11 : Addr} {od11 an11 : Option Addr} {sl11 : Array (Option Value)} {oc11 kV11 dc11 pm11 cd11 ct11 : Value}
    (a11 : PySem.W.nsIn K mainGlobals "_forms_in" = some (some (.ref f11))) (l11 : K.lookup f11 = some ⟨oc11, od11, .func (PySem.W.fnOf "_forms_in" "_forms_in" (defArgs s__forms_in) (defBody s__forms_in) (defScope s__forms_in) .none kV11 dc11 pm11 an11 cd11 ct11), sl11⟩) (c11 : PySem.W.codeIn K cd11 "_forms_in" = true) (k11 : PySem.W.keepIn K (.ref f11) = true)
    {f12 : Addr} {od12 an12 : Option Addr} {sl12 : Array (Option Value)} {oc12 kV12 dc12 pm12 cd12 ct12 : Value}
    (a12 : PySem.W.nsIn K mainGlobals "_giver_of" = some (some (.ref f12))) (l12 : K.lookup f12 = some ⟨oc12, od12, .func (PySem.W.fnOf "_giver_of" "_giver_of" (defArgs s__giver_of) (defBody s__giver_of) (defScope s__giver_of) .none kV12 dc12 pm12 an12 cd12 ct12), sl12⟩) (c12 : PySem.W.codeIn K cd12 "_giver_of" = true) (k12 : PySem.W.keepIn K (.ref f12) = true)
    {f13 : Addr} {od13 an13 : Option Addr} {sl13 : Array (Option Value)} {oc13 kV13 dc13 pm13 cd13 ct13 : Value}
    (a13 : PySem.W.nsIn K mainGlobals "_told_by" = some (some (.ref f13))) (l13 : K.lookup f13 = some ⟨oc13, od13, .func (PySem.W.fnOf "_told_by" "_told_by" (defArgs s__told_by) (defBody s__told_by) (defScope s__told_by) .none kV13 dc13 pm13 an13 cd13 ct13), sl13⟩) (c13 : PySem.W.codeIn K cd13 "_told_by" = true) (k13 : PySem.W.keepIn K (.ref f13) = true)
    {f14 : Addr} {od14 an14 : Option Addr} {sl14 : Array (Option Value)} {oc14 kV14 dc14 pm14 cd14 ct14 : Value}
    (a14 : PySem.W.findIn K (.ref C0) "__init__" = some (some (.ref f14))) (i14 : PySem.W.isFn K (.ref f14) = true) (l14 : K.lookup f14 = some ⟨oc14, od14, .func (PySem.W.fnOf "__init__" "Circuit.__init__" (defArgs s_Circuit___init__) (defBody s_Circuit___init__) (defScope s_Circuit___init__) .none kV14 dc14 pm14 an14 cd14 ct14), sl14⟩) (c14 : PySem.W.codeIn K cd14 "Circuit.__init__" = true) (k14 : PySem.W.keepIn K (.ref f14) = true)
    {f15 : Addr} {od15 an15 : Option Addr} {sl15 : Array (Option Value)} {oc15 kV15 dc15 pm15 cd15 ct15 : Value}
    (a15 : PySem.W.nsIn K mainGlobals "_law_bag" = some (some (.ref f15))) (l15 : K.lookup f15 = some ⟨oc15, od15, .func (PySem.W.fnOf "_law_bag" "_law_bag" (defArgs s__law_bag) (defBody s__law_bag) (defScope s__law_bag) .none kV15 dc15 pm15 an15 cd15 ct15), sl15⟩) (c15 : PySem.W.codeIn K cd15 "_law_bag" = true) (k15 : PySem.W.keepIn K (.ref f15) = true)
    {f16 : Addr} {od16 an16 : Option Addr} {sl16 : Array (Option Value)} {oc16 kV16 dc16 pm16 cd16 ct16 : Value}
    (a16 : PySem.W.nsIn K mainGlobals "_law_draw" = some (some (.ref f16))) (l16 : K.lookup f16 = some ⟨oc16, od16, .func (PySem.W.fnOf "_law_draw" "_law_draw" (defArgs s__law_draw) (defBody s__law_draw) (defScope s__law_draw) .none kV16 dc16 pm16 an16 cd16 ct16), sl16⟩) (c16 : PySem.W.codeIn K cd16 "_law_draw" = true) (k16 : PySem.W.keepIn K (.ref f16) = true)
    {f17 : Addr} {od17 an17 : Option Addr} {sl17 : Array (Option Value)} {oc17 kV17 dc17 pm17 cd17 ct17 : Value}
    (a17 : PySem.W.nsIn K mainGlobals "_law_of" = some (some (.ref f17))) (l17 : K.lookup f17 = some ⟨oc17, od17, .func (PySem.W.fnOf "_law_of" "_law_of" (defArgs s__law_of) (defBody s__law_of) (defScope s__law_of) .none kV17 dc17 pm17 an17 cd17 ct17), sl17⟩) (c17 : PySem.W.codeIn K cd17 "_law_of" = true) (k17 : PySem.W.keepIn K (.ref f17) = true)
    {f18 : Addr} {od18 an18 : Option Addr} {sl18 : Array (Option Value)} {oc18 kV18 dc18 pm18 cd18 ct18 : Value}
    (a18 : PySem.W.nsIn K mainGlobals "_law_changed" = some (some (.ref f18))) (l18 : K.lookup f18 = some ⟨oc18, od18, .func (PySem.W.fnOf "_law_changed" "_law_changed" (defArgs s__law_changed) (defBody s__law_changed) (defScope s__law_changed) .none kV18 dc18 pm18 an18 cd18 ct18), sl18⟩) (c18 : PySem.W.codeIn K cd18 "_law_changed" = true) (k18 : PySem.W.keepIn K (.ref f18) = true)
    {f19 : Addr} {od19 an19 : Option Addr} {sl19 : Array (Option Value)} {oc19 kV19 dc19 pm19 cd19 ct19 : Value}
    (a19 : PySem.W.nsIn K mainGlobals "_law_grown" = some (some (.ref f19))) (l19 : K.lookup f19 = some ⟨oc19, od19, .func (PySem.W.fnOf "_law_grown" "_law_grown" (defArgs s__law_grown) (defBody s__law_grown) (defScope s__law_grown) .none kV19 dc19 pm19 an19 cd19 ct19), sl19⟩) (c19 : PySem.W.codeIn K cd19 "_law_grown" = true) (k19 : PySem.W.keepIn K (.ref f19) = true)
    {f20 : Addr} {od20 an20 : Option Addr} {sl20 : Array (Option Value)} {oc20 kV20 dc20 pm20 cd20 ct20 : Value}
    (a20 : PySem.W.findIn K (.ref C0) "__contains__" = some (some (.ref f20))) (i20 : PySem.W.isFn K (.ref f20) = true) (l20 : K.lookup f20 = some ⟨oc20, od20, .func (PySem.W.fnOf "__contains__" "Circuit.__contains__" (defArgs s_Circuit___contains__) (defBody s_Circuit___contains__) (defScope s_Circuit___contains__) .none kV20 dc20 pm20 an20 cd20 ct20), sl20⟩) (c20 : PySem.W.codeIn K cd20 "Circuit.__contains__" = true) (k20 : PySem.W.keepIn K (.ref f20) = true)
    {f21 : Addr} {od21 an21 : Option Addr} {sl21 : Array (Option Value)} {oc21 kV21 dc21 pm21 cd21 ct21 : Value}
    (a21 : PySem.W.nsIn K mainGlobals "_law_like" = some (some (.ref f21))) (l21 : K.lookup f21 = some ⟨oc21, od21, .func (PySem.W.fnOf "_law_like" "_law_like" (defArgs s__law_like) (defBody s__law_like) (defScope s__law_like) .none kV21 dc21 pm21 an21 cd21 ct21), sl21⟩) (c21 : PySem.W.codeIn K cd21 "_law_like" = true) (k21 : PySem.W.keepIn K (.ref f21) = true)
    {f22 : Addr} {od22 an22 : Option Addr} {sl22 : Array (Option Value)} {oc22 kV22 dc22 pm22 cd22 ct22 : Value}
    (a22 : PySem.W.nsIn K mainGlobals "_law_barred" = some (some (.ref f22))) (l22 : K.lookup f22 = some ⟨oc22, od22, .func (PySem.W.fnOf "_law_barred" "_law_barred" (defArgs s__law_barred) (defBody s__law_barred) (defScope s__law_barred) .none kV22 dc22 pm22 an22 cd22 ct22), sl22⟩) (c22 : PySem.W.codeIn K cd22 "_law_barred" = true) (k22 : PySem.W.keepIn K (.ref f22) = true)
    {f23 : Addr} {od23 an23 : Option Addr} {sl23 : Array (Option Value)} {oc23 kV23 dc23 pm23 cd23 ct23 : Value}
    (a23 : PySem.W.nsIn K mainGlobals "_law_is_wire" = some (some (.ref f23))) (l23 : K.lookup f23 = some ⟨oc23, od23, .func (PySem.W.fnOf "_law_is_wire" "_law_is_wire" (defArgs s__law_is_wire) (defBody s__law_is_wire) (defScope s__law_is_wire) .none kV23 dc23 pm23 an23 cd23 ct23), sl23⟩) (c23 : PySem.W.codeIn K cd23 "_law_is_wire" = true) (k23 : PySem.W.keepIn K (.ref f23) = true)
    {f24 : Addr} {od24 an24 : Option Addr} {sl24 : Array (Option Value)} {oc24 kV24 dc24 pm24 cd24 ct24 : Value}
    (a24 : PySem.W.nsIn K mainGlobals "_law_wire_names" = some (some (.ref f24))) (l24 : K.lookup f24 = some ⟨oc24, od24, .func (PySem.W.fnOf "_law_wire_names" "_law_wire_names" (defArgs s__law_wire_names) (defBody s__law_wire_names) (defScope s__law_wire_names) .none kV24 dc24 pm24 an24 cd24 ct24), sl24⟩) (c24 : PySem.W.codeIn K cd24 "_law_wire_names" = true) (k24 : PySem.W.keepIn K (.ref f24) = true)
    {f25 : Addr} {od25 an25 : Option Addr} {sl25 : Array (Option Value)} {oc25 kV25 dc25 pm25 cd25 ct25 : Value}
    (a25 : PySem.W.nsIn K mainGlobals "_law_in_so" = some (some (.ref f25))) (l25 : K.lookup f25 = some ⟨oc25, od25, .func (PySem.W.fnOf "_law_in_so" "_law_in_so" (defArgs s__law_in_so) (defBody s__law_in_so) (defScope s__law_in_so) .none kV25 dc25 pm25 an25 cd25 ct25), sl25⟩) (c25 : PySem.W.codeIn K cd25 "_law_in_so" = true) (k25 : PySem.W.keepIn K (.ref f25) = true)
    {f26 : Addr} {od26 an26 : Option Addr} {sl26 : Array (Option Value)} {oc26 kV26 dc26 pm26 cd26 ct26 : Value}
    (a26 : PySem.W.nsIn K mainGlobals "_law_other_order" = some (some (.ref f26))) (l26 : K.lookup f26 = some ⟨oc26, od26, .func (PySem.W.fnOf "_law_other_order" "_law_other_order" (defArgs s__law_other_order) (defBody s__law_other_order) (defScope s__law_other_order) .none kV26 dc26 pm26 an26 cd26 ct26), sl26⟩) (c26 : PySem.W.codeIn K cd26 "_law_other_order" = true) (k26 : PySem.W.keepIn K (.ref f26) = true)
    {f27 : Addr} {od27 an27 : Option Addr} {sl27 : Array (Option Value)} {oc27 kV27 dc27 pm27 cd27 ct27 : Value}
    (a27 : PySem.W.nsIn K mainGlobals "_law_wire_line" = some (some (.ref f27))) (l27 : K.lookup f27 = some ⟨oc27, od27, .func (PySem.W.fnOf "_law_wire_line" "_law_wire_line" (defArgs s__law_wire_line) (defBody s__law_wire_line) (defScope s__law_wire_line) .none kV27 dc27 pm27 an27 cd27 ct27), sl27⟩) (c27 : PySem.W.codeIn K cd27 "_law_wire_line" = true) (k27 : PySem.W.keepIn K (.ref f27) = true)
    {f28 : Addr} {od28 an28 : Option Addr} {sl28 : Array (Option Value)} {oc28 kV28 dc28 pm28 cd28 ct28 : Value}
    (a28 : PySem.W.nsIn K mainGlobals "_law_text_of" = some (some (.ref f28))) (l28 : K.lookup f28 = some ⟨oc28, od28, .func (PySem.W.fnOf "_law_text_of" "_law_text_of" (defArgs s__law_text_of) (defBody s__law_text_of) (defScope s__law_text_of) .none kV28 dc28 pm28 an28 cd28 ct28), sl28⟩) (c28 : PySem.W.codeIn K cd28 "_law_text_of" = true) (k28 : PySem.W.keepIn K (.ref f28) = true)
    {f29 : Addr} {od29 an29 : Option Addr} {sl29 : Array (Option Value)} {oc29 kV29 dc29 pm29 cd29 ct29 : Value}
    (a29 : PySem.W.findIn K (.ref C0) "__repr__" = some (some (.ref f29))) (i29 : PySem.W.isFn K (.ref f29) = true) (l29 : K.lookup f29 = some ⟨oc29, od29, .func (PySem.W.fnOf "__repr__" "Circuit.__repr__" (defArgs s_Circuit___repr__) (defBody s_Circuit___repr__) (defScope s_Circuit___repr__) .none kV29 dc29 pm29 an29 cd29 ct29), sl29⟩) (c29 : PySem.W.codeIn K cd29 "Circuit.__repr__" = true) (k29 : PySem.W.keepIn K (.ref f29) = true)
    {f30 : Addr} {od30 an30 : Option Addr} {sl30 : Array (Option Value)} {oc30 kV30 dc30 pm30 cd30 ct30 : Value}
    (a30 : PySem.W.findIn K (.ref C0) "__str__" = some (some (.ref f30))) (i30 : PySem.W.isFn K (.ref f30) = true) (l30 : K.lookup f30 = some ⟨oc30, od30, .func (PySem.W.fnOf "__str__" "Circuit.__str__" (defArgs s_Circuit___str__) (defBody s_Circuit___str__) (defScope s_Circuit___str__) .none kV30 dc30 pm30 an30 cd30 ct30), sl30⟩) (c30 : PySem.W.codeIn K cd30 "Circuit.__str__" = true) (k30 : PySem.W.keepIn K (.ref f30) = true)
    {f31 : Addr} {od31 an31 : Option Addr} {sl31 : Array (Option Value)} {oc31 kV31 dc31 pm31 cd31 ct31 : Value}
    (a31 : PySem.W.findIn K (.ref C0) "cells" = some (some (.ref f31))) (i31 : PySem.W.isFn K (.ref f31) = true) (l31 : K.lookup f31 = some ⟨oc31, od31, .func (PySem.W.fnOf "cells" "Circuit.cells" (defArgs s_Circuit_cells) (defBody s_Circuit_cells) (defScope s_Circuit_cells) .none kV31 dc31 pm31 an31 cd31 ct31), sl31⟩) (c31 : PySem.W.codeIn K cd31 "Circuit.cells" = true) (k31 : PySem.W.keepIn K (.ref f31) = true)
    {f32 : Addr} {od32 an32 : Option Addr} {sl32 : Array (Option Value)} {oc32 kV32 dc32 pm32 cd32 ct32 : Value}
    (a32 : PySem.W.findIn K (.ref C0) "gates" = some (some (.ref f32))) (i32 : PySem.W.isFn K (.ref f32) = true) (l32 : K.lookup f32 = some ⟨oc32, od32, .func (PySem.W.fnOf "gates" "Circuit.gates" (defArgs s_Circuit_gates) (defBody s_Circuit_gates) (defScope s_Circuit_gates) .none kV32 dc32 pm32 an32 cd32 ct32), sl32⟩) (c32 : PySem.W.codeIn K cd32 "Circuit.gates" = true) (k32 : PySem.W.keepIn K (.ref f32) = true)
    {f33 : Addr} {od33 an33 : Option Addr} {sl33 : Array (Option Value)} {oc33 kV33 dc33 pm33 cd33 ct33 : Value}
    (a33 : PySem.W.findIn K (.ref C0) "ins" = some (some (.ref f33))) (i33 : PySem.W.isFn K (.ref f33) = true) (l33 : K.lookup f33 = some ⟨oc33, od33, .func (PySem.W.fnOf "ins" "Circuit.ins" (defArgs s_Circuit_ins) (defBody s_Circuit_ins) (defScope s_Circuit_ins) .none kV33 dc33 pm33 an33 cd33 ct33), sl33⟩) (c33 : PySem.W.codeIn K cd33 "Circuit.ins" = true) (k33 : PySem.W.keepIn K (.ref f33) = true)
    {f34 : Addr} {od34 an34 : Option Addr} {sl34 : Array (Option Value)} {oc34 kV34 dc34 pm34 cd34 ct34 : Value}
    (a34 : PySem.W.findIn K (.ref C0) "opens" = some (some (.ref f34))) (i34 : PySem.W.isFn K (.ref f34) = true) (l34 : K.lookup f34 = some ⟨oc34, od34, .func (PySem.W.fnOf "opens" "Circuit.opens" (defArgs s_Circuit_opens) (defBody s_Circuit_opens) (defScope s_Circuit_opens) .none kV34 dc34 pm34 an34 cd34 ct34), sl34⟩) (c34 : PySem.W.codeIn K cd34 "Circuit.opens" = true) (k34 : PySem.W.keepIn K (.ref f34) = true)
    {f35 : Addr} {od35 an35 : Option Addr} {sl35 : Array (Option Value)} {oc35 kV35 dc35 pm35 cd35 ct35 : Value}
    (a35 : PySem.W.findIn K (.ref C0) "secret_cells" = some (some (.ref f35))) (i35 : PySem.W.isFn K (.ref f35) = true) (l35 : K.lookup f35 = some ⟨oc35, od35, .func (PySem.W.fnOf "secret_cells" "Circuit.secret_cells" (defArgs s_Circuit_secret_cells) (defBody s_Circuit_secret_cells) (defScope s_Circuit_secret_cells) .none kV35 dc35 pm35 an35 cd35 ct35), sl35⟩) (c35 : PySem.W.codeIn K cd35 "Circuit.secret_cells" = true) (k35 : PySem.W.keepIn K (.ref f35) = true)
    {f36 : Addr} {od36 an36 : Option Addr} {sl36 : Array (Option Value)} {oc36 kV36 dc36 pm36 cd36 ct36 : Value}
    (a36 : PySem.W.findIn K (.ref C0) "text" = some (some (.ref f36))) (i36 : PySem.W.isFn K (.ref f36) = true) (l36 : K.lookup f36 = some ⟨oc36, od36, .func (PySem.W.fnOf "text" "Circuit.text" (defArgs s_Circuit_text) (defBody s_Circuit_text) (defScope s_Circuit_text) .none kV36 dc36 pm36 an36 cd36 ct36), sl36⟩) (c36 : PySem.W.codeIn K cd36 "Circuit.text" = true) (k36 : PySem.W.keepIn K (.ref f36) = true)
    {f37 : Addr} {od37 an37 : Option Addr} {sl37 : Array (Option Value)} {oc37 kV37 dc37 pm37 cd37 ct37 : Value}
    (a37 : PySem.W.findIn K (.ref C0) "wires" = some (some (.ref f37))) (i37 : PySem.W.isFn K (.ref f37) = true) (l37 : K.lookup f37 = some ⟨oc37, od37, .func (PySem.W.fnOf "wires" "Circuit.wires" (defArgs s_Circuit_wires) (defBody s_Circuit_wires) (defScope s_Circuit_wires) .none kV37 dc37 pm37 an37 cd37 ct37), sl37⟩) (c37 : PySem.W.codeIn K cd37 "Circuit.wires" = true) (k37 : PySem.W.keepIn K (.ref f37) = true)
    {f38 : Addr} {od38 an38 : Option Addr} {sl38 : Array (Option Value)} {oc38 kV38 dc38 pm38 cd38 ct38 : Value}
    (a38 : PySem.W.nsIn K mainGlobals "_law_told_so" = some (some (.ref f38))) (l38 : K.lookup f38 = some ⟨oc38, od38, .func (PySem.W.fnOf "_law_told_so" "_law_told_so" (defArgs s__law_told_so) (defBody s__law_told_so) (defScope s__law_told_so) .none kV38 dc38 pm38 an38 cd38 ct38), sl38⟩) (c38 : PySem.W.codeIn K cd38 "_law_told_so" = true) (k38 : PySem.W.keepIn K (.ref f38) = true)
    {f39 : Addr} {od39 an39 : Option Addr} {sl39 : Array (Option Value)} {oc39 kV39 dc39 pm39 cd39 ct39 : Value}
    (a39 : PySem.W.nsIn K mainGlobals "law" = some (some (.ref f39))) (l39 : K.lookup f39 = some ⟨oc39, od39, .func (PySem.W.fnOf "law" "law" (defArgs s_law) (defBody s_law) (defScope s_law) .none kV39 dc39 pm39 an39 cd39 ct39), sl39⟩) (c39 : PySem.W.codeIn K cd39 "law" = true) (k39 : PySem.W.keepIn K (.ref f39) = true)
    (z0 : PySem.W.nsIn K mainGlobals "all" = some none)
    (z1 : PySem.W.nsIn K mainGlobals "bool" = some none)
    (z2 : PySem.W.nsIn K mainGlobals "dict" = some none)
    (z3 : PySem.W.nsIn K mainGlobals "enumerate" = some none)
    (z4 : PySem.W.nsIn K mainGlobals "int" = some none)
    (z5 : PySem.W.nsIn K mainGlobals "isinstance" = some none)
    (z6 : PySem.W.nsIn K mainGlobals "len" = some none)
    (z7 : PySem.W.nsIn K mainGlobals "list" = some none)
    (z8 : PySem.W.nsIn K mainGlobals "range" = some none)
    (z9 : PySem.W.nsIn K mainGlobals "repr" = some none)
    (z10 : PySem.W.nsIn K mainGlobals "str" = some none)
    (z11 : PySem.W.nsIn K mainGlobals "tuple" = some none)
    (z12 : PySem.W.nsIn K mainGlobals "zip" = some none)
    {p0 : Addr} {pd0 : Option Addr} {ps0 : Array (Option Value)} {pn0 : Nat} {tk0_0 tk0_1 tk0_2 tk0_3 tk0_4 tk0_5 tk0_6 tk0_7 tk0_8 tk0_9 tk0_10 : Tok} (q0 : PySem.W.nsIn K mainGlobals "CIRCUIT_WORDS" = some (some (.ref p0))) (r0 : K.lookup p0 = some ⟨.type "tuple", pd0, .seq #[.str (Str.ofString "and") tk0_0, .str (Str.ofString "cell") tk0_1, .str (Str.ofString "coin") tk0_2, .str (Str.ofString "from") tk0_3, .str (Str.ofString "in") tk0_4, .str (Str.ofString "not") tk0_5, .str (Str.ofString "open") tk0_6, .str (Str.ofString "out") tk0_7, .str (Str.ofString "piece") tk0_8, .str (Str.ofString "secret") tk0_9, .str (Str.ofString "xor") tk0_10] pn0, ps0⟩)
    {tk1 : Tok} (q1 : PySem.W.nsIn K mainGlobals "LETTERS" = some (some (.str (Str.ofString "abcdefghijklmnopqrstuvwxyz") tk1)))
    {tk2 : Tok} (q2 : PySem.W.nsIn K mainGlobals "MOST_CELLS" = some (some (.int 120 tk2)))
    {tk3 : Tok} (q3 : PySem.W.nsIn K mainGlobals "MOST_GATES" = some (some (.int 4000 tk3)))
    {tk4 : Tok} (q4 : PySem.W.nsIn K mainGlobals "MOST_INS" = some (some (.int 16 tk4)))
    {tk5 : Tok} (q5 : PySem.W.nsIn K mainGlobals "MOST_OPENS" = some (some (.int 8 tk5)))
    {tk6 : Tok} (q6 : PySem.W.nsIn K mainGlobals "MOST_SIGNS" = some (some (.int 8 tk6)))
    {tk7 : Tok} (q7 : PySem.W.nsIn K mainGlobals "RUN_SIGNS" = some (some (.str (Str.ofString "abcdefghijklmnopqrstuvwxyz0123456789") tk7)))
    : ∃ fd : FuncData, (∀ (s : Shared) (v : Value), BindsTo s fd ⟨[v], []⟩ [("script", v)]) ∧ ∀ base : Heap, K.In base → base.Ns mainGlobals mg → FnOk l.prog w K mg base (L2.CX l.prog w) 10 fa fd ["script"] (spLaw K) := by
  have e := hfa.symm.trans (PySem.W.mg_of X G a39)
  cases e
  have F0 := fun_mk (st := s_Circuit___eq__) l0 c0 k0
  have b0 := F0.binds (ps := ["self", "other"]) fun _ _ _ _ _ _ us hl => match us, hl with | [_, _], _ => rfl
  have F1 := fun_mk (st := s__check_many) l1 c1 k1
  have b1 := F1.binds (ps := ["what", "many", "most"]) fun _ _ _ _ _ _ us hl => match us, hl with | [_, _, _], _ => rfl
  have F2 := fun_mk (st := s__check_from_wires) l2 c2 k2
  have b2 := F2.binds (ps := ["forms", "given"]) fun _ _ _ _ _ _ us hl => match us, hl with | [_, _], _ => rfl
  have F3 := fun_mk (st := s_is_letter_run) l3 c3 k3
  have b3 := F3.binds (ps := ["text"]) fun _ _ _ _ _ _ us hl => match us, hl with | [_], _ => rfl
  have F4 := fun_mk (st := s_is_name) l4 c4 k4
  have b4 := F4.binds (ps := ["value"]) fun _ _ _ _ _ _ us hl => match us, hl with | [_], _ => rfl
  have F5 := fun_mk (st := s_wire_name) l5 c5 k5
  have b5 := F5.binds (ps := ["value"]) fun _ _ _ _ _ _ us hl => match us, hl with | [_], _ => rfl
  have F6 := fun_mk (st := s__fault_of) l6 c6 k6
  have b6 := F6.binds (ps := ["form", "given"]) fun _ _ _ _ _ _ us hl => match us, hl with | [_, _], _ => rfl
  have F7 := fun_mk (st := s_gate_of) l7 c7 k7
  have b7 := F7.binds (ps := ["words"]) fun _ _ _ _ _ _ us hl => match us, hl with | [_], _ => rfl
  have F8 := fun_mk (st := s_read_by) l8 c8 k8
  have b8 := F8.binds (ps := ["gate"]) fun _ _ _ _ _ _ us hl => match us, hl with | [_], _ => rfl
  have F9 := fun_mk (st := s__form_of) l9 c9 k9
  have b9 := F9.binds (ps := ["words"]) fun _ _ _ _ _ _ us hl => match us, hl with | [_], _ => rfl
  have F10 := fun_mk (st := s_cut_lines) l10 c10 k10
  have b10 := F10.binds (ps := ["text"]) fun _ _ _ _ _ _ us hl => match us, hl with | [_], _ => rfl
  have F11 := fun_mk (st := s__forms_in) l11 c11 k11
  have b11 := F11.binds (ps := ["text"]) fun _ _ _ _ _ _ us hl => match us, hl with | [_], _ => rfl
  have F12 := fun_mk (st := s__giver_of) l12 c12 k12
  have b12 := F12.binds (ps := ["form"]) fun _ _ _ _ _ _ us hl => match us, hl with | [_], _ => rfl
  have F13 := fun_mk (st := s__told_by) l13 c13 k13
  have b13 := F13.binds (ps := ["forms", "kind"]) fun _ _ _ _ _ _ us hl => match us, hl with | [_, _], _ => rfl
  have F14 := fun_mk (st := s_Circuit___init__) l14 c14 k14
  have b14 := F14.binds (ps := ["self", "text"]) fun _ _ _ _ _ _ us hl => match us, hl with | [_, _], _ => rfl
  have kb14 := Fun_kwi (s0 := "self") (ps := ["text"]) F14 fun _ _ _ _ _ _ _ us hl => match us, hl with | [_], _ => rfl
  have F15 := fun_mk (st := s__law_bag) l15 c15 k15
  have b15 := F15.binds (ps := ["script"]) fun _ _ _ _ _ _ us hl => match us, hl with | [_], _ => rfl
  have F16 := fun_mk (st := s__law_draw) l16 c16 k16
  have b16 := F16.binds (ps := ["bag", "size"]) fun _ _ _ _ _ _ us hl => match us, hl with | [_, _], _ => rfl
  have F17 := fun_mk (st := s__law_of) l17 c17 k17
  have b17 := F17.binds (ps := ["bag", "things"]) fun _ _ _ _ _ _ us hl => match us, hl with | [_, _], _ => rfl
  have F18 := fun_mk (st := s__law_changed) l18 c18 k18
  have b18 := F18.binds (ps := ["bag", "lines"]) fun _ _ _ _ _ _ us hl => match us, hl with | [_, _], _ => rfl
  have F19 := fun_mk (st := s__law_grown) l19 c19 k19
  have b19 := F19.binds (ps := ["bag", "heads", "names"]) fun _ _ _ _ _ _ us hl => match us, hl with | [_, _, _], _ => rfl
  have F20 := fun_mk (st := s_Circuit___contains__) l20 c20 k20
  have b20 := F20.binds (ps := ["self", "value"]) fun _ _ _ _ _ _ us hl => match us, hl with | [_, _], _ => rfl
  have F21 := fun_mk (st := s__law_like) l21 c21 k21
  have b21 := F21.binds (ps := ["found", "due"]) fun _ _ _ _ _ _ us hl => match us, hl with | [_, _], _ => rfl
  have F22 := fun_mk (st := s__law_barred) l22 c22 k22
  have b22 := F22.binds (ps := []) fun _ _ _ _ _ _ us hl => match us, hl with | [], _ => rfl
  have F23 := fun_mk (st := s__law_is_wire) l23 c23 k23
  have b23 := F23.binds (ps := ["piece"]) fun _ _ _ _ _ _ us hl => match us, hl with | [_], _ => rfl
  have F24 := fun_mk (st := s__law_wire_names) l24 c24 k24
  have b24 := F24.binds (ps := ["bag", "many"]) fun _ _ _ _ _ _ us hl => match us, hl with | [_, _], _ => rfl
  have F25 := fun_mk (st := s__law_in_so) l25 c25 k25
  have b25 := F25.binds (ps := ["bag", "made", "lines"]) fun _ _ _ _ _ _ us hl => match us, hl with | [_, _, _], _ => rfl
  have F26 := fun_mk (st := s__law_other_order) l26 c26 k26
  have b26 := F26.binds (ps := ["bag", "lines"]) fun _ _ _ _ _ _ us hl => match us, hl with | [_, _], _ => rfl
  have F27 := fun_mk (st := s__law_wire_line) l27 c27 k27
  have b27 := F27.binds (ps := ["one"]) fun _ _ _ _ _ _ us hl => match us, hl with | [_], _ => rfl
  have F28 := fun_mk (st := s__law_text_of) l28 c28 k28
  have b28 := F28.binds (ps := ["lines"]) fun _ _ _ _ _ _ us hl => match us, hl with | [_], _ => rfl
  have F29 := fun_mk (st := s_Circuit___repr__) l29 c29 k29
  have b29 := F29.binds (ps := ["self"]) fun _ _ _ _ _ _ us hl => match us, hl with | [_], _ => rfl
  have F30 := fun_mk (st := s_Circuit___str__) l30 c30 k30
  have b30 := F30.binds (ps := ["self"]) fun _ _ _ _ _ _ us hl => match us, hl with | [_], _ => rfl
  have F31 := fun_mk (st := s_Circuit_cells) l31 c31 k31
  have b31 := F31.binds (ps := ["self"]) fun _ _ _ _ _ _ us hl => match us, hl with | [_], _ => rfl
  have F32 := fun_mk (st := s_Circuit_gates) l32 c32 k32
  have b32 := F32.binds (ps := ["self"]) fun _ _ _ _ _ _ us hl => match us, hl with | [_], _ => rfl
  have F33 := fun_mk (st := s_Circuit_ins) l33 c33 k33
  have b33 := F33.binds (ps := ["self"]) fun _ _ _ _ _ _ us hl => match us, hl with | [_], _ => rfl
  have F34 := fun_mk (st := s_Circuit_opens) l34 c34 k34
  have b34 := F34.binds (ps := ["self"]) fun _ _ _ _ _ _ us hl => match us, hl with | [_], _ => rfl
  have F35 := fun_mk (st := s_Circuit_secret_cells) l35 c35 k35
  have b35 := F35.binds (ps := ["self"]) fun _ _ _ _ _ _ us hl => match us, hl with | [_], _ => rfl
  have F36 := fun_mk (st := s_Circuit_text) l36 c36 k36
  have b36 := F36.binds (ps := ["self"]) fun _ _ _ _ _ _ us hl => match us, hl with | [_], _ => rfl
  have F37 := fun_mk (st := s_Circuit_wires) l37 c37 k37
  have b37 := F37.binds (ps := ["self"]) fun _ _ _ _ _ _ us hl => match us, hl with | [_], _ => rfl
  have F38 := fun_mk (st := s__law_told_so) l38 c38 k38
  have b38 := F38.binds (ps := ["made", "lines", "given"]) fun _ _ _ _ _ _ us hl => match us, hl with | [_, _, _], _ => rfl
  have F39 := fun_mk (st := s_law) l39 c39 k39
  have b39 := F39.binds (ps := ["script"]) fun _ _ _ _ _ _ us hl => match us, hl with | [_], _ => rfl
  let T : Txt K mg := ⟨PySem.W.mg_none_of X G z0,
    PySem.W.mg_none_of X G z1,
    PySem.W.mg_none_of X G z2,
    PySem.W.mg_none_of X G z3,
    PySem.W.mg_none_of X G z4,
    PySem.W.mg_none_of X G z5,
    PySem.W.mg_none_of X G z6,
    PySem.W.mg_none_of X G z7,
    PySem.W.mg_none_of X G z8,
    PySem.W.mg_none_of X G z9,
    PySem.W.mg_none_of X G z10,
    PySem.W.mg_none_of X G z11,
    PySem.W.mg_none_of X G z12,
    C0, PySem.W.mg_of X G aC0, ⟨pg0, hd0, po0, sa0⟩,
    nf0_0,
    nf0_1,
    nf0_2,
    nf0_3,
    nf0_4,
    nf0_5,
    ⟨⟨pg0, hd0, po0, sa0⟩, ha0, hn0, htk0, hm0, if_pos (by simp)⟩, ic0, tc0,
    ne0, hm0,
    _, _, F0, b0, a0, i0,
    _, _, F1, PySem.W.mg_of X G a1, b1,
    _, _, F2, PySem.W.mg_of X G a2, b2,
    _, _, F3, PySem.W.mg_of X G a3, b3,
    _, _, F4, PySem.W.mg_of X G a4, b4,
    _, _, F5, PySem.W.mg_of X G a5, b5,
    _, _, F6, PySem.W.mg_of X G a6, b6,
    _, _, F7, PySem.W.mg_of X G a7, b7,
    _, _, F8, PySem.W.mg_of X G a8, b8,
    _, _, F9, PySem.W.mg_of X G a9, b9,
    _, _, F10, PySem.W.mg_of X G a10, b10,
    _, _, F11, PySem.W.mg_of X G a11, b11,
    _, _, F12, PySem.W.mg_of X G a12, b12,
    _, _, F13, PySem.W.mg_of X G a13, b13,
    _, _, F14, b14, a14, i14,
    _, _, F15, PySem.W.mg_of X G a15, b15,
    _, _, F16, PySem.W.mg_of X G a16, b16,
    _, _, F17, PySem.W.mg_of X G a17, b17,
    _, _, F18, PySem.W.mg_of X G a18, b18,
    _, _, F19, PySem.W.mg_of X G a19, b19,
    _, _, F20, b20, a20, i20,
    _, _, F21, PySem.W.mg_of X G a21, b21,
    _, _, F22, PySem.W.mg_of X G a22, b22,
    _, _, F23, PySem.W.mg_of X G a23, b23,
    _, _, F24, PySem.W.mg_of X G a24, b24,
    _, _, F25, PySem.W.mg_of X G a25, b25,
    _, _, F26, PySem.W.mg_of X G a26, b26,
    _, _, F27, PySem.W.mg_of X G a27, b27,
    _, _, F28, PySem.W.mg_of X G a28, b28,
    _, _, F29, b29, a29, i29,
    _, _, F30, b30, a30, i30,
    _, _, F31, b31, a31, i31,
    ⟨a31, i31, k31⟩,
    _, _, F32, b32, a32, i32,
    ⟨a32, i32, k32⟩,
    _, _, F33, b33, a33, i33,
    ⟨a33, i33, k33⟩,
    _, _, F34, b34, a34, i34,
    ⟨a34, i34, k34⟩,
    _, _, F35, b35, a35, i35,
    ⟨a35, i35, k35⟩,
    _, _, F36, b36, a36, i36,
    ⟨a36, i36, k36⟩,
    _, _, F37, b37, a37, i37,
    ⟨a37, i37, k37⟩,
    _, _, F38, PySem.W.mg_of X G a38, b38,
    _, _, F39, PySem.W.mg_of X G a39, b39,
    ⟨mk0, a14, i14, kc0⟩,
    kb14,
    .ref p0, .ref p0, PySem.W.mg_of X G q0, rfl, fun ρ H => .kt (vs := [.str (Str.ofString "and"), .str (Str.ofString "cell"), .str (Str.ofString "coin"), .str (Str.ofString "from"), .str (Str.ofString "in"), .str (Str.ofString "not"), .str (Str.ofString "open"), .str (Str.ofString "out"), .str (Str.ofString "piece"), .str (Str.ofString "secret"), .str (Str.ofString "xor")]) (.inr ⟨_, _, _, r0, rfl, rfl, (by show 11 ≤ sizeLine; decide), (.cons ⟨_, rfl⟩ (.cons ⟨_, rfl⟩ (.cons ⟨_, rfl⟩ (.cons ⟨_, rfl⟩ (.cons ⟨_, rfl⟩ (.cons ⟨_, rfl⟩ (.cons ⟨_, rfl⟩ (.cons ⟨_, rfl⟩ (.cons ⟨_, rfl⟩ (.cons ⟨_, rfl⟩ (.cons ⟨_, rfl⟩ .nil)))))))))))⟩) (.cons (.str _) (.cons (.str _) (.cons (.str _) (.cons (.str _) (.cons (.str _) (.cons (.str _) (.cons (.str _) (.cons (.str _) (.cons (.str _) (.cons (.str _) (.cons (.str _) .nil))))))))))),
    .str (Str.ofString "abcdefghijklmnopqrstuvwxyz"), .str (Str.ofString "abcdefghijklmnopqrstuvwxyz") tk1, PySem.W.mg_of X G q1, ⟨_, rfl⟩, fun _ _ => .str _,
    .int 120, .int 120 tk2, PySem.W.mg_of X G q2, ⟨_, rfl⟩, fun _ _ => .int _,
    .int 4000, .int 4000 tk3, PySem.W.mg_of X G q3, ⟨_, rfl⟩, fun _ _ => .int _,
    .int 16, .int 16 tk4, PySem.W.mg_of X G q4, ⟨_, rfl⟩, fun _ _ => .int _,
    .int 8, .int 8 tk5, PySem.W.mg_of X G q5, ⟨_, rfl⟩, fun _ _ => .int _,
    .int 8, .int 8 tk6, PySem.W.mg_of X G q6, ⟨_, rfl⟩, fun _ _ => .int _,
    .str (Str.ofString "abcdefghijklmnopqrstuvwxyz0123456789"), .str (Str.ofString "abcdefghijklmnopqrstuvwxyz0123456789") tk7, PySem.W.mg_of X G q7, ⟨_, rfl⟩, fun _ _ => .str _⟩
  exact ⟨_, fun s v => .of_eq rfl, fun base _ _ => law_of (ok_law (P := l.prog) (w := w) (base := base) T) ht⟩
end K10
open PySem PySem.W PyProof.Rows
set_option maxHeartbeats 0 in
theorem PySem.Challenge.cw_needleblind_k10_circuit_texts_there_and_holds : PySem.Challenge.rw_needleblind_k10_circuit_texts_there_and.Holds := by
  w_on; o_law; k_head; (case hw => w_witness2)
  k_fill
  refine L2.walk_of (l := PySem.Challenge.rw_needleblind_k10_circuit_texts_there_and) (n := 63) (k := 10) (x := "script") (CX := fun w => L2.CX PySem.Challenge.rw_needleblind_k10_circuit_texts_there_and.prog w) (sp := fun w => Mo.spLaw _) rfl (by decide) rfl ⟨rfl, by decide, by decide⟩ (fun w h Y => PySem.W.kIn_of Y) ?F (fun _ _ a ns hl ho hS => ⟨a, ns, rfl, Mo.fz_of ho hS, hl, fun _ => rfl⟩) (fun _ _ _ _ _ h => Mo.cx_no h)
  case F =>
    intro w mg fa h KX G hmg
    refine' K10.all_mk KX G hmg K10.law_true ?aC0 ?pg0 ?hd0 ?po0 ?sa0 ?nf0_0 ?nf0_1 ?nf0_2 ?nf0_3 ?nf0_4 ?nf0_5 ?ha0 ?hn0 ?htk0 ?hm0 ?ic0 ?tc0 ?ne0 ?mk0 ?kc0 ?a0 ?i0 ?l0 ?c0 ?k0 ?a1 ?l1 ?c1 ?k1 ?a2 ?l2 ?c2 ?k2 ?a3 ?l3 ?c3 ?k3 ?a4 ?l4 ?c4 ?k4 ?a5 ?l5 ?c5 ?k5 ?a6 ?l6 ?c6 ?k6 ?a7 ?l7 ?c7 ?k7 ?a8 ?l8 ?c8 ?k8 ?a9 ?l9 ?c9 ?k9 ?a10 ?l10 ?c10 ?k10 ?a11 ?l11 ?c11 ?k11 ?a12 ?l12 ?c12 ?k12 ?a13 ?l13 ?c13 ?k13 ?a14 ?i14 ?l14 ?c14 ?k14 ?a15 ?l15 ?c15 ?k15 ?a16 ?l16 ?c16 ?k16 ?a17 ?l17 ?c17 ?k17 ?a18 ?l18 ?c18 ?k18 ?a19 ?l19 ?c19 ?k19 ?a20 ?i20 ?l20 ?c20 ?k20 ?a21 ?l21 ?c21 ?k21 ?a22 ?l22 ?c22 ?k22 ?a23 ?l23 ?c23 ?k23 ?a24 ?l24 ?c24 ?k24 ?a25 ?l25 ?c25 ?k25 ?a26 ?l26 ?c26 ?k26 ?a27 ?l27 ?c27 ?k27 ?a28 ?l28 ?c28 ?k28 ?a29 ?i29 ?l29 ?c29 ?k29 ?a30 ?i30 ?l30 ?c30 ?k30 ?a31 ?i31 ?l31 ?c31 ?k31 ?a32 ?i32 ?l32 ?c32 ?k32 ?a33 ?i33 ?l33 ?c33 ?k33 ?a34 ?i34 ?l34 ?c34 ?k34 ?a35 ?i35 ?l35 ?c35 ?k35 ?a36 ?i36 ?l36 ?c36 ?k36 ?a37 ?i37 ?l37 ?c37 ?k37 ?a38 ?l38 ?c38 ?k38 ?a39 ?l39 ?c39 ?k39 ?z0 ?z1 ?z2 ?z3 ?z4 ?z5 ?z6 ?z7 ?z8 ?z9 ?z10 ?z11 ?z12 ?q0 ?r0 ?q1 ?q2 ?q3 ?q4 ?q5 ?q6 ?q7
    (case aC0 => k_is); (case pg0 => k_is); (case hd0 => k_is); (case po0 => k_is); (case sa0 => k_is); (case nf0_0 => k_is); (case nf0_1 => k_is); (case nf0_2 => k_is); (case nf0_3 => k_is); (case nf0_4 => k_is); (case nf0_5 => k_is); (case ha0 => k_is); (case hn0 => k_is); (case htk0 => k_is); (case hm0 => k_is); (case ic0 => k_is); (case tc0 => k_is); (case ne0 => k_is); (case mk0 => k_is); (case kc0 => k_is); (case a0 => k_is); (case i0 => k_is); (case l0 => k_is); (case c0 => k_is); (case k0 => k_is); (case a1 => k_is); (case l1 => k_is); (case c1 => k_is); (case k1 => k_is); (case a2 => k_is); (case l2 => k_is); (case c2 => k_is); (case k2 => k_is); (case a3 => k_is); (case l3 => k_is); (case c3 => k_is); (case k3 => k_is); (case a4 => k_is); (case l4 => k_is); (case c4 => k_is); (case k4 => k_is); (case a5 => k_is); (case l5 => k_is); (case c5 => k_is); (case k5 => k_is); (case a6 => k_is); (case l6 => k_is); (case c6 => k_is); (case k6 => k_is); (case a7 => k_is); (case l7 => k_is); (case c7 => k_is); (case k7 => k_is); (case a8 => k_is); (case l8 => k_is); (case c8 => k_is); (case k8 => k_is); (case a9 => k_is); (case l9 => k_is); (case c9 => k_is); (case k9 => k_is); (case a10 => k_is); (case l10 => k_is); (case c10 => k_is); (case k10 => k_is); (case a11 => k_is); (case l11 => k_is); (case c11 => k_is); (case k11 => k_is); (case a12 => k_is); (case l12 => k_is); (case c12 => k_is); (case k12 => k_is); (case a13 => k_is); (case l13 => k_is); (case c13 => k_is); (case k13 => k_is); (case a14 => k_is); (case i14 => k_is); (case l14 => k_is); (case c14 => k_is); (case k14 => k_is); (case a15 => k_is); (case l15 => k_is); (case c15 => k_is); (case k15 => k_is); (case a16 => k_is); (case l16 => k_is); (case c16 => k_is); (case k16 => k_is); (case a17 => k_is); (case l17 => k_is); (case c17 => k_is); (case k17 => k_is); (case a18 => k_is); (case l18 => k_is); (case c18 => k_is); (case k18 => k_is); (case a19 => k_is); (case l19 => k_is); (case c19 => k_is); (case k19 => k_is); (case a20 => k_is); (case i20 => k_is); (case l20 => k_is); (case c20 => k_is); (case k20 => k_is); (case a21 => k_is); (case l21 => k_is); (case c21 => k_is); (case k21 => k_is); (case a22 => k_is); (case l22 => k_is); (case c22 => k_is); (case k22 => k_is); (case a23 => k_is); (case l23 => k_is); (case c23 => k_is); (case k23 => k_is); (case a24 => k_is); (case l24 => k_is); (case c24 => k_is); (case k24 => k_is); (case a25 => k_is); (case l25 => k_is); (case c25 => k_is); (case k25 => k_is); (case a26 => k_is); (case l26 => k_is); (case c26 => k_is); (case k26 => k_is); (case a27 => k_is); (case l27 => k_is); (case c27 => k_is); (case k27 => k_is); (case a28 => k_is); (case l28 => k_is); (case c28 => k_is); (case k28 => k_is); (case a29 => k_is); (case i29 => k_is); (case l29 => k_is); (case c29 => k_is); (case k29 => k_is); (case a30 => k_is); (case i30 => k_is); (case l30 => k_is); (case c30 => k_is); (case k30 => k_is); (case a31 => k_is); (case i31 => k_is); (case l31 => k_is); (case c31 => k_is); (case k31 => k_is); (case a32 => k_is); (case i32 => k_is); (case l32 => k_is); (case c32 => k_is); (case k32 => k_is); (case a33 => k_is); (case i33 => k_is); (case l33 => k_is); (case c33 => k_is); (case k33 => k_is); (case a34 => k_is); (case i34 => k_is); (case l34 => k_is); (case c34 => k_is); (case k34 => k_is); (case a35 => k_is); (case i35 => k_is); (case l35 => k_is); (case c35 => k_is); (case k35 => k_is); (case a36 => k_is); (case i36 => k_is); (case l36 => k_is); (case c36 => k_is); (case k36 => k_is); (case a37 => k_is); (case i37 => k_is); (case l37 => k_is); (case c37 => k_is); (case k37 => k_is); (case a38 => k_is); (case l38 => k_is); (case c38 => k_is); (case k38 => k_is); (case a39 => k_is); (case l39 => k_is); (case c39 => k_is); (case k39 => k_is); (case z0 => k_is); (case z1 => k_is); (case z2 => k_is); (case z3 => k_is); (case z4 => k_is); (case z5 => k_is); (case z6 => k_is); (case z7 => k_is); (case z8 => k_is); (case z9 => k_is); (case z10 => k_is); (case z11 => k_is); (case z12 => k_is); (case q0 => k_is); (case r0 => k_is); (case q1 => k_is); (case q2 => k_is); (case q3 => k_is); (case q4 => k_is); (case q5 => k_is); (case q6 => k_is); (case q7 => k_is)

