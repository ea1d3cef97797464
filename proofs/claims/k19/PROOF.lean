import PyProof.Rows.All
import Wide.All
import OpenK.AllK
import Wide.FinOn
import HandS.ForMost
import HandS.ForExc
import HandS.IsInst
import HandS.Wide
import HandS.More
import HandS.CallSlots
import HandS.Flow
import HandS.Zip
import HandS.SortInts
import HandS.TupAny
import HandS.Iter
import HandS.WordsDict
import HandS.RaiseMore
import HandS.TupLen
import HandS.Style
import HandS.Star
import HandS.Conv
import PyProof.SumWalkG
import PyProof.WalksMore
import PyProof.Rows.SumAny
import PySem.Challenge.RW_needleblind_k19_parted_bits_are_even
set_option Elab.async false
set_option linter.all false
set_option maxRecDepth 100000
set_option maxHeartbeats 4000000
/-! A model layer over the hand layer: values with tuples by value, a heap by numbers, and for each construct a function of these. -/
namespace Mo
open PySem PySem.Spec PyProof.Rows L2

/-- a value: tuples by value, objects that change by their number; glo: what a global name holds -/
inductive D where
  | non | bl (b : Bool) | int (i : Int) | str (x : Str) | tup (ds : List D) | kt (ds : List D) | ref (n : Nat) | ty (n : String) | glo (x : Str)
/-- an object -/
inductive MO where
  | lst (ds : List D) | fls (ds : List D) | dk (kvs : List (Key × D)) | dt (kvs : List (List Key × D)) | zk (kvs : List (Key × D)) | zt (kvs : List (List Key × D)) | ins (c : Str) (fs : List (Str × D))
abbrev Mh := List MO
abbrev Ren := List Addr
abbrev Sg := List (Option D)
def MO.mu : MO → Bool
  | .fls _ => false
  | _ => true

/-! ### how it stands in the abstract heap -/
section
variable (K : PySem.W.Frag) (mg : Str → Option Value) (ρ : Ren) (H : Hp)
mutual
inductive RV : V → D → Prop
  | non : RV .non .non
  | bl (b : Bool) : RV (.bl b) (.bl b)
  | int (i : Int) : RV (.int i) (.int i)
  | str (x : Str) : RV (.str x) (.str x)
  | ty (n : String) : RV (.ty n) (.ty n)
  | ref {n : Nat} {a : Addr} : ρ[n]? = some a → RV (.ref a) (.ref n)
  | glo {x : Str} {a : Addr} : mg x = some (.ref a) → RV (.ref a) (.glo x)
  | tup {a : Addr} {vs : List V} {ds : List D} : H a = some (.tup vs) → RVs vs ds → RV (.ref a) (.tup ds)
  | kt {a : Addr} {vs : List V} {ds : List D} : SqT K H a vs → RVs vs ds → RV (.ref a) (.kt ds)
inductive RVs : List V → List D → Prop
  | nil : RVs [] []
  | cons {v : V} {vs : List V} {d : D} {ds : List D} : RV v d → RVs vs ds → RVs (v :: vs) (d :: ds)
end
/-- a list that is never changed -/
def FzL (a : Addr) (vs : List V) : Prop := (∃ o, H a = some (.frz o (.lst vs))) ∨
  ∃ (o : Obj) (its : Array Value) (n : Nat), K.lookup a = some o ∧ o.cls = .type "list" ∧ o.dict = none ∧ o.data = .seq its n ∧ its.size ≤ sizeLine ∧ Vals vs its.toList
inductive RO (a : Addr) : MO → Prop
  | lst {vs : List V} {ds : List D} : H a = some (.lst vs) → RVs K mg ρ H vs ds → RO a (.lst ds)
  | fls {vs : List V} {ds : List D} : FzL K H a vs → RVs K mg ρ H vs ds → RO a (.fls ds)
  | dk {kvs : List (Key × V)} {kds : List (Key × D)} : H a = some (.dK kvs) → kvs.map (·.1) = kds.map (·.1) → RVs K mg ρ H (kvs.map (·.2)) (kds.map (·.2)) → RO a (.dk kds)
  | dt {kvs : List (List Key × V)} {kds : List (List Key × D)} : H a = some (.dT kvs) → kvs.map (·.1) = kds.map (·.1) → RVs K mg ρ H (kvs.map (·.2)) (kds.map (·.2)) → RO a (.dt kds)
  | zk {o : Obj} {kvs : List (Key × V)} {kds : List (Key × D)} : H a = some (.frz o (.dK kvs)) → kvs.map (·.1) = kds.map (·.1) → RVs K mg ρ H (kvs.map (·.2)) (kds.map (·.2)) → RO a (.zk kds)
  | zt {o : Obj} {kvs : List (List Key × V)} {kds : List (List Key × D)} : H a = some (.frz o (.dT kvs)) → kvs.map (·.1) = kds.map (·.1) → RVs K mg ρ H (kvs.map (·.2)) (kds.map (·.2)) → RO a (.zt kds)
  | ins {c : Str} {C dx : Addr} {fv : List (Str × V)} {fd : List (Str × D)} : mg c = some (.ref C) → H a = some (.ins C dx fv) → fv.map (·.1) = fd.map (·.1) → RVs K mg ρ H (fv.map (·.2)) (fd.map (·.2)) → RO a (.ins c fd)
end
structure RHp (K : PySem.W.Frag) (mg : Str → Option Value) (ρ : Ren) (H : Hp) (h : Mh) : Prop where
  len : ρ.length = h.length
  obj : ∀ (n : Nat) (a : Addr) (o : MO), ρ[n]? = some a → h[n]? = some o → RO K mg ρ H a o
  inj : ∀ (n m : Nat) (a : Addr) (o u : MO), ρ[n]? = some a → ρ[m]? = some a → h[n]? = some o → h[m]? = some u → o.mu = true → u.mu = true → n = m
structure Lw (K : PySem.W.Frag) (ρ : Ren) (H : Hp) (ρ' : Ren) (H' : Hp) : Prop where
  pre : ∀ (n : Nat) (a : Addr), ρ[n]? = some a → ρ'[n]? = some a
  tup : ∀ a vs, SqT K H a vs → SqT K H' a vs
  tpl : ∀ (a : Addr) (vs : List V), H a = some (.tup vs) → H' a = some (.tup vs)
structure Le (K : PySem.W.Frag) (ρ : Ren) (H : Hp) (ρ' : Ren) (H' : Hp) : Prop where
  pre : ∀ (n : Nat) (a : Addr), ρ[n]? = some a → ρ'[n]? = some a
  tup : ∀ a vs, SqT K H a vs → SqT K H' a vs
  tpl : ∀ (a : Addr) (vs : List V), H a = some (.tup vs) → H' a = some (.tup vs)
  frz : ∀ (a : Addr) (o : Obj) (u : HO), H a = some (.frz o u) → H' a = some (.frz o u)
structure RSt (K : PySem.W.Frag) (mg : Str → Option Value) (ρ : Ren) (H : Hp) (σ : L2.St) (sg : Sg) : Prop where
  len : σ.length = sg.length
  val : ∀ (i : Nat) (d : D), sg[i]? = some (some d) → ∃ v, σ[i]? = some (some v) ∧ RV K mg ρ H v d

section
variable {K : PySem.W.Frag} {mg : Str → Option Value} {ρ ρ' ρ'' : Ren} {H H' H'' : Hp}
theorem Le.refl : Le K ρ H ρ H := ⟨fun _ _ h => h, fun _ _ h => h, fun _ _ h => h, fun _ _ _ h => h⟩
theorem Le.w (l : Le K ρ H ρ' H') : Lw K ρ H ρ' H' := ⟨l.pre, l.tup, l.tpl⟩
theorem Le.trans (a : Le K ρ H ρ' H') (b : Le K ρ' H' ρ'' H'') : Le K ρ H ρ'' H'' := ⟨fun n x h => b.pre n x (a.pre n x h), fun x vs h => b.tup x vs (a.tup x vs h), fun x vs h => b.tpl x vs (a.tpl x vs h), fun x o u h => b.frz x o u (a.frz x o u h)⟩
mutual
theorem RV.monoW (le : Lw K ρ H ρ' H') : ∀ {v : V} {d : D}, RV K mg ρ H v d → RV K mg ρ' H' v d
  | _, _, .non => .non
  | _, _, .bl b => .bl b
  | _, _, .int i => .int i
  | _, _, .str x => .str x
  | _, _, .ty n => .ty n
  | _, _, .ref h => .ref (le.pre _ _ h)
  | _, _, .glo h => .glo h
  | _, _, .tup h r => .tup (le.tpl _ _ h) (RVs.monoW le r)
  | _, _, .kt h r => .kt (le.tup _ _ h) (RVs.monoW le r)
theorem RVs.monoW (le : Lw K ρ H ρ' H') : ∀ {vs : List V} {ds : List D}, RVs K mg ρ H vs ds → RVs K mg ρ' H' vs ds
  | _, _, .nil => .nil
  | _, _, .cons r t => .cons (RV.monoW le r) (RVs.monoW le t)
end
theorem RV.mono (le : Le K ρ H ρ' H') {v : V} {d : D} (r : RV K mg ρ H v d) : RV K mg ρ' H' v d := r.monoW le.w
theorem RVs.mono (le : Le K ρ H ρ' H') {vs : List V} {ds : List D} (r : RVs K mg ρ H vs ds) : RVs K mg ρ' H' vs ds := r.monoW le.w
theorem RSt.mono {σ : L2.St} {sg : Sg} (le : Le K ρ H ρ' H') (r : RSt K mg ρ H σ sg) : RSt K mg ρ' H' σ sg := ⟨r.len, fun i d h => let ⟨v, e, q⟩ := r.val i d h; ⟨v, e, q.mono le⟩⟩
theorem RVs.length : ∀ {vs : List V} {ds : List D}, RVs K mg ρ H vs ds → vs.length = ds.length
  | _, _, .nil => rfl
  | _, _, .cons _ t => congrArg (· + 1) (RVs.length t)
theorem RVs.get : ∀ {vs : List V} {ds : List D} {i : Nat} {d : D}, RVs K mg ρ H vs ds → ds[i]? = some d → ∃ v, vs[i]? = some v ∧ RV K mg ρ H v d
  | _, _, _, _, .nil, e => by simp at e
  | _, _, 0, _, .cons r _, e => by simp at e; subst e; exact ⟨_, rfl, r⟩
  | _, _, i + 1, d, .cons _ t, e => by
    obtain ⟨v, h1, h2⟩ := RVs.get (i := i) (d := d) t (by simpa using e)
    exact ⟨v, by simpa using h1, h2⟩
theorem RVs.getV : ∀ {vs : List V} {ds : List D} {i : Nat} {v : V}, RVs K mg ρ H vs ds → vs[i]? = some v → ∃ d, ds[i]? = some d ∧ RV K mg ρ H v d
  | _, _, _, _, .nil, e => by simp at e
  | _, _, 0, _, .cons r _, e => by simp at e; subst e; exact ⟨_, rfl, r⟩
  | _, _, i + 1, v, .cons _ t, e => by
    obtain ⟨d, h1, h2⟩ := RVs.getV (i := i) (v := v) t (by simpa using e)
    exact ⟨d, by simpa using h1, h2⟩
theorem RVs.append : ∀ {vs ws : List V} {ds es : List D}, RVs K mg ρ H vs ds → RVs K mg ρ H ws es → RVs K mg ρ H (vs ++ ws) (ds ++ es)
  | _, _, _, _, .nil, s => s
  | _, _, _, _, .cons r t, s => .cons r (RVs.append t s)
theorem RVs.take : ∀ {vs : List V} {ds : List D} (n : Nat), RVs K mg ρ H vs ds → RVs K mg ρ H (vs.take n) (ds.take n)
  | _, _, 0, _ => .nil
  | _, _, _ + 1, .nil => .nil
  | _, _, n + 1, .cons r t => .cons r (RVs.take n t)
theorem RVs.drop : ∀ {vs : List V} {ds : List D} (n : Nat), RVs K mg ρ H vs ds → RVs K mg ρ H (vs.drop n) (ds.drop n)
  | _, _, 0, r => r
  | _, _, _ + 1, .nil => .nil
  | _, _, n + 1, .cons _ t => RVs.drop n t
theorem RVs.set : ∀ {vs : List V} {ds : List D} (n : Nat) {v : V} {d : D}, RVs K mg ρ H vs ds → RV K mg ρ H v d → RVs K mg ρ H (vs.set n v) (ds.set n d)
  | _, _, _, _, _, .nil, _ => .nil
  | _, _, 0, _, _, .cons _ t, q => .cons q t
  | _, _, n + 1, _, _, .cons r t, q => .cons r (RVs.set n t q)
theorem RVs.reverse {vs : List V} {ds : List D} (r : RVs K mg ρ H vs ds) : RVs K mg ρ H vs.reverse ds.reverse := by
  induction vs generalizing ds with
  | nil => cases r; exact .nil
  | cons v vs ih =>
    cases r with
    | cons r t =>
      rw [List.reverse_cons, List.reverse_cons]
      exact (ih t).append (.cons r .nil)
theorem RVs.eraseIdx : ∀ {vs : List V} {ds : List D} (n : Nat), RVs K mg ρ H vs ds → RVs K mg ρ H (vs.eraseIdx n) (ds.eraseIdx n)
  | _, _, _, .nil => .nil
  | _, _, 0, .cons _ t => t
  | _, _, n + 1, .cons r t => .cons r (RVs.eraseIdx n t)
theorem RVs.ints : ∀ {vs : List V} {ns : List Int}, RVs K mg ρ H vs (ns.map D.int) → vs = ns.map V.int
  | _, [], .nil => rfl
  | _, n :: ns, .cons r t => by cases r; rw [RVs.ints t]; rfl
theorem RVs.ofInts : ∀ (ns : List Int), RVs K mg ρ H (ns.map V.int) (ns.map D.int)
  | [] => .nil
  | n :: ns => .cons (.int n) (RVs.ofInts ns)
theorem RVs.strs : ∀ {vs : List V} {ns : List Str}, RVs K mg ρ H vs (ns.map D.str) → vs = ns.map V.str
  | _, [], .nil => rfl
  | _, n :: ns, .cons r t => by cases r; rw [RVs.strs t]; rfl
theorem RVs.ofStrs : ∀ (ns : List Str), RVs K mg ρ H (ns.map V.str) (ns.map D.str)
  | [] => .nil
  | n :: ns => .cons (.str n) (RVs.ofStrs ns)
theorem RVs.bools : ∀ {vs : List V} {ns : List Bool}, RVs K mg ρ H vs (ns.map D.bl) → vs = ns.map V.bl
  | _, [], .nil => rfl
  | _, n :: ns, .cons r t => by cases r; rw [RVs.bools t]; rfl

/-! ### new objects, changes -/
theorem SqT.upd_new {a p : Addr} {o : HO} {vs : List V} (hp : H p = none) (h : SqT K H a vs) : SqT K (upd H p o) a vs := by
  rcases h with (h | ⟨u, h⟩) | h
  · exact .inl (.inl (by rw [upd_ne (ne_of_none h hp)]; exact h))
  · exact .inl (.inr ⟨u, by rw [upd_ne (ne_of_none h hp)]; exact h⟩)
  · exact .inr h
theorem FzL.sq {a : Addr} {vs : List V} (h : FzL K H a vs) : SqL K H a vs := by
  rcases h with ⟨u, h⟩ | h
  · exact .inl (.inr ⟨u, h⟩)
  · exact .inr h
theorem FzL.upd_new {a p : Addr} {o : HO} {vs : List V} (hp : H p = none) (h : FzL K H a vs) : FzL K (upd H p o) a vs := by
  rcases h with ⟨u, h⟩ | h
  · exact .inl ⟨u, by rw [upd_ne (ne_of_none h hp)]; exact h⟩
  · exact .inr h
theorem Le.new {p : Addr} {o : HO} (hp : H p = none) : Le K ρ H ρ (upd H p o) := ⟨fun _ _ h => h, fun _ _ h => SqT.upd_new hp h, fun _ _ h => by rw [upd_ne (ne_of_none h hp)]; exact h, fun _ _ _ h => by rw [upd_ne (ne_of_none h hp)]; exact h⟩
theorem RO.new {a p : Addr} {o : HO} {u : MO} (hp : H p = none) (le : Le K ρ H ρ' (upd H p o)) (r : RO K mg ρ H a u) : RO K mg ρ' (upd H p o) a u := by
  cases r with
  | lst h r => exact .lst (by rw [upd_ne (ne_of_none h hp)]; exact h) (r.mono le)
  | fls h r => exact .fls (FzL.upd_new hp h) (r.mono le)
  | dk h e r => exact .dk (by rw [upd_ne (ne_of_none h hp)]; exact h) e (r.mono le)
  | dt h e r => exact .dt (by rw [upd_ne (ne_of_none h hp)]; exact h) e (r.mono le)
  | zk h e r => exact .zk (by rw [upd_ne (ne_of_none h hp)]; exact h) e (r.mono le)
  | zt h e r => exact .zt (by rw [upd_ne (ne_of_none h hp)]; exact h) e (r.mono le)
  | ins g h e r => exact .ins g (by rw [upd_ne (ne_of_none h hp)]; exact h) e (r.mono le)
/-- an object is made that the model does not count (a tuple) -/
theorem RHp.made {h : Mh} {p : Addr} {o : HO} (r : RHp K mg ρ H h) (hp : H p = none) : RHp K mg ρ (upd H p o) h :=
  ⟨r.len, fun n a u e1 e2 => (r.obj n a u e1 e2).new hp (Le.new hp), r.inj⟩
theorem RO.there {a : Addr} {u : MO} (r : RO K mg ρ H a u) (m : u.mu = true) : ∃ o, H a = some o := by
  cases r with
  | lst h _ => exact ⟨_, h⟩
  | fls _ _ => cases m
  | dk h _ _ => exact ⟨_, h⟩
  | dt h _ _ => exact ⟨_, h⟩
  | zk h _ _ => exact ⟨_, h⟩
  | zt h _ _ => exact ⟨_, h⟩
  | ins _ h _ _ => exact ⟨_, h⟩
theorem Le.grow {p : Addr} {o : HO} (hp : H p = none) : Le K ρ H (ρ ++ [p]) (upd H p o) := ⟨fun n a h => by
  rw [List.getElem?_append_left (List.getElem?_eq_some_iff.mp h).1]; exact h, fun _ _ h => SqT.upd_new hp h, fun _ _ h => by rw [upd_ne (ne_of_none h hp)]; exact h, fun _ _ _ h => by rw [upd_ne (ne_of_none h hp)]; exact h⟩
/-- an object is made that the model counts -/
theorem RHp.grow {h : Mh} {p : Addr} {o : HO} {u : MO} (r : RHp K mg ρ H h) (hp : H p = none) (new : RO K mg (ρ ++ [p]) (upd H p o) p u) : RHp K mg (ρ ++ [p]) (upd H p o) (h ++ [u]) := by
  have at1 : ∀ {n : Nat} {a : Addr} {x : MO}, (ρ ++ [p])[n]? = some a → (h ++ [u])[n]? = some x → (ρ[n]? = some a ∧ h[n]? = some x) ∨ (n = h.length ∧ a = p ∧ x = u) := fun {n a x} e1 e2 => by
    by_cases hn : n < h.length
    · rw [List.getElem?_append_left (by rw [r.len]; exact hn)] at e1
      rw [List.getElem?_append_left hn] at e2
      exact .inl ⟨e1, e2⟩
    · have hn' : n = h.length := by
        have := (List.getElem?_eq_some_iff.mp e2).1
        rw [List.length_append, List.length_singleton] at this
        omega
      subst hn'
      rw [List.getElem?_append_right (by rw [r.len]; exact Nat.le_refl _), r.len, Nat.sub_self] at e1
      rw [List.getElem?_append_right (Nat.le_refl _), Nat.sub_self] at e2
      exact .inr ⟨rfl, (Option.some.inj e1).symm, (Option.some.inj e2).symm⟩
  refine ⟨by rw [List.length_append, List.length_append, r.len]; rfl, fun n a x e1 e2 => ?_, fun n m a x y e1 e2 e3 e4 m1 m2 => ?_⟩
  · rcases at1 e1 e2 with ⟨f1, f2⟩ | ⟨_, rfl, rfl⟩
    · exact (r.obj n a x f1 f2).new hp (Le.grow hp)
    · exact new
  · rcases at1 e1 e3 with ⟨f1, f2⟩ | ⟨n1, n2, n3⟩
    · rcases at1 e2 e4 with ⟨g1, g2⟩ | ⟨k1, k2, k3⟩
      · exact r.inj n m a x y f1 g1 f2 g2 m1 m2
      · obtain ⟨o', h'⟩ := (r.obj n a x f1 f2).there m1
        rw [k2, hp] at h'; cases h'
    · rcases at1 e2 e4 with ⟨g1, g2⟩ | ⟨k1, _, _⟩
      · obtain ⟨o', h'⟩ := (r.obj m a y g1 g2).there m2
        rw [n2, hp] at h'; cases h'
      · rw [n1, k1]
theorem RHp.at_new {h : Mh} {p : Addr} (r : RHp K mg ρ H h) : (ρ ++ [p])[h.length]? = some p := by
  rw [List.getElem?_append_right (by rw [r.len]; exact Nat.le_refl _), r.len, Nat.sub_self]; rfl
def notTup : HO → Prop
  | .lst _ => True
  | .dK _ => True
  | .dT _ => True
  | .ins _ _ _ => True
  | _ => False
/-- nor is what is locked a tuple -/
def notTupW : HO → Prop
  | .lst _ => True
  | .dK _ => True
  | .dT _ => True
  | .ins _ _ _ => True
  | .frz _ (.dK _) => True
  | .frz _ (.dT _) => True
  | _ => False
theorem Lw.write {a : Addr} {o o' : HO} (ha : H a = some o) (nt : notTupW o) : Lw K ρ H ρ (upd H a o') := ⟨fun _ _ h => h, fun b vs h => by
  rcases h with (h | ⟨u, h⟩) | h
  · refine .inl (.inl ?_)
    rw [upd_ne (by intro e; subst e; rw [ha] at h; cases h; exact nt)]; exact h
  · refine .inl (.inr ⟨u, ?_⟩)
    rw [upd_ne (by intro e; subst e; rw [ha] at h; cases h; exact nt)]; exact h
  · exact .inr h, fun b vs h => by rw [upd_ne (by intro e; subst e; rw [ha] at h; cases h; exact nt)]; exact h⟩
theorem notTup.w {o : HO} (h : notTup o) : notTupW o := by
  cases o <;> first | exact h | exact h.elim
theorem Le.write {a : Addr} {o o' : HO} (ha : H a = some o) (nt : notTup o) : Le K ρ H ρ (upd H a o') := ⟨fun _ _ h => h, (Lw.write (ρ := ρ) ha nt.w).tup, (Lw.write (K := K) (ρ := ρ) ha nt.w).tpl,
  fun b o1 u h => by rw [upd_ne (by intro e; subst e; rw [ha] at h; cases h; exact nt)]; exact h⟩
/-- an object is changed -/
theorem RHp.write {h : Mh} {n : Nat} {a : Addr} {o o' : HO} {x u : MO} (r : RHp K mg ρ H h) (hn : ρ[n]? = some a) (hx : h[n]? = some x) (mx : x.mu = true) (mu' : u.mu = true) (ha : H a = some o) (nt : notTupW o)
    (new : RO K mg ρ (upd H a o') a u) : RHp K mg ρ (upd H a o') (h.set n u) := by
  have le : Lw K ρ H ρ (upd H a o') := Lw.write ha nt
  refine ⟨by rw [List.length_set]; exact r.len, fun m b y e1 e2 => ?_, fun m k b y z e1 e2 e3 e4 m1 m2 => ?_⟩
  · by_cases hm : m = n
    · subst hm
      rw [hn] at e1; cases e1
      rw [List.getElem?_set_self (List.getElem?_eq_some_iff.mp hx).1] at e2
      cases e2
      exact new
    · rw [List.getElem?_set_ne (Ne.symm hm)] at e2
      have ro := r.obj m b y e1 e2
      have nb : y.mu = true → b ≠ a := fun my e => hm (r.inj m n a y x (by rw [← e]; exact e1) hn e2 hx my mx)
      cases ro with
      | lst h1 r1 => exact .lst (by rw [upd_ne (nb rfl)]; exact h1) (r1.monoW le)
      | fls h1 r1 =>
        refine .fls ?_ (r1.monoW le)
        rcases h1 with ⟨q, h1⟩ | h1
        · exact .inl ⟨q, by rw [upd_ne (by intro e; subst e; rw [ha] at h1; cases h1; exact nt)]; exact h1⟩
        · exact .inr h1
      | dk h1 e r1 => exact .dk (by rw [upd_ne (nb rfl)]; exact h1) e (r1.monoW le)
      | dt h1 e r1 => exact .dt (by rw [upd_ne (nb rfl)]; exact h1) e (r1.monoW le)
      | zk h1 e r1 => exact .zk (by rw [upd_ne (nb rfl)]; exact h1) e (r1.monoW le)
      | zt h1 e r1 => exact .zt (by rw [upd_ne (nb rfl)]; exact h1) e (r1.monoW le)
      | ins g h1 e r1 => exact .ins g (by rw [upd_ne (nb rfl)]; exact h1) e (r1.monoW le)
  · have back : ∀ {j : Nat} {y : MO}, (h.set n u)[j]? = some y → y.mu = true → ∃ y', h[j]? = some y' ∧ y'.mu = true := fun {j y} e m => by
      by_cases hj : j = n
      · subst hj; exact ⟨x, hx, mx⟩
      · rw [List.getElem?_set_ne (Ne.symm hj)] at e; exact ⟨y, e, m⟩
    obtain ⟨y', f1, f2⟩ := back e3 m1
    obtain ⟨z', g1, g2⟩ := back e4 m2
    exact r.inj m k b y' z' e1 e2 f1 g1 f2 g2
end
end Mo

namespace Mo
open PySem PySem.Spec PyProof.Rows L2

/-! ### what comes of a step -/
inductive R (α : Type) where
  | ok (a : α) (h : Mh) | exc (c : Str) (fs : List (Str × D)) (h : Mh) | bad
def R.bind {α β : Type} : R α → (α → Mh → R β) → R β
  | .ok a h, f => f a h
  | .exc c fs h, _ => .exc c fs h
  | .bad, _ => .bad
theorem R.bind_ok {α β : Type} {a : α} {h : Mh} {f : α → Mh → R β} : (R.ok a h).bind f = f a h := rfl
theorem R.bind_bad {α β : Type} {f : α → Mh → R β} : (R.bad : R α).bind f = .bad := rfl
theorem R.bind_exc {α β : Type} {c fs h} {f : α → Mh → R β} : (R.exc c fs h : R α).bind f = .exc c fs h := rfl
theorem R.bind_assoc {α β γ : Type} (r : R α) (f : α → Mh → R β) (g : β → Mh → R γ) : (r.bind f).bind g = r.bind fun a h => (f a h).bind g := by cases r <;> rfl
inductive RS where
  | nx (sg : Sg) (h : Mh) | rt (d : D) (h : Mh) | bk (sg : Sg) (h : Mh) | ct (sg : Sg) (h : Mh) | exc (c : Str) (fs : List (Str × D)) (sg : Sg) (h : Mh) | bad
/-- an expression's outcome, then a statement's -/
def R.th {α : Type} : R α → Sg → (α → Mh → RS) → RS
  | .ok a h, _, f => f a h
  | .exc c fs h, sg, _ => .exc c fs sg h
  | .bad, _, _ => .bad
theorem R.th_ok {α : Type} {a : α} {h : Mh} {sg : Sg} {f : α → Mh → RS} : (R.ok a h).th sg f = f a h := rfl
theorem R.th_bind {α β : Type} (r : R α) (f : α → Mh → R β) (sg : Sg) (g : β → Mh → RS) : (r.bind f).th sg g = r.th sg fun a h => (f a h).th sg g := by cases r <;> rfl
/-- a statement, then the next -/
def RS.th : RS → (Sg → Mh → RS) → RS
  | .nx sg h, f => f sg h
  | r, _ => r

section
variable (K : PySem.W.Frag) (mg : Str → Option Value)
def RX (ρ : Ren) (H : Hp) (dx : Option Addr) (fs : List (Str × D)) : Prop := match dx with
  | none => fs = []
  | some d => ∃ fv : List (Str × V), H d = some (.xd fv) ∧ fv.map (·.1) = fs.map (·.1) ∧ RVs K mg ρ H (fv.map (·.2)) (fs.map (·.2))
def WG {α β : Type} (rel : Ren → Hp → β → α → Prop) (W : WX) (σ : L2.St) (Q : β → Hp → Prop) (ρ : Ren) (H : Hp) : R α → Prop
  | .ok a h' => ∀ ρ' H' v, Le K ρ H ρ' H' → RHp K mg ρ' H' h' → rel ρ' H' v a → Q v H'
  | .exc c fs h' => ∀ ρ' H' C dx, Le K ρ H ρ' H' → RHp K mg ρ' H' h' → mg c = some (.ref C) → RX K mg ρ' H' dx fs → W (.ref C) dx σ H'
  | .bad => False
abbrev WV (W : WX) (σ : L2.St) (Q : VK) (ρ : Ren) (H : Hp) : R D → Prop := WG K mg (RV K mg) W σ Q ρ H
def TM (W : WX) (m : Sg → Mh → R D) : TE := fun σ H Q => ∃ ρ sg h, RSt K mg ρ H σ sg ∧ RHp K mg ρ H h ∧ WG K mg (RV K mg) W σ Q ρ H (m sg h)
def TMb (W : WX) (m : Sg → Mh → R Bool) : TT := fun σ H Q => ∃ ρ sg h, RSt K mg ρ H σ sg ∧ RHp K mg ρ H h ∧ WG K mg (fun _ _ v a => v = a) W σ Q ρ H (m sg h)
def TMl (W : WX) (m : Sg → Mh → R (List D)) : TA := fun σ H Q => ∃ ρ sg h, RSt K mg ρ H σ sg ∧ RHp K mg ρ H h ∧ WG K mg (RVs K mg) W σ Q ρ H (m sg h)
def WS (W : WX) (E : Ends) (ρ : Ren) (H : Hp) : RS → Prop
  | .nx sg' h' => ∀ ρ' H' σ', Le K ρ H ρ' H' → RHp K mg ρ' H' h' → RSt K mg ρ' H' σ' sg' → E.nx σ' H'
  | .rt d h' => ∀ ρ' H' v, Le K ρ H ρ' H' → RHp K mg ρ' H' h' → RV K mg ρ' H' v d → E.rt v H'
  | .bk sg' h' => ∀ ρ' H' σ', Le K ρ H ρ' H' → RHp K mg ρ' H' h' → RSt K mg ρ' H' σ' sg' → E.bk σ' H'
  | .ct sg' h' => ∀ ρ' H' σ', Le K ρ H ρ' H' → RHp K mg ρ' H' h' → RSt K mg ρ' H' σ' sg' → E.ct σ' H'
  | .exc c fs sg' h' => ∀ ρ' H' σ' C dx, Le K ρ H ρ' H' → RHp K mg ρ' H' h' → RSt K mg ρ' H' σ' sg' → mg c = some (.ref C) → RX K mg ρ' H' dx fs → W (.ref C) dx σ' H'
  | .bad => False
def TMS (W : WX) (m : Sg → Mh → RS) : TS := fun E σ H => ∃ ρ sg h, RSt K mg ρ H σ sg ∧ RHp K mg ρ H h ∧ WS K mg W E ρ H (m sg h)
end
structure PM (X : Cx) (W : WX) (e : Expr) (m : Sg → Mh → R D) : Prop where
  pe : PE X e (TM X.K X.mg W m)
structure PB (X : Cx) (W : WX) (e : Expr) (m : Sg → Mh → R Bool) : Prop where
  pt : PT X e (TMb X.K X.mg W m)
structure PL (X : Cx) (W : WX) (es : List Expr) (m : Sg → Mh → R (List D)) : Prop where
  pa : PA X es (TMl X.K X.mg W m)
structure PSM (X : Cx) (W : WX) (st : Stmt) (m : Sg → Mh → RS) : Prop where
  ps : PS X st (TMS X.K X.mg W m)
structure PSL (X : Cx) (W : WX) (st : List Stmt) (m : Sg → Mh → RS) : Prop where
  ps : PSs X st (TMS X.K X.mg W m)

theorem PEimp {X : Cx} {e : Expr} {t t' : TE} (h : PE X e t) (i : ∀ σ H Q, t' σ H Q → t σ H Q) : PE X e t' := ⟨fun pins s σ H Q I hw => h.run pins s σ H Q I (i _ _ _ hw)⟩
theorem PTimp {X : Cx} {e : Expr} {t t' : TT} (h : PT X e t) (i : ∀ σ H Q, t' σ H Q → t σ H Q) : PT X e t' := ⟨fun pins s σ H Q I hw => h.run pins s σ H Q I (i _ _ _ hw)⟩
theorem PAimp {X : Cx} {e : List Expr} {t t' : TA} (h : PA X e t) (i : ∀ σ H Q, t' σ H Q → t σ H Q) : PA X e t' := ⟨fun pos pins s σ H Q I hw => h.run pos pins s σ H Q I (i _ _ _ hw)⟩
theorem PSimp {X : Cx} {e : Stmt} {t t' : TS} (h : PS X e t) (i : ∀ E σ H, t' E σ H → t E σ H) : PS X e t' := ⟨fun pins s σ H D I hw => h.run pins s σ H D I (i _ _ _ hw)⟩
theorem PSsimp {X : Cx} {e : List Stmt} {t t' : TS} (h : PSs X e t) (i : ∀ E σ H, t' E σ H → t E σ H) : PSs X e t' := ⟨fun pins s σ H D I hw => h.run pins s σ H D I (i _ _ _ hw)⟩
theorem PIimp {X : Cx} {g e : Expr} {t t' : TI} (h : PI X g e t) (i : ∀ σ H Q, t' σ H Q → t σ H Q) : PI X g e t' := ⟨fun pins s σ H R I hw => h.run pins s σ H R I (i _ _ _ hw)⟩
theorem PEor {X : Cx} {e : Expr} {t t' : TE} (h : PE X e t) (h' : PE X e t') : PE X e (fun σ H Q => t σ H Q ∨ t' σ H Q) := ⟨fun pins s σ H Q I hw => hw.elim (h.run pins s σ H Q I) (h'.run pins s σ H Q I)⟩
theorem PIor {X : Cx} {g e : Expr} {t t' : TI} (h : PI X g e t) (h' : PI X g e t') : PI X g e (fun σ H Q => t σ H Q ∨ t' σ H Q) := ⟨fun pins s σ H Q I hw => hw.elim (h.run pins s σ H Q I) (h'.run pins s σ H Q I)⟩
theorem OpRor {X : Cx} {f : Value → Value → Sem Value} {r r' : R2} (h : OpR X f r) (h' : OpR X f r') : OpR X f (fun x y H Q => r x y H Q ∨ r' x y H Q) :=
  fun pins s σ H x y v u Q I a b hw => hw.elim (h pins s σ H x y v u Q I a b) (h' pins s σ H x y v u Q I a b)
theorem CallRor {X : Cx} {f : Value} {r r' : List V → Hp → VK → Prop} (h : CallR X f r) (h' : CallR X f r') : CallR X f (fun xs H Q => r xs H Q ∨ r' xs H Q) :=
  fun pins s σ H xs us Q I a hw => hw.elim (h pins s σ H xs us Q I a) (h' pins s σ H xs us Q I a)

section
variable {K : PySem.W.Frag} {mg : Str → Option Value} {W : WX} {ρ ρ1 : Ren} {H H1 : Hp} {σ : L2.St} {sg : Sg} {h : Mh}
theorem WG.mono {α β : Type} {rel : Ren → Hp → β → α → Prop} {Q : β → Hp → Prop} {r : R α} (le : Le K ρ H ρ1 H1) (w : WG K mg rel W σ Q ρ H r) : WG K mg rel W σ Q ρ1 H1 r := by
  cases r with
  | ok a h' => exact fun ρ' H' v l => w ρ' H' v (le.trans l)
  | exc c fs h' => exact fun ρ' H' C dx l => w ρ' H' C dx (le.trans l)
  | bad => exact w
theorem WS.mono {E : Ends} {r : RS} (le : Le K ρ H ρ1 H1) (w : WS K mg W E ρ H r) : WS K mg W E ρ1 H1 r := by
  cases r with
  | nx sg' h' => exact fun ρ' H' v l => w ρ' H' v (le.trans l)
  | rt sg' h' => exact fun ρ' H' v l => w ρ' H' v (le.trans l)
  | bk sg' h' => exact fun ρ' H' v l => w ρ' H' v (le.trans l)
  | ct sg' h' => exact fun ρ' H' v l => w ρ' H' v (le.trans l)
  | exc c fs sg' h' => exact fun ρ' H' v C dx l => w ρ' H' v C dx (le.trans l)
  | bad => exact w
/-- the first of two steps, by what the second wants -/
theorem WG.cut {α β γ δ : Type} {rel : Ren → Hp → β → α → Prop} {rel2 : Ren → Hp → δ → γ → Prop} {Q : δ → Hp → Prop} {Q1 : β → Hp → Prop} {r : R α} {f : α → Mh → R γ} (w : WG K mg rel2 W σ Q ρ H (r.bind f))
    (k : ∀ ρ1 H1 h1 v a, Le K ρ H ρ1 H1 → RHp K mg ρ1 H1 h1 → rel ρ1 H1 v a → WG K mg rel2 W σ Q ρ1 H1 (f a h1) → Q1 v H1) : WG K mg rel W σ Q1 ρ H r := by
  cases r with
  | ok a h' => exact fun ρ' H' v l rh rv => k ρ' H' h' v a l rh rv (w.mono l)
  | exc c fs h' => exact w
  | bad => exact w
theorem WS.cutS {α β : Type} {rel : Ren → Hp → β → α → Prop} {E : Ends} {Q1 : β → Hp → Prop} {r : R α} {f : α → Mh → RS} (hs : RSt K mg ρ H σ sg) (w : WS K mg W E ρ H (r.th sg f))
    (k : ∀ ρ1 H1 h1 v a, Le K ρ H ρ1 H1 → RHp K mg ρ1 H1 h1 → rel ρ1 H1 v a → WS K mg W E ρ1 H1 (f a h1) → Q1 v H1) : WG K mg rel W σ Q1 ρ H r := by
  cases r with
  | ok a h' => exact fun ρ' H' v l rh rv => k ρ' H' h' v a l rh rv (w.mono l)
  | exc c fs h' => exact fun ρ' H' C dx l rh g x => w ρ' H' σ C dx l rh (hs.mono l) g x
  | bad => exact w
theorem TM.go {γ δ : Type} {rel2 : Ren → Hp → δ → γ → Prop} {Q : δ → Hp → Prop} {Q1 : VK} {m : Sg → Mh → R D} {f : D → Mh → R γ} (hs : RSt K mg ρ H σ sg) (rh : RHp K mg ρ H h) (w : WG K mg rel2 W σ Q ρ H ((m sg h).bind f))
    (k : ∀ ρ1 H1 h1 v a, Le K ρ H ρ1 H1 → RHp K mg ρ1 H1 h1 → RV K mg ρ1 H1 v a → WG K mg rel2 W σ Q ρ1 H1 (f a h1) → Q1 v H1) : TM K mg W m σ H Q1 := ⟨ρ, sg, h, hs, rh, w.cut k⟩
theorem TMb.go {γ δ : Type} {rel2 : Ren → Hp → δ → γ → Prop} {Q : δ → Hp → Prop} {Q1 : Bool → Hp → Prop} {m : Sg → Mh → R Bool} {f : Bool → Mh → R γ} (hs : RSt K mg ρ H σ sg) (rh : RHp K mg ρ H h) (w : WG K mg rel2 W σ Q ρ H ((m sg h).bind f))
    (k : ∀ ρ1 H1 h1 a, Le K ρ H ρ1 H1 → RHp K mg ρ1 H1 h1 → WG K mg rel2 W σ Q ρ1 H1 (f a h1) → Q1 a H1) : TMb K mg W m σ H Q1 := ⟨ρ, sg, h, hs, rh, w.cut fun ρ1 H1 h1 v a le rh e w => by subst e; exact k ρ1 H1 h1 _ le rh w⟩
theorem TMl.go {γ δ : Type} {rel2 : Ren → Hp → δ → γ → Prop} {Q : δ → Hp → Prop} {Q1 : List V → Hp → Prop} {m : Sg → Mh → R (List D)} {f : List D → Mh → R γ} (hs : RSt K mg ρ H σ sg) (rh : RHp K mg ρ H h) (w : WG K mg rel2 W σ Q ρ H ((m sg h).bind f))
    (k : ∀ ρ1 H1 h1 v a, Le K ρ H ρ1 H1 → RHp K mg ρ1 H1 h1 → RVs K mg ρ1 H1 v a → WG K mg rel2 W σ Q ρ1 H1 (f a h1) → Q1 v H1) : TMl K mg W m σ H Q1 := ⟨ρ, sg, h, hs, rh, w.cut k⟩
theorem TM.goS {E : Ends} {Q1 : VK} {m : Sg → Mh → R D} {f : D → Mh → RS} (hs : RSt K mg ρ H σ sg) (rh : RHp K mg ρ H h) (w : WS K mg W E ρ H ((m sg h).th sg f))
    (k : ∀ ρ1 H1 h1 v a, Le K ρ H ρ1 H1 → RHp K mg ρ1 H1 h1 → RV K mg ρ1 H1 v a → WS K mg W E ρ1 H1 (f a h1) → Q1 v H1) : TM K mg W m σ H Q1 := ⟨ρ, sg, h, hs, rh, WS.cutS hs w k⟩
theorem TMb.goS {E : Ends} {Q1 : Bool → Hp → Prop} {m : Sg → Mh → R Bool} {f : Bool → Mh → RS} (hs : RSt K mg ρ H σ sg) (rh : RHp K mg ρ H h) (w : WS K mg W E ρ H ((m sg h).th sg f))
    (k : ∀ ρ1 H1 h1 a, Le K ρ H ρ1 H1 → RHp K mg ρ1 H1 h1 → WS K mg W E ρ1 H1 (f a h1) → Q1 a H1) : TMb K mg W m σ H Q1 := ⟨ρ, sg, h, hs, rh, WS.cutS hs w fun ρ1 H1 h1 v a le rh e w => by subst e; exact k ρ1 H1 h1 _ le rh w⟩
theorem WG.okI {α β : Type} {rel : Ren → Hp → β → α → Prop} {Q : β → Hp → Prop} {a : α} {h' : Mh} {v : β} (w : WG K mg rel W σ Q ρ H (.ok a h')) (le : Le K ρ H ρ1 H1) (rh : RHp K mg ρ1 H1 h') (rv : rel ρ1 H1 v a) : Q v H1 := w ρ1 H1 v le rh rv
/-- a new object of the model -/
theorem WG.alloc {Q : VK} {u : MO} {o : HO} {p : Addr} (w : WV K mg W σ Q ρ H (.ok (.ref h.length) (h ++ [u]))) (rh : RHp K mg ρ H h) (hp : H p = none) (new : RO K mg (ρ ++ [p]) (upd H p o) p u) : Q (.ref p) (upd H p o) :=
  w.okI (Le.grow hp) (rh.grow hp new) (.ref rh.at_new)
/-- a new tuple -/
theorem WG.tuple {Q : VK} {vs : List V} {ds : List D} {p : Addr} (w : WV K mg W σ Q ρ H (.ok (.tup ds) h)) (rh : RHp K mg ρ H h) (hp : H p = none) (r : RVs K mg ρ H vs ds) : Q (.ref p) (upd H p (.tup vs)) :=
  w.okI (Le.new hp) (rh.made hp) (.tup upd_same (r.mono (Le.new hp)))
theorem RO.newList {vs : List V} {ds : List D} {p : Addr} (hp : H p = none) (r : RVs K mg ρ H vs ds) : RO K mg (ρ ++ [p]) (upd H p (.lst vs)) p (.lst ds) := .lst upd_same (r.mono (Le.grow hp))
end

/-! ### expressions -/
def mLit (d : D) : Sg → Mh → R D := fun _ h => .ok d h
def mVar (i : Nat) : Sg → Mh → R D := fun sg h => match sg[i]? with
  | some (some d) => .ok d h
  | _ => .bad
def m2 (f : D → D → Mh → R D) (a b : Sg → Mh → R D) : Sg → Mh → R D := fun sg h => (a sg h).bind fun x h1 => (b sg h1).bind fun y h2 => f x y h2
def m1 (f : D → Mh → R D) (a : Sg → Mh → R D) : Sg → Mh → R D := fun sg h => (a sg h).bind f
def Sem2 (X : Cx) (r : R2) (f : D → D → Mh → R D) : Prop := ∀ (W : WX) (σ : L2.St) (ρ : Ren) (H : Hp) (h : Mh) (Q : VK) (v1 v2 : V) (d1 d2 : D), RHp X.K X.mg ρ H h → RV X.K X.mg ρ H v1 d1 → RV X.K X.mg ρ H v2 d2 → WV X.K X.mg W σ Q ρ H (f d1 d2 h) → r v1 v2 H Q
def Sem1 (X : Cx) (r : V → Hp → VK → Prop) (f : D → Mh → R D) : Prop := ∀ (W : WX) (σ : L2.St) (ρ : Ren) (H : Hp) (h : Mh) (Q : VK) (v : V) (d : D), RHp X.K X.mg ρ H h → RV X.K X.mg ρ H v d → WV X.K X.mg W σ Q ρ H (f d h) → r v H Q
def SemL (X : Cx) (r : List V → Hp → VK → Prop) (f : List D → Mh → R D) : Prop := ∀ (W : WX) (σ : L2.St) (ρ : Ren) (H : Hp) (h : Mh) (Q : VK) (vs : List V) (ds : List D), RHp X.K X.mg ρ H h → RVs X.K X.mg ρ H vs ds → WV X.K X.mg W σ Q ρ H (f ds h) → r vs H Q
section
variable {X : Cx} {W : WX} {a b c : Expr} {ma mb mc : Sg → Mh → R D} {pos : Pos}
theorem tOp_of {r : R2} {f : D → D → Mh → R D} (s : Sem2 X r f) {σ : L2.St} {H : Hp} {Q : VK} (w : TM X.K X.mg W (m2 f ma mb) σ H Q) : tOp r (TM X.K X.mg W ma) (TM X.K X.mg W mb) σ H Q := by
  obtain ⟨ρ, sg, h, hs, rh, w⟩ := w
  exact TM.go hs rh w fun ρ1 H1 h1 v d le rh1 rv w1 => TM.go (hs.mono le) rh1 w1 fun ρ2 H2 h2 v2 d2 le2 rh2 rv2 w2 => s W σ ρ2 H2 h2 Q v v2 d d2 rh2 (rv.mono le2) rv2 w2
theorem q_lit {e : Expr} {v : V} {d : D} (h : PE X e (tC v)) (r : ∀ ρ H, RV X.K X.mg ρ H v d) : PM X W e (mLit d) := ⟨PEimp h fun σ H Q ⟨ρ, sg, h, hs, rh, w⟩ => w.okI Le.refl rh (r ρ H)⟩
theorem q_int {i j} : PM X W (.Constant (.int i) j pos) (mLit (.int i)) := q_lit pe_int fun _ _ => .int i
theorem q_bl {i j} : PM X W (.Constant (.bool i) j pos) (mLit (.bl i)) := q_lit pe_bl fun _ _ => .bl i
theorem q_str {i j} : PM X W (.Constant (.str i) j pos) (mLit (.str i)) := q_lit pe_str fun _ _ => .str i
theorem q_non {j} : PM X W (.Constant .none j pos) (mLit .non) := q_lit pe_non fun _ _ => .non
theorem q_var (i : Nat) {x : Str} (hN : X.N[i]? = some x := by rfl) (hv : Vis X.env.scope x := by first | exact Or.inl rfl | exact Or.inr (Or.inl rfl) | exact Or.inr (Or.inr rfl)) (hd : (x == ("__debug__" : Str)) = false := by decide)
    (hcd : (x == ("__classdict__" : Str)) = false := by decide) : PM X W (.Name x pos) (mVar i) := ⟨PEimp (pe_var hN hv hd hcd) fun σ H Q ⟨ρ, sg, h, hs, rh, w⟩ => by
  unfold mVar at w
  split at w
  · rename_i d e
    obtain ⟨v, e1, rv⟩ := hs.val i d e
    exact ⟨v, e1, w.okI Le.refl rh rv⟩
  · exact w.elim⟩
theorem q_bin {op : Operator} {r : R2} {f : D → D → Mh → R D} (ho : OpR X (binaryOp op) r) (s : Sem2 X r f) (ha : PM X W a ma) (hb : PM X W b mb) : PM X W (.BinOp a op b pos) (m2 f ma mb) := ⟨PEimp (pe_op ho ha.pe hb.pe) fun _ _ _ w => tOp_of s w⟩
theorem q_cmp {op : CmpOp} {r : R2} {f : D → D → Mh → R D} (ho : OpR X (compareOp op) r) (s : Sem2 X r f) (ha : PM X W a ma) (hb : PM X W b mb) (hm : behindInMarks op b = false) : PM X W (.Compare a [op] [b] pos) (m2 f ma mb) :=
  ⟨PEimp (pe_cmpR ho ha.pe hb.pe hm) fun _ _ _ w => tOp_of s w⟩
theorem q_ix {r : R2} {f : D → D → Mh → R D} (ho : IxR X r) (s : Sem2 X r f) (ha : PM X W a ma) (hb : PM X W b mb) (hp : PlainIx b) : PM X W (.Subscript a b pos) (m2 f ma mb) := ⟨PEimp (pe_ix ho ha.pe hb.pe hp) fun _ _ _ w => tOp_of s w⟩
theorem q_un {op : UnaryOp} {r : V → Hp → VK → Prop} {f : D → Mh → R D} (ho : UnR X (unaryOp op) r) (s : Sem1 X r f) (ha : PM X W a ma) : PM X W (.UnaryOp op a pos) (m1 f ma) := ⟨PEimp (pe_un ho ha.pe) fun σ H Q ⟨ρ, sg, h, hs, rh, w⟩ =>
  TM.go hs rh w fun ρ1 H1 h1 v d le rh1 rv w1 => s W σ ρ1 H1 h1 Q v d rh1 rv w1⟩
/-! tests -/
def mTest (m : Sg → Mh → R D) : Sg → Mh → R Bool := fun sg h => (m sg h).bind fun d h1 => match d with
  | .bl b => .ok b h1
  | _ => .bad
theorem tTest_of {m : Sg → Mh → R D} {t : TE} (i : ∀ σ H Q, TM X.K X.mg W m σ H Q → t σ H Q) {σ : L2.St} {H : Hp} {Q : Bool → Hp → Prop} (w : TMb X.K X.mg W (mTest m) σ H Q) : tTest t σ H Q := by
  obtain ⟨ρ, sg, h, hs, rh, w⟩ := w
  refine i _ _ _ (TM.go hs rh w fun ρ1 H1 h1 v d le rh1 rv w1 => ?_)
  cases rv <;> first | exact w1.elim | skip
  exact ⟨_, rfl, w1.okI Le.refl rh1 rfl⟩
theorem q_cmpT {op : CmpOp} {r : R2} {f : D → D → Mh → R D} (ho : OpR X (compareOp op) r) (s : Sem2 X r f) (ha : PM X W a ma) (hb : PM X W b mb) (hm : behindInMarks op b = false) : PB X W (.Compare a [op] [b] pos) (mTest (m2 f ma mb)) :=
  ⟨PTimp (pt_cmpR ho ha.pe hb.pe hm) fun _ _ _ w => tTest_of (fun _ _ _ w => tOp_of s w) w⟩
/-- the truth of a value -/
def dTru : D → Mh → R Bool
  | .non, h => .ok false h
  | .bl b, h => .ok b h
  | .int i, h => .ok (i != 0) h
  | .str x, h => if x.length ≤ sizeLine then .ok (x.length != 0) h else .bad
  | .tup ds, h => .ok (!ds.isEmpty) h
  | .kt ds, h => .ok (!ds.isEmpty) h
  | .ref n, h => match h[n]? with
    | some (.lst ds) => .ok (!ds.isEmpty) h
    | some (.dk kvs) => .ok (!kvs.isEmpty) h
    | _ => .bad
  | _, _ => .bad
end
end Mo

namespace Mo
open PySem PySem.Spec PyProof.Rows L2
section
variable {X : Cx}
/-! ### operators -/
def dAdd : D → D → Mh → R D
  | .int i, .int j, h => .ok (.int (i + j)) h
  | .str a, .str b, h => if a.length + b.length ≤ sizeLine then .ok (.str (a ++ b)) h else .bad
  | .tup a, .tup b, h => if a.length + b.length ≤ sizeLine then .ok (.tup (a ++ b)) h else .bad
  | .ref n, .ref m, h => match h[n]?, h[m]? with
    | some (.lst a), some (.lst b) => if a.length + b.length ≤ sizeLine then .ok (.ref h.length) (h ++ [.lst (a ++ b)]) else .bad
    | _, _ => .bad
  | _, _, _ => .bad
theorem RHp.at {K mg ρ H h} (rh : RHp K mg ρ H h) {n : Nat} {a : Addr} {o : MO} (e : ρ[n]? = some a) (x : h[n]? = some o) : RO K mg ρ H a o := rh.obj n a o e x
theorem sem_add : Sem2 X (fun x y H Q => rI0 (fun i j => .int (i + j)) x y H Q ∨ (∃ i j, x = V.str i ∧ y = V.str j ∧ i.length + j.length ≤ sizeLine ∧ Q (V.str (i ++ j)) H) ∨ rCatA X.K x y H Q ∨ rCat x y H Q) dAdd := by
  intro W σ ρ H h Q v1 v2 d1 d2 rh r1 r2 w
  unfold dAdd at w
  split at w
  · cases r1; cases r2; exact .inl ⟨_, _, rfl, rfl, w.okI Le.refl rh (.int _)⟩
  · split at w
    · rename_i hz
      cases r1; cases r2; exact .inr (.inl ⟨_, _, rfl, rfl, hz, w.okI Le.refl rh (.str _)⟩)
    · exact w.elim
  · split at w
    · rename_i hz
      cases r1 with
      | tup t1 q1 =>
        have t1' := SqT.of (K := X.K) t1
        cases r2 with
        | tup t2 q2 =>
          have t2' := SqT.of (K := X.K) t2
          have l1 := q1.length
          have l2 := q2.length
          refine .inr (.inr (.inl ⟨_, _, _, _, rfl, rfl, t1', t2', by omega, fun e => ?_, fun _ e => ?_, fun _ _ p hp => w.tuple rh hp (q1.append q2)⟩))
          · subst e; cases q1
            exact w.okI Le.refl rh (.tup t2 q2)
          · subst e; cases q2
            rw [List.append_nil] at w
            exact w.okI Le.refl rh (.tup t1 q1)
    · exact w.elim
  · split at w
    · split at w
      · rename_i e1 e2 hz
        cases r1 with
        | ref r1 =>
          cases r2 with
          | ref r2 =>
            cases rh.at r1 e1 with
            | lst h1 q1 =>
              cases rh.at r2 e2 with
              | lst h2 q2 =>
                have l1 := q1.length
                have l2 := q2.length
                exact .inr (.inr (.inr ⟨_, _, _, _, rfl, rfl, h1, h2, by omega, fun p hp => w.alloc rh hp (RO.newList hp (q1.append q2))⟩))
      · exact w.elim
    · exact w.elim
  · exact w.elim
theorem op_add4 : OpR X (binaryOp .Add) (fun x y H Q => rI0 (fun i j => .int (i + j)) x y H Q ∨ (∃ i j, x = V.str i ∧ y = V.str j ∧ i.length + j.length ≤ sizeLine ∧ Q (V.str (i ++ j)) H) ∨ rCatA X.K x y H Q ∨ rCat x y H Q) := OpRor op_add (OpRor op_add_str (OpRor op_catA op_cat))
/-- two ints under a condition -/
def dII (c : Int → Int → Bool) (g : Int → Int → D) : D → D → Mh → R D
  | .int i, .int j, h => if c i j = true then .ok (g i j) h else .bad
  | _, _, _ => .bad
theorem sem_II {C : Int → Int → Prop} {c : Int → Int → Bool} {f : Int → Int → V} {g : Int → Int → D} (hc : ∀ i j, c i j = true → C i j) (hg : ∀ i j ρ H, RV X.K X.mg ρ H (f i j) (g i j)) : Sem2 X (rI C f) (dII c g) := by
  intro W σ ρ H h Q v1 v2 d1 d2 rh r1 r2 w
  unfold dII at w
  split at w
  · split at w
    · rename_i hz
      cases r1; cases r2; exact ⟨_, _, rfl, rfl, hc _ _ hz, w.okI Le.refl rh (hg _ _ _ _)⟩
    · exact w.elim
  · exact w.elim
/-- two ints -/
def dI0 (g : Int → Int → D) : D → D → Mh → R D
  | .int i, .int j, h => .ok (g i j) h
  | _, _, _ => .bad
theorem sem_I0 {f : Int → Int → V} {g : Int → Int → D} (hg : ∀ i j ρ H, RV X.K X.mg ρ H (f i j) (g i j)) : Sem2 X (rI0 f) (dI0 g) := by
  intro W σ ρ H h Q v1 v2 d1 d2 rh r1 r2 w
  unfold dI0 at w
  split at w
  · cases r1; cases r2; exact ⟨_, _, rfl, rfl, w.okI Le.refl rh (hg _ _ _ _)⟩
  · exact w.elim
def dSub := dI0 fun i j => .int (i - j)
def dBand := dI0 fun i j => .int (Builtin.bitAnd i j)
def dBor := dI0 fun i j => .int (Builtin.bitOr i j)
def dBxor := dI0 fun i j => .int (Builtin.bitXor i j)
def cMul (i j : Int) : Bool := decide ((-(2 ^ 64) < i ∧ i < 2 ^ 64) ∨ (-(2 ^ 64) < j ∧ j < 2 ^ 64))
theorem cMul_ok {i j : Int} (h : cMul i j = true) : CMul i j := by
  have := of_decide_eq_true h
  exact this
def dFdiv := dII (fun _ j => decide (0 < j ∧ j < 18446744073709551616)) fun i j => .int (i / j)
def dMod := dII (fun _ j => decide (0 < j)) fun i j => .int (i % j)
def cPow (i j : Int) : Bool := decide (0 ≤ j ∧ j ≤ 1000000 ∧ i.natAbs < 2 ^ 64)
theorem cPow_ok {i j : Int} (h : cPow i j = true) : CPow i j := by
  have := of_decide_eq_true h
  exact this
def cPowW (i j : Int) : Bool := decide (0 ≤ j ∧ j ≤ 1000000 ∧ i.natAbs < 2 ^ 100)
def CPowW (i j : Int) : Prop := 0 ≤ j ∧ j ≤ 1000000 ∧ i.natAbs < 2 ^ 100
theorem cPowW_ok {i j : Int} (h : cPowW i j = true) : CPowW i j := by
  have := of_decide_eq_true h
  exact this
theorem op_powW : OpR X (binaryOp .Pow) (rI CPowW fun i j => .int (i ^ j.toNat)) := opI fun i j _ _ _ _ _ hc q => by
  refine pow_int hc.1 ?_ q
  have b : Builtin.Int.intBits i ≤ i.natAbs.log2 + 1 := by
    unfold Builtin.Int.intBits
    split <;> omega
  have l : i.natAbs.log2 < 100 := PySem.Flt.log2_lt_of (by decide) hc.2.2
  have h1 := hc.1
  have h2 := hc.2.1
  have : (Builtin.Int.intBits i : Int) * j ≤ 100 * 1000000 := Int.mul_le_mul (by omega) h2 h1 (by decide)
  omega
def dPow := dII cPowW fun i j => .int (i ^ j.toNat)
def dShl := dII cPow fun i j => .int (i * 2 ^ j.toNat)
def dShr := dII (fun _ j => decide (0 ≤ j)) fun i j => .int (i / 2 ^ j.toNat)
def dMul : D → D → Mh → R D
  | .int i, .int j, h => if cMul i j = true then .ok (.int (i * j)) h else .bad
  | .ref n, .int k, h => match h[n]? with
    | some (.lst a) => if -(2 ^ 63) ≤ k ∧ k < 2 ^ 63 ∧ a.length * k.toNat ≤ sizeLine then .ok (.ref h.length) (h ++ [.lst (List.replicate k.toNat a).flatten]) else .bad
    | _ => .bad
  | _, _, _ => .bad
theorem RVs.rep {K mg ρ H} {vs : List V} {ds : List D} (r : RVs K mg ρ H vs ds) : ∀ n : Nat, RVs K mg ρ H (List.replicate n vs).flatten (List.replicate n ds).flatten
  | 0 => .nil
  | n + 1 => by
    rw [List.replicate_succ, List.replicate_succ, List.flatten_cons, List.flatten_cons]
    exact r.append (RVs.rep r n)
theorem sem_mul : Sem2 X (fun x y H Q => rI CMul (fun i j => .int (i * j)) x y H Q ∨ rRep x y H Q) dMul := by
  intro W σ ρ H h Q v1 v2 d1 d2 rh r1 r2 w
  unfold dMul at w
  split at w
  · split at w
    · rename_i hz
      cases r1; cases r2; exact .inl ⟨_, _, rfl, rfl, cMul_ok hz, w.okI Le.refl rh (.int _)⟩
    · exact w.elim
  · split at w
    · split at w
      · rename_i e1 hz
        cases r1 with
        | ref r1 =>
          cases r2
          cases rh.at r1 e1 with
          | lst h1 q1 =>
            have l1 := q1.length
            exact .inr ⟨_, _, _, rfl, rfl, h1, hz.1, hz.2.1, by rw [l1]; exact hz.2.2, fun p hp => w.alloc rh hp (RO.newList hp (q1.rep _))⟩
      · exact w.elim
    · exact w.elim
  · exact w.elim
theorem op_mul2 : OpR X (binaryOp .Mult) (fun x y H Q => rI CMul (fun i j => .int (i * j)) x y H Q ∨ rRep x y H Q) := OpRor op_mul op_rep
section
variable {W : WX} {a b : Expr} {ma mb : Sg → Mh → R D} {pos : Pos}
theorem q_add (ha : PM X W a ma) (hb : PM X W b mb) : PM X W (.BinOp a .Add b pos) (m2 dAdd ma mb) := q_bin op_add4 sem_add ha hb
theorem q_sub (ha : PM X W a ma) (hb : PM X W b mb) : PM X W (.BinOp a .Sub b pos) (m2 dSub ma mb) := q_bin op_sub (sem_I0 fun _ _ _ _ => .int _) ha hb
theorem q_mul (ha : PM X W a ma) (hb : PM X W b mb) : PM X W (.BinOp a .Mult b pos) (m2 dMul ma mb) := q_bin op_mul2 sem_mul ha hb
theorem q_fdiv (ha : PM X W a ma) (hb : PM X W b mb) : PM X W (.BinOp a .FloorDiv b pos) (m2 dFdiv ma mb) := q_bin op_fdivW (sem_II (fun _ _ h => by have := of_decide_eq_true h; exact wide_div (b := 64) this.1 (by omega) (by decide) (by decide)) fun _ _ _ _ => .int _) ha hb
theorem q_mod (ha : PM X W a ma) (hb : PM X W b mb) : PM X W (.BinOp a .Mod b pos) (m2 dMod ma mb) := q_bin op_mod (sem_II (fun _ _ h => of_decide_eq_true h) fun _ _ _ _ => .int _) ha hb
theorem q_pow (ha : PM X W a ma) (hb : PM X W b mb) : PM X W (.BinOp a .Pow b pos) (m2 dPow ma mb) := q_bin op_powW (sem_II (fun _ _ h => cPowW_ok h) fun _ _ _ _ => .int _) ha hb
theorem q_shl (ha : PM X W a ma) (hb : PM X W b mb) : PM X W (.BinOp a .LShift b pos) (m2 dShl ma mb) := q_bin op_shl (sem_II (fun _ _ h => cPow_ok h) fun _ _ _ _ => .int _) ha hb
theorem q_shr (ha : PM X W a ma) (hb : PM X W b mb) : PM X W (.BinOp a .RShift b pos) (m2 dShr ma mb) := q_bin op_shr (sem_II (fun _ _ h => of_decide_eq_true h) fun _ _ _ _ => .int _) ha hb
theorem q_band (ha : PM X W a ma) (hb : PM X W b mb) : PM X W (.BinOp a .BitAnd b pos) (m2 dBand ma mb) := q_bin op_and (sem_I0 fun _ _ _ _ => .int _) ha hb
theorem q_bor (ha : PM X W a ma) (hb : PM X W b mb) : PM X W (.BinOp a .BitOr b pos) (m2 dBor ma mb) := q_bin op_or (sem_I0 fun _ _ _ _ => .int _) ha hb
theorem q_bxor (ha : PM X W a ma) (hb : PM X W b mb) : PM X W (.BinOp a .BitXor b pos) (m2 dBxor ma mb) := q_bin op_xor (sem_I0 fun _ _ _ _ => .int _) ha hb
end
def dNeg : D → Mh → R D
  | .int i, h => .ok (.int (-i)) h
  | _, _ => .bad
theorem sem_neg : Sem1 X (rU fun i => .int (-i)) dNeg := by
  intro W σ ρ H h Q v d rh r w
  unfold dNeg at w
  split at w
  · cases r; exact ⟨_, rfl, w.okI Le.refl rh (.int _)⟩
  · exact w.elim
theorem q_neg {W : WX} {a : Expr} {ma : Sg → Mh → R D} {pos : Pos} (ha : PM X W a ma) : PM X W (.UnaryOp .USub a pos) (m1 dNeg ma) := q_un un_neg sem_neg ha

/-! ### comparisons -/
def pdl (f : D → Option PyData) : List D → Option (List PyData)
  | [] => some []
  | d :: ds => match f d, pdl f ds with
    | some a, some b => some (a :: b)
    | _, _ => none
def pd : Nat → Mh → D → Option PyData
  | 0, _, _ => none
  | n + 1, h, d => match d with
    | .non => some .none
    | .bl b => some (.bool b)
    | .int i => some (.int i)
    | .str x => some (.str x)
    | .tup ds => (pdl (pd n h) ds).map .tuple
    | .kt ds => (pdl (pd n h) ds).map .tuple
    | .ref m => match h[m]? with
      | some (.lst ds) => (pdl (pd n h) ds).map .list
      | some (.fls ds) => (pdl (pd n h) ds).map .list
      | _ => none
    | _ => none
theorem pdl_dp {K mg ρ H} {f : D → Option PyData} (hf : ∀ v d p, RV K mg ρ H v d → f d = some p → Dp K H v p) : ∀ {vs : List V} {ds : List D} {ps : List PyData}, RVs K mg ρ H vs ds → pdl f ds = some ps → DpAll K H vs ps
  | _, _, _, .nil, e => by cases e; exact .nil
  | _, _, _, .cons r t, e => by
    unfold pdl at e
    split at e
    · rename_i e1 e2
      cases e
      exact .cons (hf _ _ _ r e1) (pdl_dp hf t e2)
    · cases e
theorem pd_dp {K mg ρ H h} (rh : RHp K mg ρ H h) : ∀ (n : Nat) (v : V) (d : D) (p : PyData), RV K mg ρ H v d → pd n h d = some p → Dp K H v p
  | 0, _, _, _, _, e => by cases e
  | n + 1, v, d, p, r, e => by
    have ih := pd_dp rh n
    cases r with
    | non => cases e; exact .non
    | bl b => cases e; exact .bl b
    | int i => cases e; exact .int i
    | str x => cases e; exact .str x
    | ty x => cases e
    | glo x => cases e
    | tup t q =>
      simp only [pd, Option.map_eq_some_iff] at e
      obtain ⟨ps, e, rfl⟩ := e
      exact .tup (SqT.of t) (pdl_dp ih q e)
    | kt t q =>
      simp only [pd, Option.map_eq_some_iff] at e
      obtain ⟨ps, e, rfl⟩ := e
      exact .tup t (pdl_dp ih q e)
    | ref r =>
      simp only [pd] at e
      split at e
      · rename_i ds e1
        simp only [Option.map_eq_some_iff] at e
        obtain ⟨ps, e, rfl⟩ := e
        cases rh.at r e1 with
        | lst h1 q1 => exact .lst (SqL.of h1) (pdl_dp ih q1 e)
      · rename_i ds e1
        simp only [Option.map_eq_some_iff] at e
        obtain ⟨ps, e, rfl⟩ := e
        cases rh.at r e1 with
        | fls h1 q1 => exact .lst h1.sq (pdl_dp ih q1 e)
      · cases e
def dEqB (neg : Bool) (x y : D) (h : Mh) : R D := match pd 66 h x, pd 66 h y with
  | some a, some b => if SeqAt.shaped a = true ∧ SeqAt.shaped b = true then .ok (.bl (if neg then !PyData.eqv a b else PyData.eqv a b)) h else .bad
  | _, _ => .bad
def dEq := dEqB false
def dNe := dEqB true
theorem sem_eq : Sem2 X (rEqD X.K) dEq := by
  intro W σ ρ H h Q v1 v2 d1 d2 rh r1 r2 w
  unfold dEq dEqB at w
  split at w
  · split at w
    · rename_i e1 e2 hz
      exact ⟨_, _, pd_dp rh _ _ _ _ r1 e1, pd_dp rh _ _ _ _ r2 e2, hz.1, hz.2, w.okI Le.refl rh (.bl _)⟩
    · exact w.elim
  · exact w.elim
theorem sem_ne : Sem2 X (rNeD X.K) dNe := by
  intro W σ ρ H h Q v1 v2 d1 d2 rh r1 r2 w
  unfold dNe dEqB at w
  split at w
  · split at w
    · rename_i e1 e2 hz
      exact ⟨_, _, pd_dp rh _ _ _ _ r1 e1, pd_dp rh _ _ _ _ r2 e2, hz.1, hz.2, w.okI Le.refl rh (.bl _)⟩
    · exact w.elim
  · exact w.elim
/-- is None -/
def dIs : D → D → Mh → R D
  | x, .non, h => .ok (.bl (match x with | .non => true | _ => false)) h
  | _, _, _ => .bad
def dIsNot : D → D → Mh → R D
  | x, .non, h => .ok (.bl (match x with | .non => false | _ => true)) h
  | _, _, _ => .bad
theorem sem_is : Sem2 X (fun x y H Q => y = V.non ∧ Q (V.bl (decide (x = V.non))) H) dIs := by
  intro W σ ρ H h Q v1 v2 d1 d2 rh r1 r2 w
  unfold dIs at w
  split at w
  · cases r2
    refine ⟨rfl, w.okI Le.refl rh ?_⟩
    cases r1 <;> exact .bl _
  · exact w.elim
theorem sem_isNot : Sem2 X (fun x y H Q => y = V.non ∧ Q (V.bl (!decide (x = V.non))) H) dIsNot := by
  intro W σ ρ H h Q v1 v2 d1 d2 rh r1 r2 w
  unfold dIsNot at w
  split at w
  · cases r2
    refine ⟨rfl, w.okI Le.refl rh ?_⟩
    cases r1 <;> exact .bl _
  · exact w.elim
/-- < and its kin: ints, texts -/
def dLt : D → D → Mh → R D
  | .int i, .int j, h => .ok (.bl (decide (i < j))) h
  | .str a, .str b, h => .ok (.bl (decide (a.cps.toList < b.cps.toList))) h
  | _, _, _ => .bad
def dLe : D → D → Mh → R D
  | .int i, .int j, h => .ok (.bl (decide (i ≤ j))) h
  | .str a, .str b, h => .ok (.bl (!decide (b.cps.toList < a.cps.toList))) h
  | _, _, _ => .bad
def dGt : D → D → Mh → R D
  | .int i, .int j, h => .ok (.bl (decide (j < i))) h
  | .str a, .str b, h => .ok (.bl (decide (b.cps.toList < a.cps.toList))) h
  | _, _, _ => .bad
def dGe : D → D → Mh → R D
  | .int i, .int j, h => .ok (.bl (decide (j ≤ i))) h
  | .str a, .str b, h => .ok (.bl (!decide (a.cps.toList < b.cps.toList))) h
  | _, _, _ => .bad
end
end Mo

namespace Mo
open PySem PySem.Spec PyProof.Rows L2
section
variable {X : Cx}
/-! ### comparisons, further -/
theorem sem_lt : Sem2 X (fun x y H Q => rI0 (fun i j => .bl (decide (i < j))) x y H Q ∨ ∃ i j, x = V.str i ∧ y = V.str j ∧ Q (V.bl (decide (i.cps.toList < j.cps.toList))) H) dLt := by
  intro W σ ρ H h Q v1 v2 d1 d2 rh r1 r2 w
  unfold dLt at w
  split at w
  · cases r1; cases r2; exact .inl ⟨_, _, rfl, rfl, w.okI Le.refl rh (.bl _)⟩
  · cases r1; cases r2; exact .inr ⟨_, _, rfl, rfl, w.okI Le.refl rh (.bl _)⟩
  · exact w.elim
theorem sem_le : Sem2 X (fun x y H Q => rI0 (fun i j => .bl (decide (i ≤ j))) x y H Q ∨ ∃ i j, x = V.str i ∧ y = V.str j ∧ Q (V.bl (!decide (j.cps.toList < i.cps.toList))) H) dLe := by
  intro W σ ρ H h Q v1 v2 d1 d2 rh r1 r2 w
  unfold dLe at w
  split at w
  · cases r1; cases r2; exact .inl ⟨_, _, rfl, rfl, w.okI Le.refl rh (.bl _)⟩
  · cases r1; cases r2; exact .inr ⟨_, _, rfl, rfl, w.okI Le.refl rh (.bl _)⟩
  · exact w.elim
theorem sem_gt : Sem2 X (fun x y H Q => rI0 (fun i j => .bl (decide (j < i))) x y H Q ∨ ∃ i j, x = V.str i ∧ y = V.str j ∧ Q (V.bl (decide (j.cps.toList < i.cps.toList))) H) dGt := by
  intro W σ ρ H h Q v1 v2 d1 d2 rh r1 r2 w
  unfold dGt at w
  split at w
  · cases r1; cases r2; exact .inl ⟨_, _, rfl, rfl, w.okI Le.refl rh (.bl _)⟩
  · cases r1; cases r2; exact .inr ⟨_, _, rfl, rfl, w.okI Le.refl rh (.bl _)⟩
  · exact w.elim
theorem sem_ge : Sem2 X (fun x y H Q => rI0 (fun i j => .bl (decide (j ≤ i))) x y H Q ∨ ∃ i j, x = V.str i ∧ y = V.str j ∧ Q (V.bl (!decide (i.cps.toList < j.cps.toList))) H) dGe := by
  intro W σ ρ H h Q v1 v2 d1 d2 rh r1 r2 w
  unfold dGe at w
  split at w
  · cases r1; cases r2; exact .inl ⟨_, _, rfl, rfl, w.okI Le.refl rh (.bl _)⟩
  · cases r1; cases r2; exact .inr ⟨_, _, rfl, rfl, w.okI Le.refl rh (.bl _)⟩
  · exact w.elim
theorem op_lt2 : OpR X (compareOp .Lt) (fun x y H Q => rI0 (fun i j => .bl (decide (i < j))) x y H Q ∨ ∃ i j, x = V.str i ∧ y = V.str j ∧ Q (V.bl (decide (i.cps.toList < j.cps.toList))) H) := OpRor op_lt op_lt_str
theorem op_le2 : OpR X (compareOp .LtE) (fun x y H Q => rI0 (fun i j => .bl (decide (i ≤ j))) x y H Q ∨ ∃ i j, x = V.str i ∧ y = V.str j ∧ Q (V.bl (!decide (j.cps.toList < i.cps.toList))) H) := OpRor op_le op_le_str
theorem op_gt2 : OpR X (compareOp .Gt) (fun x y H Q => rI0 (fun i j => .bl (decide (j < i))) x y H Q ∨ ∃ i j, x = V.str i ∧ y = V.str j ∧ Q (V.bl (decide (j.cps.toList < i.cps.toList))) H) := OpRor op_gt op_gt_str
theorem op_ge2 : OpR X (compareOp .GtE) (fun x y H Q => rI0 (fun i j => .bl (decide (j ≤ i))) x y H Q ∨ ∃ i j, x = V.str i ∧ y = V.str j ∧ Q (V.bl (!decide (i.cps.toList < j.cps.toList))) H) := OpRor op_ge op_ge_str
/-- == : texts and small things at once, else as data -/
def scD : D → D → Option Bool
  | .str a, .str b => some (decide (a = b))
  | .int a, .int b => some (decide (a = b))
  | .bl a, .bl b => some (decide (a = b))
  | .non, .non => some true
  | .non, .str _ => some false
  | .str _, .non => some false
  | .non, .int _ => some false
  | .int _, .non => some false
  | .int _, .str _ => some false
  | .str _, .int _ => some false
  | _, _ => none
def dE (neg : Bool) (x y : D) (h : Mh) : R D := match scD x y with
  | some b => .ok (.bl (if neg then !b else b)) h
  | none => dEqB neg x y h
theorem sc_of {K mg ρ H} {v1 v2 : V} {d1 d2 : D} {b : Bool} (r1 : RV K mg ρ H v1 d1) (r2 : RV K mg ρ H v2 d2) (e : scD d1 d2 = some b) : scal v1 v2 = true ∧ decide (v1 = v2) = b := by
  cases r1 <;> cases r2 <;> first
    | (cases e; done)
    | (cases e; exact ⟨rfl, by simp⟩)
theorem sem_E (neg : Bool) : Sem2 X (fun x y H Q => (scal x y = true ∧ Q (.bl (if neg then !decide (x = y) else decide (x = y))) H) ∨ (if neg then rNeD X.K x y H Q else rEqD X.K x y H Q)) (dE neg) := by
  intro W σ ρ H h Q v1 v2 d1 d2 rh r1 r2 w
  unfold dE at w
  split at w
  · rename_i b e
    obtain ⟨s1, s2⟩ := sc_of r1 r2 e
    refine .inl ⟨s1, ?_⟩
    rw [s2]
    exact w.okI Le.refl rh (.bl _)
  · cases neg with
    | true => exact .inr (sem_ne W σ ρ H h Q v1 v2 d1 d2 rh r1 r2 w)
    | false => exact .inr (sem_eq W σ ρ H h Q v1 v2 d1 d2 rh r1 r2 w)
theorem op_E (hu : X.A.units + 64 < cLine) : OpR X (compareOp .Eq) (fun x y H Q => (scal x y = true ∧ Q (.bl (if false then !decide (x = y) else decide (x = y))) H) ∨ (if false then rNeD X.K x y H Q else rEqD X.K x y H Q)) := OpRor op_eq (op_eqD hu)
theorem op_NE (hu : X.A.units + 64 < cLine) : OpR X (compareOp .NotEq) (fun x y H Q => (scal x y = true ∧ Q (.bl (if true then !decide (x = y) else decide (x = y))) H) ∨ (if true then rNeD X.K x y H Q else rEqD X.K x y H Q)) := OpRor op_ne (op_neD hu)
/-- in, not in: a sign in a text; among flat items -/
def flatD : D → Bool
  | .non => true
  | .bl _ => true
  | .int _ => true
  | .str _ => true
  | _ => false
def eqF : D → D → Bool
  | .non, .non => true
  | .bl a, .bl b => a == b
  | .bl a, .int b => (if a then 1 else 0) == b
  | .int a, .bl b => a == (if b then 1 else 0)
  | .int a, .int b => a == b
  | .str a, .str b => a == b
  | _, _ => false
theorem flat_of {K mg ρ H} {v : V} {d : D} (r : RV K mg ρ H v d) (f : flatD d = true) : flatV v = true := by cases r <;> first | rfl | cases f
theorem eqF_of {K mg ρ H} {v v' : V} {d d' : D} (r : RV K mg ρ H v d) (r' : RV K mg ρ H v' d') (f : flatD d = true) (f' : flatD d' = true) : eqV v v' = eqF d d' := by
  cases r <;> first
    | (cases f; done)
    | (cases r' <;> first | rfl | (cases f'; done))
theorem allF_of {K mg ρ H} : ∀ {vs : List V} {ds : List D}, RVs K mg ρ H vs ds → ds.all flatD = true → vs.all flatV = true
  | _, _, .nil, _ => rfl
  | _, _, .cons r t, f => by
    rw [List.all_cons, Bool.and_eq_true] at f ⊢
    exact ⟨flat_of r f.1, allF_of t f.2⟩
theorem inF_of {K mg ρ H} {v : V} {d : D} (r : RV K mg ρ H v d) (f : flatD d = true) : ∀ {vs : List V} {ds : List D}, RVs K mg ρ H vs ds → ds.all flatD = true → inV v vs = ds.any fun y => eqF y d
  | _, _, .nil, _ => rfl
  | _, _, .cons q t, g => by
    rw [List.all_cons, Bool.and_eq_true] at g
    have ih := inF_of r f t g.2
    unfold inV at ih ⊢
    rw [List.any_cons, List.any_cons, ih, eqF_of q r g.1 f]
def keyD : D → Option Key
  | .int i => some (.inl i)
  | .str x => some (.inr x)
  | _ => none
def dIn (neg : Bool) (x y : D) (h : Mh) : R D := match x, y with
  | .str a, .str b => match a.cps.toList with
    | [c] => .ok (.bl (if neg then !decide (c ∈ b.cps.toList) else decide (c ∈ b.cps.toList))) h
    | _ => .ok (.bl (if neg then !(!(Builtin.Str.occurrences b a 0 b.length 1).isEmpty) else !(Builtin.Str.occurrences b a 0 b.length 1).isEmpty)) h
  | x, .tup ds => if flatD x = true ∧ ds.all flatD = true then .ok (.bl (if neg then !(ds.any fun y => eqF y x) else ds.any fun y => eqF y x)) h else .bad
  | x, .kt ds => if flatD x = true ∧ ds.all flatD = true then .ok (.bl (if neg then !(ds.any fun y => eqF y x) else ds.any fun y => eqF y x)) h else .bad
  | x, .ref n => match h[n]? with
    | some (.lst ds) => if flatD x = true ∧ ds.all flatD = true then .ok (.bl (if neg then !(ds.any fun y => eqF y x) else ds.any fun y => eqF y x)) h else .bad
    | _ => .bad
  | _, _ => .bad
theorem one_sign : ∀ (a : Str) (c : Nat), a.cps.toList = [c] → a = ⟨#[c]⟩
  | ⟨cps⟩, c, e => by rw [show cps = #[c] from Array.toList_inj.mp e]
def rIn3 (K : PySem.W.Frag) (neg : Bool) : R2 := fun x y H Q => rIn K neg x y H Q ∨ (∃ (c : Nat) (z : Str), x = .str ⟨#[c]⟩ ∧ y = .str z ∧ Q (.bl (if neg then !decide (c ∈ z.cps.toList) else decide (c ∈ z.cps.toList))) H) ∨
  ∃ i j, x = V.str i ∧ y = V.str j ∧ Q (V.bl (if neg then !(!(Builtin.Str.occurrences j i 0 j.length 1).isEmpty) else !(Builtin.Str.occurrences j i 0 j.length 1).isEmpty)) H
theorem sem_in (neg : Bool) : Sem2 X (rIn3 X.K neg) (dIn neg) := by
  intro W σ ρ H h Q v1 v2 d1 d2 rh r1 r2 w
  unfold dIn at w
  split at w
  · split at w
    · rename_i c e
      cases r1; cases r2
      exact .inr (.inl ⟨c, _, congrArg V.str (one_sign _ _ e), rfl, w.okI Le.refl rh (.bl _)⟩)
    · cases r1; cases r2
      exact .inr (.inr ⟨_, _, rfl, rfl, w.okI Le.refl rh (.bl _)⟩)
  · split at w
    · rename_i hz
      cases r2 with
      | tup t q =>
        have t := SqT.of (K := X.K) t
        refine .inl ⟨_, _, rfl, .inr t, flat_of r1 hz.1, allF_of q hz.2, ?_⟩
        rw [inF_of r1 hz.1 q hz.2]
        exact w.okI Le.refl rh (.bl _)
    · exact w.elim
  · split at w
    · rename_i hz
      cases r2 with
      | kt t q =>
        refine .inl ⟨_, _, rfl, .inr t, flat_of r1 hz.1, allF_of q hz.2, ?_⟩
        rw [inF_of r1 hz.1 q hz.2]
        exact w.okI Le.refl rh (.bl _)
    · exact w.elim
  · split at w
    · split at w
      · rename_i e hz
        cases r2 with
        | ref r2 =>
          cases rh.at r2 e with
          | lst h1 q =>
            refine .inl ⟨_, _, rfl, .inl (SqL.of h1), flat_of r1 hz.1, allF_of q hz.2, ?_⟩
            rw [inF_of r1 hz.1 q hz.2]
            exact w.okI Le.refl rh (.bl _)
      · exact w.elim
    · exact w.elim
  · exact w.elim
theorem op_in3 : OpR X (compareOp .In) (rIn3 X.K false) := OpRor op_in_seq (OpRor op_in_sign op_in_str)
theorem op_notIn3 : OpR X (compareOp .NotIn) (rIn3 X.K true) := OpRor op_notIn_seq (OpRor op_notIn_sign op_notIn_str)
section
variable {W : WX} {a b c : Expr} {ma mb mc : Sg → Mh → R D} {pos : Pos}
theorem q_lt (ha : PM X W a ma) (hb : PM X W b mb) : PM X W (.Compare a [.Lt] [b] pos) (m2 dLt ma mb) := q_cmp op_lt2 sem_lt ha hb (nomark _)
theorem q_le (ha : PM X W a ma) (hb : PM X W b mb) : PM X W (.Compare a [.LtE] [b] pos) (m2 dLe ma mb) := q_cmp op_le2 sem_le ha hb (nomark _)
theorem q_gt (ha : PM X W a ma) (hb : PM X W b mb) : PM X W (.Compare a [.Gt] [b] pos) (m2 dGt ma mb) := q_cmp op_gt2 sem_gt ha hb (nomark _)
theorem q_ge (ha : PM X W a ma) (hb : PM X W b mb) : PM X W (.Compare a [.GtE] [b] pos) (m2 dGe ma mb) := q_cmp op_ge2 sem_ge ha hb (nomark _)
theorem q_eq (hu : X.A.units + 64 < cLine) (ha : PM X W a ma) (hb : PM X W b mb) : PM X W (.Compare a [.Eq] [b] pos) (m2 (dE false) ma mb) := q_cmp (op_E hu) (sem_E false) ha hb (nomark _)
theorem q_ne (hu : X.A.units + 64 < cLine) (ha : PM X W a ma) (hb : PM X W b mb) : PM X W (.Compare a [.NotEq] [b] pos) (m2 (dE true) ma mb) := q_cmp (op_NE hu) (sem_E true) ha hb (nomark _)
theorem q_is (ha : PM X W a ma) (hb : PM X W b mb) : PM X W (.Compare a [.Is] [b] pos) (m2 dIs ma mb) := q_cmp op_isN sem_is ha hb (nomark _)
theorem q_isnot (ha : PM X W a ma) (hb : PM X W b mb) : PM X W (.Compare a [.IsNot] [b] pos) (m2 dIsNot ma mb) := q_cmp op_notN sem_isNot ha hb (nomark _)
theorem q_in (ha : PM X W a ma) (hb : PM X W b mb) (hm : behindInMarks .In b = false := by with_unfolding_all rfl) : PM X W (.Compare a [.In] [b] pos) (m2 (dIn false) ma mb) := q_cmp op_in3 (sem_in false) ha hb hm
theorem q_notin (ha : PM X W a ma) (hb : PM X W b mb) (hm : behindInMarks .NotIn b = false := by with_unfolding_all rfl) : PM X W (.Compare a [.NotIn] [b] pos) (m2 (dIn true) ma mb) := q_cmp op_notIn3 (sem_in true) ha hb hm
theorem t_lt (ha : PM X W a ma) (hb : PM X W b mb) : PB X W (.Compare a [.Lt] [b] pos) (mTest (m2 dLt ma mb)) := q_cmpT op_lt2 sem_lt ha hb (nomark _)
theorem t_le (ha : PM X W a ma) (hb : PM X W b mb) : PB X W (.Compare a [.LtE] [b] pos) (mTest (m2 dLe ma mb)) := q_cmpT op_le2 sem_le ha hb (nomark _)
theorem t_gt (ha : PM X W a ma) (hb : PM X W b mb) : PB X W (.Compare a [.Gt] [b] pos) (mTest (m2 dGt ma mb)) := q_cmpT op_gt2 sem_gt ha hb (nomark _)
theorem t_ge (ha : PM X W a ma) (hb : PM X W b mb) : PB X W (.Compare a [.GtE] [b] pos) (mTest (m2 dGe ma mb)) := q_cmpT op_ge2 sem_ge ha hb (nomark _)
theorem t_eq (hu : X.A.units + 64 < cLine) (ha : PM X W a ma) (hb : PM X W b mb) : PB X W (.Compare a [.Eq] [b] pos) (mTest (m2 (dE false) ma mb)) := q_cmpT (op_E hu) (sem_E false) ha hb (nomark _)
theorem t_ne (hu : X.A.units + 64 < cLine) (ha : PM X W a ma) (hb : PM X W b mb) : PB X W (.Compare a [.NotEq] [b] pos) (mTest (m2 (dE true) ma mb)) := q_cmpT (op_NE hu) (sem_E true) ha hb (nomark _)
theorem t_is (ha : PM X W a ma) (hb : PM X W b mb) : PB X W (.Compare a [.Is] [b] pos) (mTest (m2 dIs ma mb)) := q_cmpT op_isN sem_is ha hb (nomark _)
theorem t_isnot (ha : PM X W a ma) (hb : PM X W b mb) : PB X W (.Compare a [.IsNot] [b] pos) (mTest (m2 dIsNot ma mb)) := q_cmpT op_notN sem_isNot ha hb (nomark _)
theorem t_in (ha : PM X W a ma) (hb : PM X W b mb) (hm : behindInMarks .In b = false := by with_unfolding_all rfl) : PB X W (.Compare a [.In] [b] pos) (mTest (m2 (dIn false) ma mb)) := q_cmpT op_in3 (sem_in false) ha hb hm
theorem t_notin (ha : PM X W a ma) (hb : PM X W b mb) (hm : behindInMarks .NotIn b = false := by with_unfolding_all rfl) : PB X W (.Compare a [.NotIn] [b] pos) (mTest (m2 (dIn true) ma mb)) := q_cmpT op_notIn3 (sem_in true) ha hb hm
/-- a op1 b op2 c -/
def mChain (f g : D → D → Mh → R D) (ma mb mc : Sg → Mh → R D) : Sg → Mh → R D := fun sg h => (ma sg h).bind fun x h1 => (mb sg h1).bind fun y h2 => (f x y h2).bind fun z h3 => match z with
  | .bl true => (mc sg h3).bind fun w h4 => g y w h4
  | .bl false => .ok (.bl false) h3
  | _ => .bad
theorem tChain_of {r r' : R2} {f g : D → D → Mh → R D} (s1 : Sem2 X r f) (s2 : Sem2 X r' g) {σ : L2.St} {H : Hp} {Q : VK} (w : TM X.K X.mg W (mChain f g ma mb mc) σ H Q) : tChain r r' (TM X.K X.mg W ma) (TM X.K X.mg W mb) (TM X.K X.mg W mc) σ H Q := by
  obtain ⟨ρ, sg, h, hs, rh, w⟩ := w
  refine TM.go hs rh w fun ρ1 H1 h1 v d le rh1 rv w1 => TM.go (hs.mono le) rh1 w1 fun ρ2 H2 h2 v2 d2 le2 rh2 rv2 w2 => ?_
  refine s1 W σ ρ2 H2 h2 _ v v2 d d2 rh2 (rv.mono le2) rv2 (w2.cut fun ρ3 H3 h3 v3 d3 le3 rh3 rv3 w3 => ?_)
  split at w3
  · cases rv3
    refine ⟨true, rfl, ?_⟩
    rw [if_pos rfl]
    exact TM.go ((hs.mono le).mono (le2.trans le3)) rh3 w3 fun ρ4 H4 h4 v4 d4 le4 rh4 rv4 w4 => s2 W σ ρ4 H4 h4 Q v2 v4 d2 d4 rh4 (rv2.mono (le3.trans le4)) rv4 w4
  · cases rv3
    refine ⟨false, rfl, ?_⟩
    rw [if_neg Bool.false_ne_true]
    exact w3.okI Le.refl rh3 (.bl _)
  · exact w3.elim
theorem q_lele (ha : PM X W a ma) (hb : PM X W b mb) (hc : PM X W c mc) (hm : lastMarks [.LtE, .LtE] [b, c] = false := by with_unfolding_all rfl) : PM X W (.Compare a [.LtE, .LtE] [b, c] pos) (mChain dLe dLe ma mb mc) := ⟨PEimp (pe_chain op_le2 op_le2 ha.pe hb.pe hc.pe hm) fun _ _ _ w => tChain_of sem_le sem_le w⟩
theorem t_lele (ha : PM X W a ma) (hb : PM X W b mb) (hc : PM X W c mc) (hm : lastMarks [.LtE, .LtE] [b, c] = false := by with_unfolding_all rfl) : PB X W (.Compare a [.LtE, .LtE] [b, c] pos) (mTest (mChain dLe dLe ma mb mc)) := ⟨PTimp (pt_chain op_le2 op_le2 ha.pe hb.pe hc.pe hm) fun _ _ _ w => tTest_of (fun _ _ _ w => tChain_of sem_le sem_le w) w⟩
/-! ### and, or, not, if-else -/
theorem dTru_of {K mg ρ H h} {v : V} {d : D} {b : Bool} {h' : Mh} (rh : RHp K mg ρ H h) (r : RV K mg ρ H v d) (e : dTru d h = .ok b h') : h' = h ∧ TruV K v H b := by
  have emp : ∀ {vs : List V} {ds : List D}, RVs K mg ρ H vs ds → ds.isEmpty = vs.isEmpty := fun {vs ds} q => by cases q <;> rfl
  cases r with
  | non => cases e; exact ⟨rfl, rfl⟩
  | bl b => cases e; exact ⟨rfl, rfl⟩
  | int i => cases e; exact ⟨rfl, rfl⟩
  | ty n => cases e
  | glo n => cases e
  | str x =>
    simp only [dTru] at e
    split at e
    · rename_i hz
      cases e
      refine ⟨rfl, hz, ?_⟩
      rw [Bool.eq_iff_iff]
      simp
    · cases e
  | tup t q => cases e; exact ⟨rfl, .inr (.inl ⟨_, SqT.of t, by rw [emp q]⟩)⟩
  | kt t q => cases e; exact ⟨rfl, .inr (.inl ⟨_, t, by rw [emp q]⟩)⟩
  | ref r =>
    simp only [dTru] at e
    split at e
    · rename_i e1
      cases e
      cases rh.at r e1 with
      | lst h1 q => exact ⟨rfl, .inl ⟨_, SqL.of h1, by rw [emp q]⟩⟩
    · rename_i e1
      cases e
      cases rh.at r e1 with
      | dk h1 ke q =>
        refine ⟨rfl, .inr (.inr ⟨_, h1, ?_⟩)⟩
        rename_i kds kvs
        cases kvs with
        | nil => cases kds with
          | nil => rfl
          | cons x y => cases ke
        | cons x y => cases kds with
          | nil => cases ke
          | cons z y => rfl
    · cases e
/-- a value as a test -/
def mTru (m : Sg → Mh → R D) : Sg → Mh → R Bool := fun sg h => (m sg h).bind dTru
theorem tru_bind {K mg} {ρ : Ren} {H : Hp} {h : Mh} {v : V} {d : D} {σ : L2.St} {γ δ : Type} {rel2 : Ren → Hp → δ → γ → Prop} {Q : δ → Hp → Prop} {f : Bool → Mh → R γ} (rh : RHp K mg ρ H h) (r : RV K mg ρ H v d) (w : WG K mg rel2 W σ Q ρ H ((dTru d h).bind f)) :
    ∃ b, TruV K v H b ∧ WG K mg rel2 W σ Q ρ H (f b h) := by
  cases e : dTru d h with
  | ok b h' =>
    obtain ⟨rfl, t⟩ := dTru_of rh r e
    rw [e] at w
    exact ⟨b, t, w⟩
  | bad => rw [e] at w; exact w.elim
  | exc c fs h' =>
    exfalso
    cases d <;> simp only [dTru] at e <;> first
      | (cases e; done)
      | (split at e <;> cases e)
theorem t_val (ha : PM X W a ma) (he : ∀ whole, isTrue a X.env whole = (do let v ← whole; standAt a.pos; holding [v] (truthy v)) := by intro _; rfl) : PB X W a (mTru ma) := ⟨PTimp (pt_truth ha.pe he) fun σ H Q ⟨ρ, sg, h, hs, rh, w⟩ =>
  TM.go hs rh w fun ρ1 H1 h1 v d le rh1 rv w1 => by
    have w1' : WG X.K X.mg (fun _ _ v a => v = a) W σ Q ρ1 H1 ((dTru d h1).bind fun b h => .ok b h) := by
      cases e : dTru d h1 <;> rw [e] at w1 <;> exact w1
    obtain ⟨b, t, w2⟩ := tru_bind rh1 rv w1'
    exact ⟨b, t, w2.okI Le.refl rh1 rfl⟩⟩
structure PBW (X : Cx) (W : WX) (e : Expr) (m : Sg → Mh → R Bool) : Prop where
  pw : PW X e (TMb X.K X.mg W m)
theorem PWimp {X : Cx} {e : Expr} {t t' : TT} (h : PW X e t) (i : ∀ σ H Q, t' σ H Q → t σ H Q) : PW X e t' := ⟨fun wh pins s σ H Q I hw => h.run wh pins s σ H Q I (i _ _ _ hw)⟩
def mAndT (m n : Sg → Mh → R Bool) : Sg → Mh → R Bool := fun sg h => (m sg h).bind fun b h1 => if b = true then n sg h1 else .ok false h1
def mOrT (m n : Sg → Mh → R Bool) : Sg → Mh → R Bool := fun sg h => (m sg h).bind fun b h1 => if b = true then .ok true h1 else n sg h1
variable {rest : List Expr} {na nb : Sg → Mh → R Bool}
theorem tw_and1 (ha : PB X W a na) : PBW X W (.BoolOp .And [a] pos) na := ⟨pw_and1 ha.pt⟩
theorem tw_or1 (ha : PB X W a na) : PBW X W (.BoolOp .Or [a] pos) na := ⟨pw_or1 ha.pt⟩
theorem tw_and (ha : PB X W a na) (hb : PBW X W (.BoolOp .And (b :: rest) pos) nb) : PBW X W (.BoolOp .And (a :: b :: rest) pos) (mAndT na nb) := ⟨PWimp (pw_and ha.pt hb.pw) fun σ H Q ⟨ρ, sg, h, hs, rh, w⟩ =>
  TMb.go hs rh w fun ρ1 H1 h1 b le rh1 w1 => by
    split
    · rename_i hb; rw [if_pos hb] at w1; exact ⟨ρ1, sg, h1, hs.mono le, rh1, w1⟩
    · rename_i hb; rw [if_neg hb] at w1; exact w1.okI Le.refl rh1 rfl⟩
theorem tw_or (ha : PB X W a na) (hb : PBW X W (.BoolOp .Or (b :: rest) pos) nb) : PBW X W (.BoolOp .Or (a :: b :: rest) pos) (mOrT na nb) := ⟨PWimp (pw_or ha.pt hb.pw) fun σ H Q ⟨ρ, sg, h, hs, rh, w⟩ =>
  TMb.go hs rh w fun ρ1 H1 h1 b le rh1 w1 => by
    split
    · rename_i hb; rw [if_pos hb] at w1; exact w1.okI Le.refl rh1 rfl
    · rename_i hb; rw [if_neg hb] at w1; exact ⟨ρ1, sg, h1, hs.mono le, rh1, w1⟩⟩
theorem t_w (h : PBW X W a na) : PB X W a na := ⟨h.pw.pt⟩
def mNotT (m : Sg → Mh → R Bool) : Sg → Mh → R Bool := fun sg h => (m sg h).bind fun b h1 => .ok (!b) h1
theorem t_not (ha : PB X W a na) : PB X W (.UnaryOp .Not a pos) (mNotT na) := ⟨PTimp (pt_not ha.pt) fun σ H Q ⟨ρ, sg, h, hs, rh, w⟩ => TMb.go hs rh w fun ρ1 H1 h1 b le rh1 w1 => w1.okI Le.refl rh1 rfl⟩
/-- as values -/
def mAnd (m n : Sg → Mh → R D) : Sg → Mh → R D := fun sg h => (m sg h).bind fun d h1 => (dTru d h1).bind fun b h2 => if b = true then n sg h2 else .ok d h2
def mOr (m n : Sg → Mh → R D) : Sg → Mh → R D := fun sg h => (m sg h).bind fun d h1 => (dTru d h1).bind fun b h2 => if b = true then .ok d h2 else n sg h2
theorem q_one {op} (ha : PM X W a ma) : PM X W (.BoolOp op [a] pos) ma := ⟨pe_one ha.pe⟩
theorem q_and (ha : PM X W a ma) (hb : PM X W (.BoolOp .And (b :: rest) pos) mb) : PM X W (.BoolOp .And (a :: b :: rest) pos) (mAnd ma mb) := ⟨PEimp (pe_andT ha.pe hb.pe) fun σ H Q ⟨ρ, sg, h, hs, rh, w⟩ =>
  TM.go hs rh w fun ρ1 H1 h1 v d le rh1 rv w1 => by
    obtain ⟨b, t, w2⟩ := tru_bind rh1 rv w1
    refine ⟨b, t, ?_⟩
    split
    · rename_i hb; rw [if_pos hb] at w2; exact ⟨ρ1, sg, h1, hs.mono le, rh1, w2⟩
    · rename_i hb; rw [if_neg hb] at w2; exact w2.okI Le.refl rh1 rv⟩
theorem q_or (ha : PM X W a ma) (hb : PM X W (.BoolOp .Or (b :: rest) pos) mb) : PM X W (.BoolOp .Or (a :: b :: rest) pos) (mOr ma mb) := ⟨PEimp (pe_orT ha.pe hb.pe) fun σ H Q ⟨ρ, sg, h, hs, rh, w⟩ =>
  TM.go hs rh w fun ρ1 H1 h1 v d le rh1 rv w1 => by
    obtain ⟨b, t, w2⟩ := tru_bind rh1 rv w1
    refine ⟨b, t, ?_⟩
    split
    · rename_i hb; rw [if_pos hb] at w2; exact w2.okI Le.refl rh1 rv
    · rename_i hb; rw [if_neg hb] at w2; exact ⟨ρ1, sg, h1, hs.mono le, rh1, w2⟩⟩
def mNot (m : Sg → Mh → R D) : Sg → Mh → R D := fun sg h => (m sg h).bind fun d h1 => (dTru d h1).bind fun b h2 => .ok (.bl (!b)) h2
theorem q_not (ha : PM X W a ma) : PM X W (.UnaryOp .Not a pos) (mNot ma) := ⟨PEimp (pe_notT ha.pe) fun σ H Q ⟨ρ, sg, h, hs, rh, w⟩ =>
  TM.go hs rh w fun ρ1 H1 h1 v d le rh1 rv w1 => by
    obtain ⟨b, t, w2⟩ := tru_bind rh1 rv w1
    exact ⟨b, t, w2.okI Le.refl rh1 (.bl _)⟩⟩
def mIte (m : Sg → Mh → R Bool) (p q : Sg → Mh → R D) : Sg → Mh → R D := fun sg h => (m sg h).bind fun b h1 => if b = true then p sg h1 else q sg h1
theorem q_ite (hc : PB X W c na) (ha : PM X W a ma) (hb : PM X W b mb) : PM X W (.IfExp c a b pos) (mIte na ma mb) := ⟨PEimp (pe_ifExp hc.pt ha.pe hb.pe) fun σ H Q ⟨ρ, sg, h, hs, rh, w⟩ =>
  TMb.go hs rh w fun ρ1 H1 h1 b le rh1 w1 => by
    split
    · rename_i hb; rw [if_pos hb] at w1; exact ⟨ρ1, sg, h1, hs.mono le, rh1, w1⟩
    · rename_i hb; rw [if_neg hb] at w1; exact ⟨ρ1, sg, h1, hs.mono le, rh1, w1⟩⟩
end
end
end Mo

namespace Mo
open PySem PySem.Spec PyProof.Rows L2
section
variable {X : Cx} {W : WX}
/-! ### lists of expressions, displays -/
def mNil : Sg → Mh → R (List D) := fun _ h => .ok [] h
def mCons (m : Sg → Mh → R D) (r : Sg → Mh → R (List D)) : Sg → Mh → R (List D) := fun sg h => (m sg h).bind fun d h1 => (r sg h1).bind fun ds h2 => .ok (d :: ds) h2
theorem l_nil : PL X W [] mNil := ⟨PAimp pa_nil fun σ H Q ⟨ρ, sg, h, hs, rh, w⟩ => w.okI Le.refl rh .nil⟩
theorem l_cons {e : Expr} {es : List Expr} {m : Sg → Mh → R D} {r : Sg → Mh → R (List D)} (he : PM X W e m) (hr : PL X W es r) (hs : starEach (e :: es) X.env = (false, eval e X.env) :: starEach es X.env := by rfl) : PL X W (e :: es) (mCons m r) :=
  ⟨PAimp (pa_cons he.pe hr.pa hs) fun σ H Q ⟨ρ, sg, h, hs, rh, w⟩ => TM.go hs rh w fun ρ1 H1 h1 v d le rh1 rv w1 => TMl.go (hs.mono le) rh1 w1 fun ρ2 H2 h2 vs ds le2 rh2 rvs w2 => w2.okI Le.refl rh2 (.cons (rv.mono le2) rvs)⟩
def mTup (r : Sg → Mh → R (List D)) : Sg → Mh → R D := fun sg h => (r sg h).bind fun ds h1 => if ds.length ≤ sizeLine then .ok (.tup ds) h1 else .bad
def mLst (r : Sg → Mh → R (List D)) : Sg → Mh → R D := fun sg h => (r sg h).bind fun ds h1 => if ds.length ≤ sizeLine then .ok (.ref h1.length) (h1 ++ [.lst ds]) else .bad
section
variable {a b c : Expr} {es : List Expr} {ma mb mc : Sg → Mh → R D} {ml : Sg → Mh → R (List D)} {pos : Pos}
theorem q_tup {k} (h : PL X W es ml) : PM X W (.Tuple es k pos) (mTup ml) := ⟨PEimp (pe_tup h.pa) fun σ H Q ⟨ρ, sg, h, hs, rh, w⟩ => TMl.go hs rh w fun ρ1 H1 h1 vs ds le rh1 rvs w1 => by
  split at w1
  · rename_i hz
    exact ⟨by rw [rvs.length]; exact hz, fun p hp => w1.tuple rh1 hp rvs⟩
  · exact w1.elim⟩
theorem q_lst (h : PL X W es ml) : PM X W (.List es pos) (mLst ml) := ⟨PEimp (pe_lst h.pa) fun σ H Q ⟨ρ, sg, h, hs, rh, w⟩ => TMl.go hs rh w fun ρ1 H1 h1 vs ds le rh1 rvs w1 => by
  split at w1
  · rename_i hz
    exact ⟨by rw [rvs.length]; exact hz, fun p hp => w1.alloc rh1 hp (RO.newList hp rvs)⟩
  · exact w1.elim⟩
/-! ### subscripts -/
theorem RVs.atI {K mg ρ H} {vs : List V} {ds : List D} {i : Int} {d : D} (r : RVs K mg ρ H vs ds) (e : L2.atI ds i = some d) : ∃ v, L2.atI vs i = some v ∧ RV K mg ρ H v d := by
  unfold L2.atI at e ⊢
  rw [r.length]
  cases q : ixN ds.length i with
  | none => rw [q] at e; cases e
  | some j =>
    rw [q] at e
    obtain ⟨v, e1, rv⟩ := r.get (show ds[j]? = some d from e)
    exact ⟨v, e1, rv⟩
def dIx : D → D → Mh → R D
  | .tup ds, .int i, h => match atI ds i with
    | some d => .ok d h
    | none => .bad
  | .kt ds, .int i, h => match atI ds i with
    | some d => .ok d h
    | none => .bad
  | .str z, .int i, h => if z.length ≤ sizeLine then match atI z.cps.toList i with
    | some c => .ok (.str ⟨#[c]⟩) h
    | none => .bad else .bad
  | .ref n, .int i, h => match h[n]? with
    | some (.lst ds) => match atI ds i with
      | some d => .ok d h
      | none => .bad
    | some (.fls ds) => match atI ds i with
      | some d => .ok d h
      | none => .bad
    | _ => .bad
  | _, _, _ => .bad
theorem sem_ix : Sem2 X (rIx X.K) dIx := by
  intro W σ ρ H h Q v1 v2 d1 d2 rh r1 r2 w
  unfold dIx at w
  split at w
  · split at w
    · rename_i e
      cases r2
      cases r1 with
      | tup t q =>
        have t := SqT.of (K := X.K) t
        obtain ⟨v, e1, rv⟩ := q.atI e
        exact .inr (.inl ⟨_, _, _, v, rfl, rfl, t, e1, w.okI Le.refl rh rv⟩)
    · exact w.elim
  · split at w
    · rename_i e
      cases r2
      cases r1 with
      | kt t q =>
        obtain ⟨v, e1, rv⟩ := q.atI e
        exact .inr (.inl ⟨_, _, _, v, rfl, rfl, t, e1, w.okI Le.refl rh rv⟩)
    · exact w.elim
  · split at w
    · split at w
      · rename_i e
        cases r1; cases r2
        exact .inr (.inr ⟨_, _, _, rfl, rfl, by assumption, e, w.okI Le.refl rh (.str _)⟩)
      · exact w.elim
    · exact w.elim
  · split at w
    · rename_i e0
      split at w
      · rename_i e
        cases r2
        cases r1 with
        | ref r1 =>
          cases rh.at r1 e0 with
          | lst h1 q =>
            obtain ⟨v, e1, rv⟩ := q.atI e
            exact .inl ⟨_, _, _, v, rfl, rfl, SqL.of h1, e1, w.okI Le.refl rh rv⟩
      · exact w.elim
    · rename_i e0
      split at w
      · rename_i e
        cases r2
        cases r1 with
        | ref r1 =>
          cases rh.at r1 e0 with
          | fls h1 q =>
            obtain ⟨v, e1, rv⟩ := q.atI e
            exact .inl ⟨_, _, _, v, rfl, rfl, h1.sq, e1, w.okI Le.refl rh rv⟩
      · exact w.elim
    · exact w.elim
  · exact w.elim
theorem q_sub_ix (ha : PM X W a ma) (hb : PM X W b mb) (hp : PlainIx b := by intro _ _; rfl) : PM X W (.Subscript a b pos) (m2 dIx ma mb) := q_ix ix_seq sem_ix ha hb hp
/-- a slice's part -/
def mNoP : Sg → Mh → R (Option Int) := fun _ h => .ok none h
def mPart (m : Sg → Mh → R D) : Sg → Mh → R (Option Int) := fun sg h => (m sg h).bind fun d h1 => match d with
  | .int i => .ok (some i) h1
  | _ => .bad
def TMo (W : WX) (K : PySem.W.Frag) (mg : Str → Option Value) (m : Sg → Mh → R (Option Int)) : TO := fun σ H Q => ∃ ρ sg h, RSt K mg ρ H σ sg ∧ RHp K mg ρ H h ∧ WG K mg (fun _ _ v a => v = a) W σ Q ρ H (m sg h)
structure PPt (X : Cx) (W : WX) (e : Option Expr) (m : Sg → Mh → R (Option Int)) : Prop where
  po : PO X e (TMo W X.K X.mg m)
theorem POimp {X : Cx} {e : Option Expr} {t t' : TO} (h : PO X e t) (i : ∀ σ H Q, t' σ H Q → t σ H Q) : PO X e t' := ⟨fun pins s σ H Q I hw => h.run pins s σ H Q I (i _ _ _ hw)⟩
theorem p_none : PPt X W none mNoP := ⟨POimp po_none fun σ H Q ⟨ρ, sg, h, hs, rh, w⟩ => w.okI Le.refl rh rfl⟩
theorem p_some (ha : PM X W a ma) : PPt X W (some a) (mPart ma) := ⟨POimp (po_some ha.pe) fun σ H Q ⟨ρ, sg, h, hs, rh, w⟩ => TM.go hs rh w fun ρ1 H1 h1 v d le rh1 rv w1 => by
  cases rv <;> first | exact w1.elim | skip
  exact ⟨_, rfl, w1.okI Le.refl rh1 rfl⟩⟩
def cutD (xs : List D) (lo hi : Option Int) : List D := (xs.drop (HT.sIx xs.length 0 lo)).take (HT.sIx xs.length xs.length hi - HT.sIx xs.length 0 lo)
theorem RVs.cut {K mg ρ H} {vs : List V} {ds : List D} (r : RVs K mg ρ H vs ds) (lo hi : Option Int) : RVs K mg ρ H (cutV vs lo hi) (cutD ds lo hi) := by
  unfold cutV cutD
  rw [r.length]
  exact (r.drop _).take _
def dSl (x : D) (lo hi : Option Int) (h : Mh) : R D := match x with
  | .str z => if z.length ≤ sizeLine then .ok (.str (cutS z lo hi)) h else .bad
  | .tup ds => .ok (.tup (cutD ds lo hi)) h
  | .ref n => match h[n]? with
    | some (.lst ds) => .ok (.ref h.length) (h ++ [.lst (cutD ds lo hi)])
    | some (.fls ds) => .ok (.ref h.length) (h ++ [.lst (cutD ds lo hi)])
    | _ => .bad
  | _ => .bad
def mSl (m : Sg → Mh → R D) (lo hi : Sg → Mh → R (Option Int)) : Sg → Mh → R D := fun sg h => (m sg h).bind fun x h1 => (lo sg h1).bind fun l h2 => (hi sg h2).bind fun u h3 => dSl x l u h3
theorem q_slice {lo hi : Option Expr} {ml mh : Sg → Mh → R (Option Int)} {p2 : Pos} (ha : PM X W a ma) (hl : PPt X W lo ml) (hh : PPt X W hi mh) : PM X W (.Subscript a (.Slice lo hi none p2) pos) (mSl ma ml mh) :=
  ⟨PEimp (pe_slice (SlR.or sl_list (SlR.or sl_str sl_tupA)) ha.pe hl.po hh.po) fun σ H Q ⟨ρ, sg, h, hs, rh, w⟩ => by
    refine TM.go hs rh w fun ρ1 H1 h1 v d le rh1 rv w1 => ⟨ρ1, sg, h1, hs.mono le, rh1, w1.cut fun ρ2 H2 h2 l l' le2 rh2 e w2 => ?_⟩
    subst e
    refine ⟨ρ2, sg, h2, (hs.mono le).mono le2, rh2, w2.cut fun ρ3 H3 h3 u u' le3 rh3 e w3 => ?_⟩
    subst e
    have rv3 := rv.mono (le2.trans le3)
    unfold dSl at w3
    split at w3
    · split at w3
      · rename_i hz
        cases rv3
        exact .inr (.inl ⟨_, rfl, hz, w3.okI Le.refl rh3 (.str _)⟩)
      · exact w3.elim
    · cases rv3 with
      | tup t q =>
        refine .inr (.inr ⟨_, _, rfl, SqT.of t, fun hw => ?_, fun hz p hp => w3.tuple rh3 hp (q.cut _ _)⟩)
        rw [q.length] at hw
        refine w3.okI Le.refl rh3 ?_
        unfold cutD
        rw [hw.1, hw.2, List.drop_zero, Nat.sub_zero, List.take_length]
        exact .tup t q
    · split at w3
      · rename_i e0
        cases rv3 with
        | ref r1 =>
          cases rh3.at r1 e0 with
          | lst h1 q => exact .inl ⟨_, _, rfl, SqL.of h1, fun p hp => w3.alloc rh3 hp (RO.newList hp (q.cut _ _))⟩
      · rename_i e0
        cases rv3 with
        | ref r1 =>
          cases rh3.at r1 e0 with
          | fls h1 q => exact .inl ⟨_, _, rfl, h1.sq, fun p hp => w3.alloc rh3 hp (RO.newList hp (q.cut _ _))⟩
      · exact w3.elim
    · exact w3.elim⟩
/-! ### dicts with int and text keys, or keys that are tuples of these -/
def valD {κ : Type} [DecidableEq κ] (kvs : List (κ × D)) (k : κ) : Option D := (kvs.find? fun kv => decide (kv.1 = k)).map (·.2)
def keyTs : List D → Option (List Key)
  | [] => some []
  | d :: ds => match keyD d, keyTs ds with
    | some k, some ks => some (k :: ks)
    | _, _ => none
def keyT : D → Option (List Key)
  | .tup ds => keyTs ds
  | _ => none
def lookD : MO → D → Option (Option D)
  | .dk kvs, k => (keyD k).map (valD kvs)
  | .zk kvs, k => (keyD k).map (valD kvs)
  | .dt kvs, k => (keyT k).map (valD kvs)
  | .zt kvs, k => (keyT k).map (valD kvs)
  | _, _ => none
def dGet : D → D → Mh → R D
  | .ref n, k, h => match h[n]? with
    | some o => match lookD o k with
      | some (some d) => .ok d h
      | _ => .bad
    | none => .bad
  | _, _, _ => .bad
theorem key_of {K mg ρ H} {v : V} {d : D} {k : Key} (r : RV K mg ρ H v d) (e : keyD d = some k) : v = kV k := by
  cases r <;> first
    | (cases e; done)
    | (cases e; rfl)
theorem valD_pos {κ : Type} [DecidableEq κ] {p : κ × D} {r : List (κ × D)} {k : κ} (e : p.1 = k) : valD (p :: r) k = some p.2 := by simp [valD, List.find?_cons, e]
theorem valD_neg {κ : Type} [DecidableEq κ] {p : κ × D} {r : List (κ × D)} {k : κ} (e : ¬ p.1 = k) : valD (p :: r) k = valD r k := by simp [valD, List.find?_cons, e]
inductive RK (K : PySem.W.Frag) (mg : Str → Option Value) (ρ : Ren) (H : Hp) : Option V → Option D → Prop
  | none : RK K mg ρ H none none
  | some {v : V} {d : D} : RV K mg ρ H v d → RK K mg ρ H (some v) (some d)
theorem valD_of {κ : Type} [DecidableEq κ] {K mg ρ H} {k : κ} : ∀ {kvs : List (κ × V)} {kds : List (κ × D)}, kvs.map (·.1) = kds.map (·.1) → RVs K mg ρ H (kvs.map (·.2)) (kds.map (·.2)) → RK K mg ρ H (valV kvs k) (valD kds k)
  | [], [], _, _ => .none
  | [], _ :: _, e, _ => by cases e
  | _ :: _, [], e, _ => by cases e
  | p :: kvs, q :: kds, e, r => by
    have e1 : p.1 = q.1 := (List.cons.inj e).1
    have e2 := (List.cons.inj e).2
    cases r with
    | cons r t =>
      have ih := valD_of (k := k) e2 t
      by_cases c : q.1 = k
      · rw [valD_pos c, valV_pos (e1.trans c)]
        exact .some r
      · rw [valD_neg c, valV_neg (fun z => c (e1.symm.trans z))]
        exact ih
theorem keyTs_of {K mg ρ H} : ∀ {vs : List V} {ds : List D} {ks : List Key}, RVs K mg ρ H vs ds → keyTs ds = some ks → vs = ks.map kV
  | _, _, _, .nil, e => by cases e; rfl
  | _, _, _, .cons r t, e => by
    unfold keyTs at e
    split at e
    · rename_i e1 e2
      cases e
      rw [key_of r e1, keyTs_of t e2]; rfl
    · cases e
theorem keyT_of {K mg ρ H} {v : V} {d : D} {ks : List Key} (r : RV K mg ρ H v d) (e : keyT d = some ks) : ∃ b, v = .ref b ∧ H b = some (.tup (ks.map kV)) := by
  unfold keyT at e
  split at e
  · cases r with
    | tup t q => exact ⟨_, rfl, by rw [← keyTs_of q e]; exact t⟩
  · cases e
theorem rk_isSome {K mg ρ H} : ∀ {ov : Option V} {od : Option D}, RK K mg ρ H ov od → ov.isSome = od.isSome
  | _, _, .none => rfl
  | _, _, .some _ => rfl
theorem rk_some {K mg ρ H} {ov : Option V} {d : D} (z : RK K mg ρ H ov (some d)) : ∃ v, ov = some v ∧ RV K mg ρ H v d := by
  cases z with
  | some r => exact ⟨_, rfl, r⟩
theorem look_of {K mg ρ H} {a : Addr} {o : MO} {v : V} {k : D} {r : Option D} (ro : RO K mg ρ H a o) (rk : RV K mg ρ H v k) (e : lookD o k = some r) : ∃ r', DGet H a v r' ∧ RK K mg ρ H r' r := by
  unfold lookD at e
  split at e
  · obtain ⟨key, e1, rfl⟩ := Option.map_eq_some_iff.mp e
    cases ro with
    | @dk kvs _ hl ke q => exact ⟨_, .inl ⟨kvs, key, .inl hl, key_of rk e1, rfl⟩, valD_of ke q⟩
  · obtain ⟨key, e1, rfl⟩ := Option.map_eq_some_iff.mp e
    cases ro with
    | @zk o kvs _ hl ke q => exact ⟨_, .inl ⟨kvs, key, .inr ⟨o, hl⟩, key_of rk e1, rfl⟩, valD_of ke q⟩
  · obtain ⟨key, e1, rfl⟩ := Option.map_eq_some_iff.mp e
    obtain ⟨b, e2, e3⟩ := keyT_of rk e1
    cases ro with
    | @dt kvs _ hl ke q => exact ⟨_, .inr ⟨kvs, key, b, .inl hl, e2, e3, rfl⟩, valD_of ke q⟩
  · obtain ⟨key, e1, rfl⟩ := Option.map_eq_some_iff.mp e
    obtain ⟨b, e2, e3⟩ := keyT_of rk e1
    cases ro with
    | @zt o kvs _ hl ke q => exact ⟨_, .inr ⟨kvs, key, b, .inr ⟨o, hl⟩, e2, e3, rfl⟩, valD_of ke q⟩
  · cases e
end
end
end Mo

namespace Mo
open PySem PySem.Spec PyProof.Rows L2
/-! ### defs -/
def startD (n : Nat) (ds : List D) : Sg := ds.map some ++ List.replicate (n - ds.length) none
abbrev FM := List D → Mh → R D
def RS.end : RS → R D
  | .nx _ h => .ok .non h
  | .rt d h => .ok d h
  | .exc c fs _ h => .exc c fs h
  | _ => .bad
def runF (n : Nat) (ms : Sg → Mh → RS) : FM := fun ds h => (ms (startD n ds) h).end
def spM (K : PySem.W.Frag) (mg : Str → Option Value) (np : Nat) (fm : FM) : Sp := fun vs H Q E => vs.length = np ∧ ∃ ρ ds h, RVs K mg ρ H vs ds ∧ RHp K mg ρ H h ∧ WG K mg (RV K mg) (fun c dx _ H' => E c dx H') [] Q ρ H (fm ds h)
section
variable {P : Program} {w : World} {K : PySem.W.Frag} {mg : Str → Option Value} {base : Heap}
theorem start_ok {ρ : Ren} {H : Hp} {vs : List V} {ds : List D} {N : List Str} (r : RVs K mg ρ H vs ds) : RSt K mg ρ H (L2.start N vs) (startD N.length ds) := by
  unfold L2.start startD
  have l := r.length
  refine ⟨by simp [l], fun i d e => ?_⟩
  by_cases hi : i < ds.length
  · rw [List.getElem?_append_left (by simpa using hi), List.getElem?_map] at e
    cases q : ds[i]? with
    | none => rw [q] at e; cases e
    | some d' =>
      rw [q] at e; cases e
      obtain ⟨v, e1, rv⟩ := r.get q
      exact ⟨v, by rw [List.getElem?_append_left (by simpa [l] using hi), List.getElem?_map, e1]; rfl, rv⟩
  · rw [List.getElem?_append_right (by simpa using hi), List.getElem?_replicate] at e
    split at e <;> cases e
theorem end_ok {ρ : Ren} {H : Hp} {Q : VK} {E : XK} {r : RS} (q : WG K mg (RV K mg) (fun c dx _ H' => E c dx H') [] Q ρ H r.end) : WS K mg (fun c dx _ H' => E c dx H') { nx := fun _ H' => Q .non H', rt := Q } ρ H r := by
  cases r with
  | nx sg h => exact fun ρ' H' σ' le rh _ => q ρ' H' .non le rh .non
  | rt d h => exact q
  | bk sg h => exact q.elim
  | ct sg h => exact q.elim
  | exc c fs sg h => exact fun ρ' H' σ' C dx le rh _ g x => q ρ' H' C dx le rh g x
  | bad => exact q.elim
theorem fn_m {x qual : Str} {st : Stmt} {f : Addr} {fd : FuncData} {N ps : List Str} {k : Nat} {ms : Sg → Mh → RS} (F : Fun K x qual st f fd) (S : FnScope N ps (defScope st))
    (hb : ∀ (cdv : Value) (A : Around) (outer : List Env) (s : Shared) (H : Hp) (E : XK), Room k (A.deeper (envOfC qual (defScope st) s.heap.objs.size f cdv)) →
      PSL (cxOf (L2.CX P w) P w K mg base N qual (defScope st) f cdv A outer s H E) (fun c dx _ H' => E c dx H') (defBody st) ms) :
    FnOk P w K mg base (L2.CX P w) (k + 1) f fd ps (spM K mg ps.length (runF N.length ms)) := by
  refine F.okX S (fun vs H Q E h => h.1) fun cdv A outer s H vs Q E hr h => ⟨_, (hb cdv A outer s H E hr).ps, ?_⟩
  obtain ⟨hl, ρ, ds, h, r, rh, q⟩ := h
  exact ⟨ρ, _, h, start_ok r, rh, end_ok q⟩
theorem no_fuel {f : Addr} {fd : FuncData} {ps : List Str} {k : Nat} : FnOk P w K mg base (L2.CX P w) k f fd ps (spM K mg ps.length fun _ _ => .bad) :=
  ⟨fun vs H Q E h => h.1, fun A outer s H args us vs Q E _ _ _ _ h => by obtain ⟨_, _, _, _, _, _, q⟩ := h; exact q.elim⟩
end
section
variable {X : Cx} {W : WX}
/-! ### calls of own defs -/
def mCall (np : Nat) (fm : FM) (ml : Sg → Mh → R (List D)) (dds : List D) : Sg → Mh → R D := fun sg h => (ml sg h).bind fun ds h1 => if (ds ++ dds).length = np then fm (ds ++ dds) h1 else .bad
theorem WG.wx {K mg} {W W' : WX} {σ σ' : L2.St} {α β : Type} {rel : Ren → Hp → β → α → Prop} {Q : β → Hp → Prop} {ρ : Ren} {H : Hp} {r : R α} (hw : ∀ c dx H', W c dx σ H' → W' c dx σ' H') (w : WG K mg rel W σ Q ρ H r) : WG K mg rel W' σ' Q ρ H r := by
  cases r with
  | ok a h => exact w
  | exc c fs h => exact fun ρ' H' C dx le rh g x => hw _ _ _ (w ρ' H' C dx le rh g x)
  | bad => exact w
variable {k np : Nat} {f : Addr} {fd : FuncData} {ps : List Str} {fm : FM} {x : Str} {p pos : Pos} {e : Expr} {es : List Expr} {ml : Sg → Mh → R (List D)} {dvs : List V} {dds : List D} {dus : List Value}
theorem q_callD (F : FnOk X.prog X.w X.K X.mg X.base (L2.CX X.prog X.w) k f fd ps (spM X.K X.mg np fm)) (hr : Room k X.A) (tk : Takes X W) (hm : X.mg x = some (.ref f)) (hk : PySem.W.keepIn X.K (.ref f) = true) (hb : L2.Binds X.K fd ps dus) (hd : Vals dvs dus)
    (hdd : ∀ ρ H, RVs X.K X.mg ρ H dvs dds) (ha : PL X W (e :: es) ml) (hg : Gl X x := by rfl) (hdb : (x == ("__debug__" : Str)) = false := by decide) (he : starEach (e :: es) X.env = (false, eval e X.env) :: starEach es X.env := by rfl)
    (hpl : (backTo pos (starEach es X.env)).any (·.1) = false := by rfl) : PM X W (.Call (.Name x p) (e :: es) [] pos) (mCall np fm ml dds) :=
  ⟨PEimp (pe_callSD F hr hg hm hk hb hd (fun σ => passAt tk σ) ha.pa hdb he hpl) fun σ H Q ⟨ρ, sg, h, hs, rh, w⟩ => TMl.go hs rh w fun ρ1 H1 h1 vs ds le rh1 rvs w1 => by
    split at w1
    · rename_i hl
      have r2 := rvs.append (hdd ρ1 H1)
      exact ⟨by rw [r2.length]; exact hl, ρ1, _, h1, r2, rh1, w1.wx fun _ _ _ z => z⟩
    · exact w1.elim⟩
theorem q_call (F : FnOk X.prog X.w X.K X.mg X.base (L2.CX X.prog X.w) k f fd ps (spM X.K X.mg np fm)) (hr : Room k X.A) (tk : Takes X W) (hm : X.mg x = some (.ref f)) (hk : PySem.W.keepIn X.K (.ref f) = true) (hb : L2.Binds X.K fd ps [])
    (ha : PL X W (e :: es) ml) (hg : Gl X x := by rfl) (hdb : (x == ("__debug__" : Str)) = false := by decide) (he : starEach (e :: es) X.env = (false, eval e X.env) :: starEach es X.env := by rfl)
    (hpl : (backTo pos (starEach es X.env)).any (·.1) = false := by rfl) : PM X W (.Call (.Name x p) (e :: es) [] pos) (mCall np fm ml []) := q_callD F hr tk hm hk hb .nil (fun _ _ => .nil) ha hg hdb he hpl
theorem pe_call0S {E : L2.St → XK} {sp : Sp} {CX : CXT} (F : FnOk X.prog X.w X.K X.mg X.base CX k f fd ps sp) (hr : Room k X.A) (hg : Gl X x) (hm : X.mg x = some (.ref f)) (hk : PySem.W.keepIn X.K (.ref f) = true) (hb : L2.Binds X.K fd ps dus) (hd : Vals dvs dus)
    (hx : ∀ σ, PassesAt CX X σ (E σ)) (hdb : (x == ("__debug__" : Str)) = false := by decide) : PE X (.Call (.Name x p) [] [] pos) (tCallSD sp dvs E tNil) := by
  refine ⟨fun pins s σ H Q I h => ?_⟩
  refine wpAny_Call_Name_kw (ld_glob I hg hm ?_ hdb)
  exact PySem.W.callWith_K0 I.kIn hk (run_fnSD (us := []) F hr hb hd (hx σ) I .nil h)
theorem q_call0 (F : FnOk X.prog X.w X.K X.mg X.base (L2.CX X.prog X.w) k f fd ps (spM X.K X.mg np fm)) (hr : Room k X.A) (tk : Takes X W) (hm : X.mg x = some (.ref f)) (hk : PySem.W.keepIn X.K (.ref f) = true) (hb : L2.Binds X.K fd ps [])
    (hg : Gl X x := by rfl) (hdb : (x == ("__debug__" : Str)) = false := by decide) : PM X W (.Call (.Name x p) [] [] pos) (mCall np fm mNil []) :=
  ⟨PEimp (pe_call0S F hr hg hm hk hb .nil (fun σ => passAt tk σ) hdb) fun σ H Q ⟨ρ, sg, h, hs, rh, w⟩ => by
    unfold mCall mNil at w
    rw [R.bind_ok] at w
    split at w
    · rename_i hl
      exact ⟨by simpa using hl, ρ, [], h, .nil, rh, w.wx fun _ _ _ z => z⟩
    · exact w.elim⟩
/-! ### built-ins called -/
def mBi (f : List D → Mh → R D) (ml : Sg → Mh → R (List D)) : Sg → Mh → R D := fun sg h => (ml sg h).bind f
theorem q_bi {id : String} {r : List V → Hp → VK → Prop} {f : List D → Mh → R D} (hc : CallR X (.builtin id) r) (s : SemL X r f) (hm : X.mg x = none) (ha : PL X W (e :: es) ml) (hv : bootBuiltins x = some (.builtin id) := by decide +kernel) (hg : Gl X x := by rfl)
    (hn : x ≠ "__name__" := by decide) (hdb : (x == ("__debug__" : Str)) = false := by decide) (he : starEach (e :: es) X.env = (false, eval e X.env) :: starEach es X.env := by rfl) (hpl : (backTo pos (starEach es X.env)).any (·.1) = false := by rfl) :
    PM X W (.Call (.Name x p) (e :: es) [] pos) (mBi f ml) :=
  ⟨PEimp (pe_callB hc hg hm hv ha.pa hn hdb he hpl) fun σ H Q ⟨ρ, sg, h, hs, rh, w⟩ => TMl.go hs rh w fun ρ1 H1 h1 vs ds le rh1 rvs w1 => s W σ ρ1 H1 h1 Q vs ds rh1 rvs w1⟩
theorem q_ty {T : String} {r : List V → Hp → VK → Prop} {f : List D → Mh → R D} (hc : CallR X (.type T) r) (s : SemL X r f) (hm : X.mg x = none) (ha : PL X W (e :: es) ml) (hv : bootBuiltins x = some (.type T) := by decide +kernel) (hg : Gl X x := by rfl)
    (hn : x ≠ "__name__" := by decide) (hdb : (x == ("__debug__" : Str)) = false := by decide) (he : starEach (e :: es) X.env = (false, eval e X.env) :: starEach es X.env := by rfl) (hpl : (backTo pos (starEach es X.env)).any (·.1) = false := by rfl) :
    PM X W (.Call (.Name x p) (e :: es) [] pos) (mBi f ml) :=
  ⟨PEimp (pe_callTy hc hg hm hv ha.pa hn hdb he hpl) fun σ H Q ⟨ρ, sg, h, hs, rh, w⟩ => TMl.go hs rh w fun ρ1 H1 h1 vs ds le rh1 rvs w1 => s W σ ρ1 H1 h1 Q vs ds rh1 rvs w1⟩
end
/-! ### statements -/
section
variable {X : Cx} {W : WX} {a b c : Expr} {ma mb mc : Sg → Mh → R D} {nc : Sg → Mh → R Bool} {pos : Pos} {st : Stmt} {sts rest : List Stmt} {m n : Sg → Mh → RS}
def sNext : Sg → Mh → RS := fun sg h => .nx sg h
def sSeq (m n : Sg → Mh → RS) : Sg → Mh → RS := fun sg h => (m sg h).th n
theorem b_nil : PSL X W [] sNext := ⟨PSsimp pss_nil fun E σ H ⟨ρ, sg, h, hs, rh, w⟩ => w ρ H σ Le.refl rh hs⟩
theorem b_one (h1 : PSM X W st m) : PSL X W [st] m := ⟨pss_one h1.ps⟩
theorem b_cons (h1 : PSM X W st m) (h2 : PSL X W rest n) : PSL X W (st :: rest) (sSeq m n) := ⟨PSsimp (pss_cons h1.ps h2.ps) fun E σ H ⟨ρ, sg, h, hs, rh, w⟩ => by
  refine ⟨ρ, sg, h, hs, rh, ?_⟩
  unfold sSeq at w
  cases e : m sg h with
  | nx sg' h' =>
    rw [e] at w
    exact fun ρ' H' σ' le rh' hs' => ⟨ρ', sg', h', hs', rh', WS.mono le w⟩
  | rt d h' => rw [e] at w; exact w
  | bk sg' h' => rw [e] at w; exact w
  | ct sg' h' => rw [e] at w; exact w
  | exc c fs sg' h' => rw [e] at w; exact w
  | bad => rw [e] at w; exact w⟩
theorem WS.nxI {K mg W E ρ H} {sg : Sg} {h : Mh} {ρ1 : Ren} {H1 : Hp} {σ : L2.St} (w : WS K mg W E ρ H (.nx sg h)) (le : Le K ρ H ρ1 H1) (rh : RHp K mg ρ1 H1 h) (hs : RSt K mg ρ1 H1 σ sg) : E.nx σ H1 := w ρ1 H1 σ le rh hs
def sBad : Sg → Mh → RS := fun _ _ => .bad
theorem s_never : PSM X W st sBad := ⟨PSimp ps_never fun E σ H ⟨ρ, sg, h, hs, rh, w⟩ => w⟩
theorem b_never : PSL X W sts sBad := ⟨PSsimp pss_never fun E σ H ⟨ρ, sg, h, hs, rh, w⟩ => w⟩
theorem s_pass : PSM X W (.Pass pos) sNext := ⟨PSimp ps_pass fun E σ H ⟨ρ, sg, h, hs, rh, w⟩ => w.nxI Le.refl rh hs⟩
def sBrk : Sg → Mh → RS := fun sg h => .bk sg h
def sCnt : Sg → Mh → RS := fun sg h => .ct sg h
theorem s_break : PSM X W (.Break pos) sBrk := ⟨PSimp ps_break fun E σ H ⟨ρ, sg, h, hs, rh, w⟩ => w ρ H σ Le.refl rh hs⟩
theorem s_continue : PSM X W (.Continue pos) sCnt := ⟨PSimp ps_continue fun E σ H ⟨ρ, sg, h, hs, rh, w⟩ => w ρ H σ Le.refl rh hs⟩
def sExpr (m : Sg → Mh → R D) : Sg → Mh → RS := fun sg h => (m sg h).th sg fun _ h1 => .nx sg h1
theorem s_expr (ha : PM X W a ma) (hs : swapsWith a none pos.line X.env = pure false := by rfl) : PSM X W (.Expr a pos) (sExpr ma) := ⟨PSimp (ps_expr ha.pe hs) fun E σ H ⟨ρ, sg, h, hs, rh, w⟩ => TM.goS hs rh w fun ρ1 H1 h1 v d le rh1 rv w1 => w1.nxI Le.refl rh1 (hs.mono le)⟩
theorem s_doc {x j pos'} : PSM X W (.Expr (.Constant (.str x) j pos) pos') sNext := ⟨PSimp ps_doc fun E σ H ⟨ρ, sg, h, hs, rh, w⟩ => w.nxI Le.refl rh hs⟩
def sRet (m : Sg → Mh → R D) : Sg → Mh → RS := fun sg h => (m sg h).th sg fun d h1 => .rt d h1
theorem s_ret (ha : PM X W a ma) : PSM X W (.Return (some a) pos) (sRet ma) := ⟨PSimp (ps_ret ha.pe) fun E σ H ⟨ρ, sg, h, hs, rh, w⟩ => TM.goS hs rh w fun ρ1 H1 h1 v d le rh1 rv w1 => w1 ρ1 H1 v Le.refl rh1 rv⟩
theorem s_retN : PSM X W (.Return none pos) (sRet (mLit .non)) := ⟨PSimp ps_retN fun E σ H ⟨ρ, sg, h, hs, rh, w⟩ => w ρ H .non Le.refl rh .non⟩
def sIf (c : Sg → Mh → R Bool) (m n : Sg → Mh → RS) : Sg → Mh → RS := fun sg h => (c sg h).th sg fun b h1 => if b = true then m sg h1 else n sg h1
theorem s_if {p q : List Stmt} (hc : PB X W c nc) (hp : PSL X W p m) (hq : PSL X W q n) : PSM X W (.If c p q pos) (sIf nc m n) := ⟨PSimp (ps_if hc.pt hp.ps hq.ps) fun E σ H ⟨ρ, sg, h, hs, rh, w⟩ => TMb.goS hs rh w fun ρ1 H1 h1 b le rh1 w1 => by
  split
  · rename_i hb; rw [if_pos hb] at w1; exact ⟨ρ1, sg, h1, hs.mono le, rh1, w1⟩
  · rename_i hb; rw [if_neg hb] at w1; exact ⟨ρ1, sg, h1, hs.mono le, rh1, w1⟩⟩
theorem RSt.set {K mg ρ H} {σ : L2.St} {sg : Sg} (r : RSt K mg ρ H σ sg) (i : Nat) {v : V} {d : D} (rv : RV K mg ρ H v d) : RSt K mg ρ H (σ.set i (some v)) (sg.set i (some d)) := by
  refine ⟨by simp [r.len], fun j d' e => ?_⟩
  by_cases hj : i = j
  · subst hj
    by_cases hi : i < sg.length
    · rw [List.getElem?_set_self hi] at e
      cases e
      exact ⟨v, by rw [List.getElem?_set_self (by rw [r.len]; exact hi)], rv⟩
    · rw [List.getElem?_eq_none (by simpa using hi)] at e; cases e
  · rw [List.getElem?_set_ne hj] at e ⊢
    exact r.val j d' e
def sSet (i : Nat) (m : Sg → Mh → R D) : Sg → Mh → RS := fun sg h => (m sg h).th sg fun d h1 => .nx (sg.set i (some d)) h1
theorem s_set (i : Nat) {x : Str} {pos' : Pos} (hN : X.N.Nodup) (ha : PM X W a ma) (hi : X.N[i]? = some x := by rfl) (hx : Loc X.env.scope x := by first | exact Or.inl rfl | exact Or.inr rfl) (hs : swapsWith a (some (.Name x pos')) pos.line X.env = pure false := by rfl)
    (hf : X.fn x = true ∨ X.env.scope.names.lookup x = some .local := by first | exact .inl rfl | exact .inr rfl) : PSM X W (.Assign [.Name x pos'] a pos) (sSet i ma) :=
  ⟨PSimp (ps_set hN hi hx ha.pe hs hf) fun E σ H ⟨ρ, sg, h, hs, rh, w⟩ => TM.goS hs rh w fun ρ1 H1 h1 v d le rh1 rv w1 => w1.nxI Le.refl rh1 ((hs.mono le).set i rv)⟩
/-- a, b = x, y -/
def sPar (i j : Nat) (ml : Sg → Mh → R (List D)) : Sg → Mh → RS := fun sg h => (ml sg h).th sg fun ds h1 => match ds with
  | [p, q] => .nx ((sg.set i (some p)).set j (some q)) h1
  | _ => .bad
theorem TMl.goS {K mg ρ H σ sg h} {E : Ends} {Q1 : List V → Hp → Prop} {m : Sg → Mh → R (List D)} {f : List D → Mh → RS} (hs : RSt K mg ρ H σ sg) (rh : RHp K mg ρ H h) (w : WS K mg W E ρ H ((m sg h).th sg f))
    (k : ∀ ρ1 H1 h1 v a, Le K ρ H ρ1 H1 → RHp K mg ρ1 H1 h1 → RVs K mg ρ1 H1 v a → WS K mg W E ρ1 H1 (f a h1) → Q1 v H1) : TMl K mg W m σ H Q1 := ⟨ρ, sg, h, hs, rh, WS.cutS hs w k⟩
theorem s_par (i j : Nat) {x y : Str} {px py pt pt2 : Pos} {kt k2} {ml : Sg → Mh → R (List D)} (hN : X.N.Nodup) (ha : PL X W [a, b] ml) (hc : X.calm = true := by rfl) (hi : X.N[i]? = some x := by rfl) (hj : X.N[j]? = some y := by rfl) (hij : i ≠ j := by decide)
    (hx : X.env.scope.names.lookup x = some .local := by rfl) (hy : X.env.scope.names.lookup y = some .local := by rfl)
    (hw : swappedStores [.Tuple [.Name x px, .Name y py] kt pt] (.Tuple [a, b] k2 pt2) X.env = pure (some [x, y]) := by rfl)
    (hs : swapsWithSole [.Tuple [.Name x px, .Name y py] kt pt] (.Tuple [a, b] k2 pt2) pos.line X.env = pure false := by rfl) : PSM X W (.Assign [.Tuple [.Name x px, .Name y py] kt pt] (.Tuple [a, b] k2 pt2) pos) (sPar i j ml) :=
  ⟨PSimp (ps_par hc hN hi hj hij hx hy ha.pa hw hs) fun E σ H ⟨ρ, sg, h, hs, rh, w⟩ => TMl.goS hs rh w fun ρ1 H1 h1 vs ds le rh1 rvs w1 => by
    split at w1
    · cases rvs with
      | cons r1 t => cases t with
        | cons r2 t =>
          cases t
          exact ⟨_, _, rfl, w1.nxI Le.refl rh1 (((hs.mono le).set i r1).set j r2)⟩
    · exact w1.elim⟩
/-! ### targets -/
def TMg (K : PySem.W.Frag) (mg : Str → Option Value) (ts : List Nat) (g : D → Sg → Option Sg) : TG := fun v σ H Q => ∃ ρ sg d sg', RSt K mg ρ H σ sg ∧ RV K mg ρ H v d ∧ g d sg = some sg' ∧
  ∀ σ', RSt K mg ρ H σ' sg' → σ'.length = σ.length → (∀ j, j ∉ ts → σ'[j]? = σ[j]?) → Q σ' H
structure PGM (X : Cx) (tg : Expr) (ts : List Nat) (g : D → Sg → Option Sg) : Prop where
  pg : PG X tg (TMg X.K X.mg ts g)
theorem PGimp {X : Cx} {e : Expr} {t t' : TG} (h : PG X e t) (i : ∀ v σ H Q, t' v σ H Q → t v σ H Q) : PG X e t' := ⟨fun pins s σ H v u Q I r hw => h.run pins s σ H v u Q I r (i _ _ _ _ hw)⟩
theorem PGsimp {X : Cx} {e : List Expr} {t t' : TGs} (h : PGs X e t) (i : ∀ v σ H Q, t' v σ H Q → t v σ H Q) : PGs X e t' := ⟨fun pins s σ H v u Q I r hw => h.run pins s σ H v u Q I r (i _ _ _ _ hw)⟩
def gNm (i : Nat) : D → Sg → Option Sg := fun d sg => some (sg.set i (some d))
theorem g_name (i : Nat) {x : Str} (hN : X.N.Nodup) (hi : X.N[i]? = some x := by rfl) (hx : Loc X.env.scope x := by first | exact Or.inl rfl | exact Or.inr rfl) (hf : X.fn x = true ∨ X.env.scope.names.lookup x = some .local := by first | exact .inl rfl | exact .inr rfl) :
    PGM X (.Name x pos) [i] (gNm i) := ⟨PGimp (pg_name hN hi hx hf) fun v σ H Q ⟨ρ, sg, d, sg', hs, rv, e, q⟩ => by
  cases e
  exact q _ (hs.set i rv) (by simp) fun j hj => List.getElem?_set_ne (fun z => hj (by simp [z]))⟩
def TMgs (K : PySem.W.Frag) (mg : Str → Option Value) (ts : List Nat) (g : List D → Sg → Option Sg) : TGs := fun vs σ H Q => ∃ ρ sg ds sg', RSt K mg ρ H σ sg ∧ RVs K mg ρ H vs ds ∧ g ds sg = some sg' ∧
  ∀ σ', RSt K mg ρ H σ' sg' → σ'.length = σ.length → (∀ j, j ∉ ts → σ'[j]? = σ[j]?) → Q σ' H
structure PGL (X : Cx) (tg : List Expr) (ts : List Nat) (g : List D → Sg → Option Sg) : Prop where
  pg : PGs X tg (TMgs X.K X.mg ts g)
def gsNil : List D → Sg → Option Sg := fun ds sg => match ds with
  | [] => some sg
  | _ => none
def gsCons (g : D → Sg → Option Sg) (r : List D → Sg → Option Sg) : List D → Sg → Option Sg := fun ds sg => match ds with
  | d :: t => (g d sg).bind (r t)
  | _ => none
theorem gs_nil : PGL X [] [] gsNil := ⟨PGsimp pgs_nil fun vs σ H Q ⟨ρ, sg, ds, sg', hs, rv, e, q⟩ => by
  unfold gsNil at e
  split at e
  · cases e; cases rv; exact ⟨rfl, q _ hs rfl fun _ _ => rfl⟩
  · cases e⟩
theorem gs_cons {es : List Expr} {ts us : List Nat} {g : D → Sg → Option Sg} {r : List D → Sg → Option Sg} (h1 : PGM X a ts g) (h2 : PGL X es us r) (hs : (assignEach (a :: es) X.env).map (·.2) = assign a X.env :: (assignEach es X.env).map (·.2) := by rfl) : PGL X (a :: es) (ts ++ us) (gsCons g r) :=
  ⟨PGsimp (pgs_cons h1.pg h2.pg hs) fun vs σ H Q ⟨ρ, sg, ds, sg', hs, rv, e, q⟩ => by
    unfold gsCons at e
    split at e
    · rename_i d t
      cases rv with
      | cons r1 rt =>
        obtain ⟨sg1, e1, e2⟩ := Option.bind_eq_some_iff.mp e
        refine ⟨_, _, rfl, ρ, sg, d, sg1, hs, r1, e1, fun σ1 hs1 l1 k1 => ⟨ρ, sg1, t, sg', hs1, rt, e2, fun σ2 hs2 l2 k2 => q σ2 hs2 (l2.trans l1) fun j hj => ?_⟩⟩
        rw [List.mem_append, not_or] at hj
        exact (k2 j hj.2).trans (k1 j hj.1)
    · cases e⟩
def gTp (n : Nat) (r : List D → Sg → Option Sg) : D → Sg → Option Sg := fun d sg => match d with
  | .tup ds => if ds.length = n then r ds sg else none
  | _ => none
theorem g_tup {es : List Expr} {k n : Nat} {ts : List Nat} {r : List D → Sg → Option Sg} (h : PGL X es ts r) (hc : X.calm = true := by rfl) (hn : (assignEach es X.env).length = n := by rfl) (hst : (assignEach es X.env).findIdx? (·.1) = none := by rfl) : PGM X (.Tuple es k pos) ts (gTp n r) :=
  ⟨PGimp (pg_tup hc h.pg hn hst) fun v σ H Q ⟨ρ, sg, d, sg', hs, rv, e, q⟩ => by
    unfold gTp at e
    split at e
    · split at e
      · rename_i hl
        cases rv with
        | tup t rs => exact ⟨_, _, rfl, SqT.of t, by rw [rs.length]; exact hl, ρ, sg, _, sg', hs, rs, e, q⟩
      · cases e
    · cases e⟩
/-- target = value -/
def sAsg (g : D → Sg → Option Sg) (m : Sg → Mh → R D) : Sg → Mh → RS := fun sg h => (m sg h).th sg fun d h1 => match g d sg with
  | some sg' => .nx sg' h1
  | none => .bad
theorem s_asg {tg : Expr} {ts : List Nat} {g : D → Sg → Option Sg} (hg : PGM X tg ts g) (ha : PM X W a ma) (hs : swapsWithSole [tg] a pos.line X.env = pure false := by rfl) (hw : swappedStores [tg] a X.env = pure none := by rfl)
    (h1 : (assignEach [tg] X.env).map (·.2) = [assign tg X.env] := by rfl) : PSM X W (.Assign [tg] a pos) (sAsg g ma) :=
  ⟨PSimp (ps_asg ha.pe hg.pg hs hw h1) fun E σ H ⟨ρ, sg, h, hs, rh, w⟩ => TM.goS hs rh w fun ρ1 H1 h1 v d le rh1 rv w1 => by
    split at w1
    · rename_i sg' e
      exact ⟨ρ1, sg, d, sg', hs.mono le, rv, e, fun σ' hs' _ _ => w1.nxI Le.refl rh1 hs'⟩
    · exact w1.elim⟩
end
end Mo

namespace Mo
open PySem PySem.Spec PyProof.Rows L2
/-! ### what a loop walks -/
structure Src where
  items : List D
  at' : Nat → D → Mh → Prop
  fin : Nat → Mh → Prop
section
variable (K : PySem.W.Frag) (mg : Str → Option Value)
def SrcOk (ρ0 : Ren) (H0 : Hp) (J : It) (s : Src) : Prop := ∀ ρ H h, Le K ρ0 H0 ρ H → RHp K mg ρ H h →
  (∀ i d, s.items[i]? = some d → s.at' i d h → J.go i H ∧ ∀ x H', J.yld i H x H' → Le K ρ H ρ H' ∧ RHp K mg ρ H' h ∧ RV K mg ρ H' x d) ∧ (s.fin s.items.length h → J.stop s.items.length H)
def TMi (W : WX) (m : Sg → Mh → R Src) : TI := fun σ H Q => ∃ ρ sg h, RSt K mg ρ H σ sg ∧ RHp K mg ρ H h ∧ WG K mg (SrcOk K mg) W σ Q ρ H (m sg h)
end
structure PIM (X : Cx) (W : WX) (tg e : Expr) (m : Sg → Mh → R Src) : Prop where
  pi : PI X tg e (TMi X.K X.mg W m)
open Classical in
noncomputable def forL (s : Src) (g : D → Sg → Option Sg) (body : Sg → Mh → RS) : List D → Nat → Sg → Mh → RS
  | [], i, sg, h => if s.fin i h then .nx sg h else .bad
  | x :: xs, i, sg, h => if s.at' i x h then match g x sg with
    | some sg1 => match body sg1 h with
      | .nx sg' h' => forL s g body xs (i + 1) sg' h'
      | .ct sg' h' => forL s g body xs (i + 1) sg' h'
      | .bk sg' h' => .nx sg' h'
      | r => r
    | none => .bad else .bad
noncomputable def sFor (mi : Sg → Mh → R Src) (g : D → Sg → Option Sg) (body : Sg → Mh → RS) : Sg → Mh → RS := fun sg h => (mi sg h).th sg fun s h1 => forL s g body s.items 0 sg h1
section
variable {X : Cx} {W : WX} {tg iter : Expr} {body : List Stmt} {mi : Sg → Mh → R Src} {ts : List Nat} {g : D → Sg → Option Sg} {mb : Sg → Mh → RS} {pos : Pos}
theorem TMi.goS {K mg ρ H σ sg h} {E : Ends} {Q1 : It → Hp → Prop} {m : Sg → Mh → R Src} {f : Src → Mh → RS} (hs : RSt K mg ρ H σ sg) (rh : RHp K mg ρ H h) (w : WS K mg W E ρ H ((m sg h).th sg f))
    (k : ∀ ρ1 H1 h1 v a, Le K ρ H ρ1 H1 → RHp K mg ρ1 H1 h1 → SrcOk K mg ρ1 H1 v a → WS K mg W E ρ1 H1 (f a h1) → Q1 v H1) : TMi K mg W m σ H Q1 := ⟨ρ, sg, h, hs, rh, WS.cutS hs w k⟩
theorem TMi.go {K mg ρ H σ sg h} {γ δ : Type} {rel2 : Ren → Hp → δ → γ → Prop} {Q : δ → Hp → Prop} {Q1 : It → Hp → Prop} {m : Sg → Mh → R Src} {f : Src → Mh → R γ} (hs : RSt K mg ρ H σ sg) (rh : RHp K mg ρ H h) (w : WG K mg rel2 W σ Q ρ H ((m sg h).bind f))
    (k : ∀ ρ1 H1 h1 v a, Le K ρ H ρ1 H1 → RHp K mg ρ1 H1 h1 → SrcOk K mg ρ1 H1 v a → WG K mg rel2 W σ Q ρ1 H1 (f a h1) → Q1 v H1) : TMi K mg W m σ H Q1 := ⟨ρ, sg, h, hs, rh, w.cut k⟩
theorem s_for (hp : PassesOwn (model X.prog X.w) X.A X.env X.xe) (hi : PIM X W tg iter mi) (hg : PGM X tg ts g) (hb : PSL X W body mb) (hc : X.calm = true := by rfl) (hs : ∀ x, foldedSetIterable iter X.env x = pure x := by intro _; rfl) :
    PSM X W (.For tg iter body [] pos) (sFor mi g mb) := ⟨PSimp (ps_for hp hc hi.pi hg.pg hb.ps hs) fun E σ H ⟨ρ, sg, h, hst, rh, w⟩ => by
  refine TMi.goS hst rh w fun ρ1 H1 h1 J s le rh1 so w1 => ?_
  refine ⟨fun i m σ H => m = s.items.length - i ∧ i ≤ s.items.length ∧ ∃ ρ' sg' h', Le X.K ρ1 H1 ρ' H ∧ RSt X.K X.mg ρ' H σ sg' ∧ RHp X.K X.mg ρ' H h' ∧ WS X.K X.mg W E ρ' H (forL s g mb (s.items.drop i) i sg' h'),
    ⟨_, rfl, Nat.zero_le _, ρ1, sg, h1, Le.refl, hst.mono le, rh1, w1⟩, ?_⟩
  rintro i m σ H ⟨rfl, hi, ρ', sg', h', le', hs', rh', w'⟩
  obtain ⟨so1, so2⟩ := so ρ' H h' le' rh'
  by_cases hlt : i < s.items.length
  · rw [List.drop_eq_getElem_cons hlt] at w'
    unfold forL at w'
    split at w'
    · rename_i hat
      obtain ⟨go, yl⟩ := so1 i _ (List.getElem?_eq_getElem hlt) hat
      split at w'
      · rename_i sg1 eg
        refine .inr ⟨go, fun σ2 H2 => ∃ ρ2 sg2 h2, Le X.K ρ1 H1 ρ2 H2 ∧ RSt X.K X.mg ρ2 H2 σ2 sg2 ∧ RHp X.K X.mg ρ2 H2 h2 ∧ WS X.K X.mg W E ρ2 H2 (forL s g mb (s.items.drop (i + 1)) (i + 1) sg2 h2), fun σ2 H2 ⟨ρ2, sg2, h2, a, b, c, d⟩ => ⟨_, by omega, rfl, hlt, ρ2, sg2, h2, a, b, c, d⟩, fun x H2 hy => ?_⟩
        obtain ⟨le2, rh2, rv2⟩ := yl x H2 hy
        refine ⟨ρ', sg', _, sg1, hs'.mono le2, rv2, eg, fun σ3 hs3 _ _ => ⟨ρ', sg1, h', hs3, rh2, ?_⟩⟩
        have w2 := WS.mono le2 w'
        cases e : mb sg1 h' with
        | nx sg4 h4 => rw [e] at w2; exact fun ρ4 H4 σ4 le4 rh4 hs4 => ⟨ρ4, sg4, h4, le'.trans (le2.trans le4), hs4, rh4, WS.mono le4 w2⟩
        | ct sg4 h4 => rw [e] at w2; exact fun ρ4 H4 σ4 le4 rh4 hs4 => ⟨ρ4, sg4, h4, le'.trans (le2.trans le4), hs4, rh4, WS.mono le4 w2⟩
        | bk sg4 h4 => rw [e] at w2; exact fun ρ4 H4 σ4 le4 rh4 hs4 => w2 ρ4 H4 σ4 le4 rh4 hs4
        | rt d h4 => rw [e] at w2; exact w2
        | exc c fs sg4 h4 => rw [e] at w2; exact w2
        | bad => rw [e] at w2; exact w2
      · exact w'.elim
    · exact w'.elim
  · have e : i = s.items.length := by omega
    subst e
    rw [List.drop_length] at w'
    unfold forL at w'
    split at w'
    · rename_i hf
      exact .inl ⟨so2 hf, w'.nxI Le.refl rh' hs'⟩
    · exact w'.elim⟩
/-! while -/
def whileF : Nat := 1000000
def whileL (c : Sg → Mh → R Bool) (body : Sg → Mh → RS) : Nat → Sg → Mh → RS
  | 0, _, _ => .bad
  | n + 1, sg, h => (c sg h).th sg fun b h1 => if b = true then match body sg h1 with
      | .nx sg' h' => whileL c body n sg' h'
      | .ct sg' h' => whileL c body n sg' h'
      | .bk sg' h' => .nx sg' h'
      | r => r
    else .nx sg h1
def sWhile (c : Sg → Mh → R Bool) (body : Sg → Mh → RS) : Sg → Mh → RS := fun sg h => whileL c body whileF sg h
theorem s_while {c : Expr} {nc : Sg → Mh → R Bool} (hp : PassesOwn (model X.prog X.w) X.A X.env X.xe) (hc : PB X W c nc) (hb : PSL X W body mb) : PSM X W (.While c body [] pos) (sWhile nc mb) := ⟨PSimp (ps_while hp hc.pt hb.ps) fun E σ H ⟨ρ, sg, h, hst, rh, w⟩ => by
  refine ⟨fun m σ H => ∃ ρ' sg' h', RSt X.K X.mg ρ' H σ sg' ∧ RHp X.K X.mg ρ' H h' ∧ WS X.K X.mg W E ρ' H (whileL nc mb m sg' h'), ⟨whileF, ρ, sg, h, hst, rh, w⟩, ?_⟩
  rintro m σ H ⟨ρ', sg', h', hs', rh', w'⟩
  cases m with
  | zero => exact w'.elim
  | succ n =>
    unfold whileL at w'
    refine TMb.goS hs' rh' w' fun ρ1 H1 h1 b le rh1 w1 => ?_
    split
    · rename_i hb
      rw [if_pos hb] at w1
      refine ⟨fun σ2 H2 => ∃ ρ2 sg2 h2, RSt X.K X.mg ρ2 H2 σ2 sg2 ∧ RHp X.K X.mg ρ2 H2 h2 ∧ WS X.K X.mg W E ρ2 H2 (whileL nc mb n sg2 h2), fun σ2 H2 z => ⟨n, Nat.lt_succ_self n, z⟩, ρ1, sg', h1, hs'.mono le, rh1, ?_⟩
      cases e : mb sg' h1 with
      | nx sg4 h4 => rw [e] at w1; exact fun ρ4 H4 σ4 le4 rh4 hs4 => ⟨ρ4, sg4, h4, hs4, rh4, WS.mono le4 w1⟩
      | ct sg4 h4 => rw [e] at w1; exact fun ρ4 H4 σ4 le4 rh4 hs4 => ⟨ρ4, sg4, h4, hs4, rh4, WS.mono le4 w1⟩
      | bk sg4 h4 => rw [e] at w1; exact fun ρ4 H4 σ4 le4 rh4 hs4 => w1 ρ4 H4 σ4 le4 rh4 hs4
      | rt d h4 => rw [e] at w1; exact w1
      | exc c fs sg4 h4 => rw [e] at w1; exact w1
      | bad => rw [e] at w1; exact w1
    · rename_i hb
      rw [if_neg hb] at w1
      exact w1.nxI Le.refl rh1 (hs'.mono le)⟩
/-! ### what can be walked -/
/-- a list by its number -/
def lstAt (h : Mh) (n : Nat) (ds : List D) : Prop := h[n]? = some (.lst ds) ∨ h[n]? = some (.fls ds)
def srcL (n : Nat) (ds : List D) : Src := ⟨ds, fun i x h => ∃ es, lstAt h n es ∧ es[i]? = some x, fun i h => ∃ es, lstAt h n es ∧ es.length ≤ i⟩
def srcT (ds : List D) : Src := ⟨ds, fun _ _ _ => True, fun _ _ => True⟩
theorem lstAt.sq {K mg ρ H h} {n : Nat} {a : Addr} {ds : List D} (rh : RHp K mg ρ H h) (e : ρ[n]? = some a) (l : lstAt h n ds) : ∃ vs, SqL K H a vs ∧ RVs K mg ρ H vs ds := by
  rcases l with l | l
  · cases rh.at e l with
    | lst h1 q => exact ⟨_, SqL.of h1, q⟩
  · cases rh.at e l with
    | fls h1 q => exact ⟨_, h1.sq, q⟩
theorem srcL_ok {K mg ρ0 H0} {n : Nat} {a : Addr} {ds : List D} (e : ρ0[n]? = some a) : SrcOk K mg ρ0 H0 (Itl K a) (srcL n ds) := fun ρ H h le rh => by
  have e' := le.pre n a e
  refine ⟨fun i d _ ⟨es, l, hi⟩ => ?_, fun ⟨es, l, hi⟩ => ?_⟩
  · obtain ⟨vs, sq, q⟩ := l.sq rh e'
    obtain ⟨v, e1, rv⟩ := q.get hi
    refine ⟨⟨vs, v, sq, e1⟩, fun x H' ⟨eH, f⟩ => ?_⟩
    subst eH
    have := f vs sq
    rw [e1] at this; cases this
    exact ⟨Le.refl, rh, rv⟩
  · obtain ⟨vs, sq, q⟩ := l.sq rh e'
    exact ⟨vs, sq, by rw [q.length]; exact hi⟩
theorem srcT_ok {K mg ρ0 H0} {a : Addr} {vs : List V} {ds : List D} (t : SqT K H0 a vs) (q : RVs K mg ρ0 H0 vs ds) : SrcOk K mg ρ0 H0 (Itt K a) (srcT ds) := fun ρ H h le rh => by
  have t' := le.tup a vs t
  have q' := q.mono le
  refine ⟨fun i d hi _ => ?_, fun _ => ⟨vs, t', by rw [q.length]; exact Nat.le_refl _⟩⟩
  obtain ⟨v, e1, rv⟩ := q'.get (show ds[i]? = some d from hi)
  refine ⟨⟨vs, v, t', e1⟩, fun x H' ⟨eH, f⟩ => ?_⟩
  subst eH
  have := f vs t'
  rw [e1] at this; cases this
  exact ⟨Le.refl, rh, rv⟩
def srcS (x : Str) : Src := srcT (x.cps.toList.map fun c => .str ⟨#[c]⟩)
theorem srcS_ok {K mg ρ0 H0} {x : Str} : SrcOk K mg ρ0 H0 (Its x) (srcS x) := fun ρ H h le rh => by
  refine ⟨fun i d hi _ => ?_, fun _ => ?_⟩
  · have hi : (x.cps.toList.map fun c => D.str ⟨#[c]⟩)[i]? = some d := hi
    rw [List.getElem?_map] at hi
    cases e : x.cps.toList[i]? with
    | none => rw [e] at hi; cases hi
    | some c =>
      rw [e] at hi; cases hi
      have e2 : x.cps[i]? = some c := by rw [← Array.getElem?_toList]; exact e
      refine ⟨(Array.getElem?_eq_some_iff.mp e2).1, fun y H' ⟨eH, c', e', ey⟩ => ?_⟩
      subst eH ey
      rw [e2] at e'; cases e'
      exact ⟨Le.refl, rh, .str _⟩
  · show x.cps.size ≤ (x.cps.toList.map fun c => D.str ⟨#[c]⟩).length
    simp
def srcR (lo : Int) (n : Nat) : Src := srcT ((List.range n).map fun k : Nat => .int (lo + (k : Int)))
theorem srcR_ok {K mg ρ0 H0} {lo : Int} {n : Nat} : SrcOk K mg ρ0 H0 (Itr lo n) (srcR lo n) := fun ρ H h le rh => by
  refine ⟨fun i d hi _ => ?_, fun _ => ?_⟩
  · have hi : ((List.range n).map fun k : Nat => D.int (lo + (k : Int)))[i]? = some d := hi
    rw [List.getElem?_map] at hi
    cases e : (List.range n)[i]? with
    | none => rw [e] at hi; cases hi
    | some c =>
      rw [e] at hi; cases hi
      obtain ⟨e1, e2⟩ := List.getElem?_eq_some_iff.mp e
      rw [List.getElem_range] at e2
      subst e2
      refine ⟨by have z : i < n := by simpa using e1
                 exact z, fun y H' ⟨eH, ey⟩ => ?_⟩
      subst eH ey
      exact ⟨Le.refl, rh, .int _⟩
  · show n ≤ ((List.range n).map fun k : Nat => D.int (lo + (k : Int))).length
    simp
/-- a key as a value -/
def dKey : Key → D
  | .inl i => .int i
  | .inr x => .str x
theorem dKey_rv {K mg ρ H} (k : Key) : RV K mg ρ H (kV k) (dKey k) := by cases k <;> first | exact .int _ | exact .str _
theorem dKeys_rv {K mg ρ H} : ∀ ks : List Key, RVs K mg ρ H (ks.map kV) (ks.map dKey)
  | [] => .nil
  | k :: ks => .cons (dKey_rv k) (dKeys_rv ks)
theorem keys_get {κ : Type} {kvs : List (κ × V)} {kds : List (κ × D)} {i : Nat} {k : κ} (ke : kvs.map (·.1) = kds.map (·.1)) (e : (kds.map (·.1))[i]? = some k) : ∃ v, kvs[i]? = some (k, v) := by
  rw [← ke, List.getElem?_map] at e
  cases q : kvs[i]? with
  | none => rw [q] at e; cases e
  | some p => rw [q] at e; cases e; exact ⟨p.2, rfl⟩
theorem srcK_ok {K mg ρ0 H0} {a : Addr} {o : Obj} {kvs : List (Key × V)} {kds : List (Key × D)} (ha : H0 a = some (.frz o (.dK kvs))) (ke : kvs.map (·.1) = kds.map (·.1)) : SrcOk K mg ρ0 H0 (Itk a o kvs) (srcT (kds.map fun kv => dKey kv.1)) := fun ρ H h le rh => by
  have ha' := le.frz a o _ ha
  have ll : kvs.length = kds.length := by simpa using congrArg List.length ke
  refine ⟨fun i d hi _ => ?_, fun _ => ⟨ha', ?_⟩⟩
  · have hi : (kds.map fun kv => dKey kv.1)[i]? = some d := hi
    rw [List.getElem?_map] at hi
    cases q : kds[i]? with
    | none => rw [q] at hi; cases hi
    | some p =>
      rw [q] at hi; cases hi
      obtain ⟨v, ev⟩ := keys_get (i := i) (k := p.1) ke (by rw [List.getElem?_map, q]; rfl)
      refine ⟨⟨ha', (List.getElem?_eq_some_iff.mp ev).1⟩, fun x H' ⟨eH, k, v', e1, e2⟩ => ?_⟩
      subst eH
      rw [ev] at e1; cases e1
      rw [e2]
      exact ⟨Le.refl, rh, dKey_rv _⟩
  · show kvs.length ≤ (kds.map fun kv => dKey kv.1).length
    rw [List.length_map, ll]; exact Nat.le_refl _
theorem srcKT_ok {K mg ρ0 H0} {a : Addr} {o : Obj} {kvs : List (List Key × V)} {kds : List (List Key × D)} (ha : H0 a = some (.frz o (.dT kvs))) (ke : kvs.map (·.1) = kds.map (·.1)) : SrcOk K mg ρ0 H0 (Itkt a o kvs) (srcT (kds.map fun kv => .tup (kv.1.map dKey))) := fun ρ H h le rh => by
  have ha' := le.frz a o _ ha
  have ll : kvs.length = kds.length := by simpa using congrArg List.length ke
  refine ⟨fun i d hi _ => ?_, fun _ => ⟨ha', ?_⟩⟩
  · have hi : (kds.map fun kv => D.tup (kv.1.map dKey))[i]? = some d := hi
    rw [List.getElem?_map] at hi
    cases q : kds[i]? with
    | none => rw [q] at hi; cases hi
    | some p =>
      rw [q] at hi; cases hi
      obtain ⟨v, ev⟩ := keys_get (i := i) (k := p.1) ke (by rw [List.getElem?_map, q]; rfl)
      refine ⟨⟨ha', (List.getElem?_eq_some_iff.mp ev).1⟩, fun x H' ⟨eH, k, v', b, e1, e2, e3⟩ => ?_⟩
      subst eH
      rw [ev] at e1; cases e1
      rw [e2]
      exact ⟨Le.refl, rh, .tup e3 (dKeys_rv _)⟩
  · show kvs.length ≤ (kds.map fun kv => D.tup (kv.1.map dKey)).length
    rw [List.length_map, ll]; exact Nat.le_refl _
/-- a value that is walked -/
def dIter (x : D) (h : Mh) : R Src := match x with
  | .tup ds => .ok (srcT ds) h
  | .kt ds => .ok (srcT ds) h
  | .str z => .ok (srcS z) h
  | .ref n => match h[n]? with
    | some (.lst ds) => .ok (srcL n ds) h
    | some (.fls ds) => .ok (srcL n ds) h
    | some (.zk kvs) => .ok (srcT (kvs.map fun kv => dKey kv.1)) h
    | some (.zt kvs) => .ok (srcT (kvs.map fun kv => .tup (kv.1.map dKey))) h
    | _ => .bad
  | _ => .bad
def lstOf0 (h : Mh) (n : Nat) : Bool := match h[n]? with
  | some (.lst _) => true
  | some (.fls _) => true
  | _ => false
def mIter (m : Sg → Mh → R D) : Sg → Mh → R Src := fun sg h => (m sg h).bind dIter
theorem i_val {e : Expr} {m : Sg → Mh → R D} (he : PM X W e m) : PIM X W tg e (mIter m) := ⟨PIimp (PIor (pi_keys he.pe) (PIor (pi_list he.pe) (PIor (pi_tup he.pe) (pi_str he.pe)))) fun σ H Q ⟨ρ, sg, h, hs, rh, w⟩ => by
  -- the value decides which of the three
  have key : ∀ (C : D → Mh → Prop) (Q1 : VK), (∀ d h', m sg h = .ok d h' → C d h') → (∀ ρ1 H1 h1 v d, C d h1 → Le X.K ρ H ρ1 H1 → RHp X.K X.mg ρ1 H1 h1 → RV X.K X.mg ρ1 H1 v d → WG X.K X.mg (SrcOk X.K X.mg) W σ Q ρ1 H1 (dIter d h1) → Q1 v H1) → TM X.K X.mg W m σ H Q1 := fun C Q1 hC k => by
    refine ⟨ρ, sg, h, hs, rh, ?_⟩
    unfold mIter at w
    cases e : m sg h with
    | ok d h' => rw [e] at w; exact fun ρ' H' v le rh' rv => k ρ' H' h' v d (hC d h' e) le rh' rv (w.mono le)
    | exc c fs h' => rw [e] at w; exact w
    | bad => rw [e] at w; exact w
  cases e : m sg h with
  | bad => unfold mIter at w; rw [e] at w; exact w.elim
  | exc c fs h' => exact .inr (.inl (key (fun _ _ => False) _ (fun d h' e' => by rw [e] at e'; cases e') fun _ _ _ _ _ z => z.elim))
  | ok d h' =>
    cases d with
    | tup ds =>
      refine .inr (.inr (.inl (key (fun d _ => d = .tup ds) _ (fun d h' e' => by rw [e] at e'; cases e'; rfl) fun ρ1 H1 h1 v d z le rh1 rv w1 => ?_)))
      subst z
      cases rv with
      | tup t q => exact ⟨_, rfl, ⟨_, SqT.of t⟩, w1.okI Le.refl rh1 (srcT_ok (SqT.of t) q)⟩
    | kt ds =>
      refine .inr (.inr (.inl (key (fun d _ => d = .kt ds) _ (fun d h' e' => by rw [e] at e'; cases e'; rfl) fun ρ1 H1 h1 v d z le rh1 rv w1 => ?_)))
      subst z
      cases rv with
      | kt t q => exact ⟨_, rfl, ⟨_, t⟩, w1.okI Le.refl rh1 (srcT_ok t q)⟩
    | str z =>
      refine .inr (.inr (.inr (key (fun d _ => d = .str z) _ (fun d h' e' => by rw [e] at e'; cases e'; rfl) fun ρ1 H1 h1 v d z le rh1 rv w1 => ?_)))
      subst z
      cases rv
      exact ⟨_, rfl, w1.okI Le.refl rh1 srcS_ok⟩
    | ref n =>
      have zk : (∃ kvs, h'[n]? = some (.zk kvs)) ∨ (∃ kvs, h'[n]? = some (.zt kvs)) ∨ (lstOf0 h' n = true) ∨ dIter (.ref n) h' = .bad := by
        cases eo : h'[n]? with
        | none => exact .inr (.inr (.inr (by simp only [dIter, eo])))
        | some o =>
          cases o with
          | lst ds => exact .inr (.inr (.inl (by simp only [lstOf0, eo])))
          | fls ds => exact .inr (.inr (.inl (by simp only [lstOf0, eo])))
          | zk kvs => exact .inl ⟨_, rfl⟩
          | zt kvs => exact .inr (.inl ⟨_, rfl⟩)
          | _ => exact .inr (.inr (.inr (by simp only [dIter, eo])))
      rcases zk with ⟨kvs, ek⟩ | ⟨kvs, ek⟩ | el | eb
      · refine .inl (key (fun d h1 => d = .ref n ∧ h1[n]? = some (.zk kvs)) _ (fun d h2 e' => by rw [e] at e'; cases e'; exact ⟨rfl, ek⟩) fun ρ1 H1 h1 v d z le rh1 rv w1 => ?_)
        obtain ⟨rfl, z⟩ := z
        cases rv with
        | ref r =>
          simp only [dIter, z] at w1
          cases rh1.obj _ _ _ r z with
          | zk hl ke q => exact ⟨_, _, rfl, .inl ⟨_, hl, w1.okI Le.refl rh1 (srcK_ok hl ke)⟩⟩
      · refine .inl (key (fun d h1 => d = .ref n ∧ h1[n]? = some (.zt kvs)) _ (fun d h2 e' => by rw [e] at e'; cases e'; exact ⟨rfl, ek⟩) fun ρ1 H1 h1 v d z le rh1 rv w1 => ?_)
        obtain ⟨rfl, z⟩ := z
        cases rv with
        | ref r =>
          simp only [dIter, z] at w1
          cases rh1.obj _ _ _ r z with
          | zt hl ke q => exact ⟨_, _, rfl, .inr ⟨_, hl, w1.okI Le.refl rh1 (srcKT_ok hl ke)⟩⟩
      · refine .inr (.inl (key (fun d h1 => d = .ref n ∧ lstOf0 h1 n = true) _ (fun d h' e' => by rw [e] at e'; cases e'; exact ⟨rfl, el⟩) fun ρ1 H1 h1 v d z le rh1 rv w1 => ?_))
        obtain ⟨z, zl⟩ := z
        subst z
        cases rv with
        | ref r =>
          simp only [dIter] at w1
          unfold lstOf0 at zl
          split at w1
          · rename_i e0
            obtain ⟨vs, sq, q⟩ := lstAt.sq rh1 r (.inl e0)
            exact ⟨_, rfl, ⟨vs, sq⟩, w1.okI Le.refl rh1 (srcL_ok r)⟩
          · rename_i e0
            obtain ⟨vs, sq, q⟩ := lstAt.sq rh1 r (.inr e0)
            exact ⟨_, rfl, ⟨vs, sq⟩, w1.okI Le.refl rh1 (srcL_ok r)⟩
          · rename_i e0; rw [e0] at zl; cases zl
          · rename_i e0; rw [e0] at zl; cases zl
          · exact w1.elim
      · unfold mIter at w; rw [e] at w
        rw [R.bind_ok, eb] at w
        exact w.elim
    | _ => unfold mIter at w; rw [e] at w; exact w.elim⟩
def mRange1 (m : Sg → Mh → R D) : Sg → Mh → R Src := fun sg h => (m sg h).bind fun d h1 => match d with
  | .int j => if -(2 ^ 62) ≤ j ∧ j < 2 ^ 62 then .ok (srcR 0 j.toNat) h1 else .bad
  | _ => .bad
theorem i_range1 {a : Expr} {m : Sg → Mh → R D} {p : Pos} (ha : PM X W a m) (hm : X.mg "range" = none) (hg : Gl X "range" := by rfl) (hs : starEach [a] X.env = [(false, eval a X.env)] := by rfl) : PIM X W tg (.Call (.Name "range" p) [a] [] pos) (mRange1 m) :=
  ⟨PIimp (pi_range1 hg hm (l_cons ha l_nil hs).pa hs) fun σ H Q ⟨ρ, sg, h, hst, rh, w⟩ => by
    refine ⟨ρ, sg, h, hst, rh, ?_⟩
    unfold mCons mNil
    have w' : WG X.K X.mg (SrcOk X.K X.mg) W σ Q ρ H (((m sg h).bind fun d h1 => .ok [d] h1).bind fun ds h1 => match ds with
      | [.int j] => if -(2 ^ 62) ≤ j ∧ j < 2 ^ 62 then .ok (srcR 0 j.toNat) h1 else .bad
      | _ => .bad) := by
      unfold mRange1 at w
      rw [R.bind_assoc]
      cases e : m sg h with
      | ok d h' => rw [e] at w; cases d <;> exact w
      | exc c fs h' => rw [e] at w; exact w
      | bad => rw [e] at w; exact w
    refine w'.cut fun ρ1 H1 h1 vs ds le rh1 rvs w1 => ?_
    split at w1
    · split at w1
      · rename_i hz
        cases rvs with
        | cons r t =>
          cases t; cases r
          exact ⟨_, rfl, hz.1, hz.2, w1.okI Le.refl rh1 srcR_ok⟩
      · exact w1.elim
    · exact w1.elim⟩
end
end Mo

namespace Mo
open PySem PySem.Spec PyProof.Rows L2
section
variable {X : Cx} {W : WX} {tg iter : Expr} {ts : List Nat} {g : D → Sg → Option Sg} {pos : Pos}
/-! ### zip, enumerate -/
def zipD : List D → List D → List D
  | x :: xs, y :: ys => .tup [x, y] :: zipD xs ys
  | _, _ => []
theorem zipD_get : ∀ {xs ys : List D} {i : Nat} {d : D}, (zipD xs ys)[i]? = some d → ∃ x y, xs[i]? = some x ∧ ys[i]? = some y ∧ d = .tup [x, y]
  | [], _, _, _, e => by simp [zipD] at e
  | _ :: _, [], _, _, e => by simp [zipD] at e
  | x :: xs, y :: ys, 0, d, e => by simp [zipD] at e; exact ⟨x, y, rfl, rfl, e.symm⟩
  | x :: xs, y :: ys, i + 1, d, e => by
    have e : (zipD xs ys)[i]? = some d := by simpa [zipD] using e
    obtain ⟨a, b, h1, h2, h3⟩ := zipD_get e
    exact ⟨a, b, by simpa using h1, by simpa using h2, h3⟩
theorem zipD_len : ∀ (xs ys : List D), xs.length ≤ (zipD xs ys).length ∨ ys.length ≤ (zipD xs ys).length
  | [], _ => .inl (Nat.zero_le _)
  | _ :: _, [] => .inr (Nat.zero_le _)
  | x :: xs, y :: ys => by
    rcases zipD_len xs ys with h | h
    · exact .inl (Nat.succ_le_succ h)
    · exact .inr (Nat.succ_le_succ h)
def srcZ (n m : Nat) (xs ys : List D) : Src := ⟨zipD xs ys, fun i d h => ∃ x y, d = .tup [x, y] ∧ (srcL n xs).at' i x h ∧ (srcL m ys).at' i y h, fun i h => (∃ es fs, lstAt h n es ∧ lstAt h m fs ∧ (es.length ≤ i ∨ fs.length ≤ i))⟩
theorem srcZ_ok {K mg ρ0 H0} {n m : Nat} {a b : Addr} {xs ys : List D} (ea : ρ0[n]? = some a) (eb : ρ0[m]? = some b) : SrcOk K mg ρ0 H0 (Itz K a b) (srcZ n m xs ys) := fun ρ H h le rh => by
  have ea' := le.pre n a ea
  have eb' := le.pre m b eb
  refine ⟨fun i d hd hat => ?_, fun ⟨es, fs, l1, l2, hl⟩ => ?_⟩
  · obtain ⟨x, y, rfl, ⟨es, l1, hx⟩, fs, l2, hy⟩ := hat
    obtain ⟨vs, s1, q1⟩ := l1.sq rh ea'
    obtain ⟨ws, s2, q2⟩ := l2.sq rh eb'
    obtain ⟨v, e1, r1⟩ := q1.get hx
    obtain ⟨u, e2, r2⟩ := q2.get hy
    refine ⟨⟨vs, ws, v, u, s1, s2, e1, e2⟩, fun z H' ⟨T, x', y', ez, hT, eH, f1, f2⟩ => ?_⟩
    subst ez eH
    have g1 := f1 vs s1
    have g2 := f2 ws s2
    rw [e1] at g1; cases g1
    rw [e2] at g2; cases g2
    exact ⟨Le.new hT, rh.made hT, .tup upd_same ((RVs.cons r1 (.cons r2 .nil)).mono (Le.new hT))⟩
  · obtain ⟨vs, s1, q1⟩ := l1.sq rh ea'
    obtain ⟨ws, s2, q2⟩ := l2.sq rh eb'
    exact ⟨vs, ws, s1, s2, by rw [q1.length, q2.length]; exact hl⟩
theorem srcZT_ok {K mg ρ0 H0} {a b : Addr} {vs ws : List V} {xs ys : List D} (ta : SqT K H0 a vs) (qa : RVs K mg ρ0 H0 vs xs) (tb : SqT K H0 b ws) (qb : RVs K mg ρ0 H0 ws ys) : SrcOk K mg ρ0 H0 (RZ.ItzT K a b) (srcT (zipD xs ys)) := fun ρ H h le rh => by
  have ta' := le.tup a vs ta
  have tb' := le.tup b ws tb
  have qa' := qa.mono le
  have qb' := qb.mono le
  refine ⟨fun i d hd _ => ?_, fun _ => ⟨vs, ws, ta', tb', by rw [qa'.length, qb'.length]; exact zipD_len xs ys⟩⟩
  obtain ⟨x, y, hx, hy, rfl⟩ := zipD_get (show (zipD xs ys)[i]? = some d from hd)
  obtain ⟨v, e1, r1⟩ := qa'.get hx
  obtain ⟨u, e2, r2⟩ := qb'.get hy
  refine ⟨⟨vs, ws, v, u, ta', tb', e1, e2⟩, fun z H' ⟨T, x', y', ez, hT, eH, f1, f2⟩ => ?_⟩
  subst ez eH
  have g1 := f1 vs ta'
  have g2 := f2 ws tb'
  rw [e1] at g1; cases g1
  rw [e2] at g2; cases g2
  exact ⟨Le.new hT, rh.made hT, .tup upd_same ((RVs.cons r1 (.cons r2 .nil)).mono (Le.new hT))⟩
def lstOf (h : Mh) (n : Nat) : Option (List D) := match h[n]? with
  | some (.lst ds) => some ds
  | some (.fls ds) => some ds
  | _ => none
theorem lstOf_at {h : Mh} {n : Nat} {ds : List D} (e : lstOf h n = some ds) : lstAt h n ds := by
  unfold lstOf at e
  split at e
  · cases e; exact .inl (by assumption)
  · cases e; exact .inr (by assumption)
  · cases e
def dZip (ds : List D) (h : Mh) : R Src := match ds with
  | [.ref n, .ref m] => match lstOf h n, lstOf h m with
    | some xs, some ys => .ok (srcZ n m xs ys) h
    | _, _ => .bad
  | [.tup xs, .tup ys] => .ok (srcT (zipD xs ys)) h
  | _ => .bad
def mZip (ml : Sg → Mh → R (List D)) : Sg → Mh → R Src := fun sg h => (ml sg h).bind dZip
theorem i_zip {e e2 : Expr} {ml : Sg → Mh → R (List D)} {p tpos : Pos} {elts : List Expr} {kk : Nat} (hm : X.mg "zip" = none) (ha : PL X W [e, e2] ml) (hg : Gl X "zip" := by rfl)
    (hs : starEach [e, e2] X.env = (false, eval e X.env) :: starEach [e2] X.env := by rfl) (hpl : (backTo pos (starEach [e2] X.env)).any (·.1) = false := by rfl) : PIM X W (.Tuple elts kk tpos) (.Call (.Name "zip" p) [e, e2] [] pos) (mZip ml) :=
  ⟨PIimp (RZ.pi_zipA hg hm ha.pa hs hpl) fun σ H Q ⟨ρ, sg, h, hst, rh, w⟩ => TMl.go hst rh w fun ρ1 H1 h1 vs ds le rh1 rvs w1 => by
    unfold dZip at w1
    split at w1
    · split at w1
      · rename_i e1 e2
        cases rvs with
        | cons r1 t => cases t with
          | cons r2 t =>
            cases t
            cases r1 with
            | ref r1 => cases r2 with
              | ref r2 =>
                obtain ⟨v1, s1, q1⟩ := (lstOf_at e1).sq rh1 r1
                obtain ⟨v2, s2, q2⟩ := (lstOf_at e2).sq rh1 r2
                exact ⟨_, _, v1, v2, rfl, .inl ⟨s1, s2, w1.okI Le.refl rh1 (srcZ_ok r1 r2)⟩⟩
      · exact w1.elim
    · cases rvs with
      | cons r1 t => cases t with
        | cons r2 t =>
          cases t
          cases r1 with
          | tup t1 q1 => cases r2 with
            | tup t2 q2 => exact ⟨_, _, _, _, rfl, .inr ⟨SqT.of t1, SqT.of t2, w1.okI Le.refl rh1 (srcZT_ok (SqT.of t1) q1 (SqT.of t2) q2)⟩⟩
    · exact w1.elim⟩
def enumD : Nat → List D → List D
  | _, [] => []
  | k, x :: xs => .tup [.int (k : Int), x] :: enumD (k + 1) xs
theorem enumD_get : ∀ {xs : List D} {k i : Nat} {d : D}, (enumD k xs)[i]? = some d → ∃ x, xs[i]? = some x ∧ d = .tup [.int ((k + i : Nat) : Int), x]
  | [], _, _, _, e => by simp [enumD] at e
  | x :: xs, k, 0, d, e => by simp [enumD] at e; exact ⟨x, rfl, e.symm⟩
  | x :: xs, k, i + 1, d, e => by
    have e : (enumD (k + 1) xs)[i]? = some d := by simpa [enumD] using e
    obtain ⟨a, h1, h3⟩ := enumD_get e
    exact ⟨a, by simpa using h1, by rw [h3, show k + 1 + i = k + (i + 1) by omega]⟩
theorem enumD_len : ∀ (xs : List D) (k : Nat), (enumD k xs).length = xs.length
  | [], _ => rfl
  | x :: xs, k => congrArg (· + 1) (enumD_len xs (k + 1))
def srcE (n : Nat) (xs : List D) : Src := ⟨enumD 0 xs, fun i d h => ∃ x, d = .tup [.int (i : Int), x] ∧ (srcL n xs).at' i x h, fun i h => ∃ es, lstAt h n es ∧ es.length ≤ i⟩
theorem srcE_ok {K mg ρ0 H0} {n : Nat} {a : Addr} {xs : List D} (ea : ρ0[n]? = some a) : SrcOk K mg ρ0 H0 (Ite K a) (srcE n xs) := fun ρ H h le rh => by
  have ea' := le.pre n a ea
  refine ⟨fun i d hd hat => ?_, fun ⟨es, l1, hl⟩ => ?_⟩
  · obtain ⟨x, rfl, es, l1, hx⟩ := hat
    obtain ⟨vs, s1, q1⟩ := l1.sq rh ea'
    obtain ⟨v, e1, r1⟩ := q1.get hx
    refine ⟨⟨vs, v, s1, e1⟩, fun z H' ⟨T, x', ez, hT, eH, f1⟩ => ?_⟩
    subst ez eH
    have g1 := f1 vs s1
    rw [e1] at g1; cases g1
    exact ⟨Le.new hT, rh.made hT, .tup upd_same ((RVs.cons (.int _) (.cons r1 .nil)).mono (Le.new hT))⟩
  · obtain ⟨vs, s1, q1⟩ := l1.sq rh ea'
    exact ⟨vs, s1, by rw [q1.length]; exact hl⟩
def dEnum (ds : List D) (h : Mh) : R Src := match ds with
  | [.ref n] => match lstOf h n with
    | some xs => .ok (srcE n xs) h
    | _ => .bad
  | _ => .bad
def mEnum (ml : Sg → Mh → R (List D)) : Sg → Mh → R Src := fun sg h => (ml sg h).bind dEnum
theorem i_enum {e : Expr} {ml : Sg → Mh → R (List D)} {p tpos : Pos} {elts : List Expr} {kk : Nat} (hm : X.mg "enumerate" = none) (ha : PL X W [e] ml) (hg : Gl X "enumerate" := by rfl) (hs : starEach [e] X.env = [(false, eval e X.env)] := by rfl) :
    PIM X W (.Tuple elts kk tpos) (.Call (.Name "enumerate" p) [e] [] pos) (mEnum ml) :=
  ⟨PIimp (pi_enum hg hm ha.pa hs) fun σ H Q ⟨ρ, sg, h, hst, rh, w⟩ => TMl.go hst rh w fun ρ1 H1 h1 vs ds le rh1 rvs w1 => by
    unfold dEnum at w1
    split at w1
    · split at w1
      · rename_i e1
        cases rvs with
        | cons r1 t =>
          cases t
          cases r1 with
          | ref r1 =>
            obtain ⟨v1, s1, q1⟩ := (lstOf_at e1).sq rh1 r1
            exact ⟨_, v1, rfl, s1, w1.okI Le.refl rh1 (srcE_ok r1)⟩
      · exact w1.elim
    · exact w1.elim⟩
/-! ### list comprehensions -/
def wipeD (sg : Sg) : List Nat → Sg
  | [] => sg
  | v :: vs => (wipeD sg vs).set v none
theorem RSt.wipe {K mg ρ H} {σ : L2.St} {sg : Sg} (r : RSt K mg ρ H σ sg) : ∀ vs : List Nat, RSt K mg ρ H (wipe σ vs) (wipeD sg vs)
  | [] => r
  | v :: vs => by
    have ih := RSt.wipe r vs
    unfold L2.wipe wipeD
    refine ⟨by simp [ih.len], fun j d e => ?_⟩
    by_cases hj : v = j
    · subst hj
      by_cases hi : v < (wipeD sg vs).length
      · rw [List.getElem?_set_self hi] at e; cases e
      · rw [List.getElem?_eq_none (by simpa using hi)] at e; cases e
    · rw [List.getElem?_set_ne hj] at e ⊢
      exact ih.val j d e
theorem wipe_get (σ : L2.St) (j : Nat) : ∀ vs : List Nat, (wipe σ vs)[j]? = if j ∈ vs ∧ j < σ.length then some none else σ[j]?
  | [] => by simp [L2.wipe]
  | v :: vs => by
    have ih := wipe_get σ j vs
    unfold L2.wipe
    by_cases hj : v = j
    · subst hj
      by_cases hv : v < σ.length
      · rw [List.getElem?_set_self (by rw [L2.wipe_length]; exact hv), if_pos ⟨by simp, hv⟩]
      · rw [List.getElem?_eq_none (by simpa [L2.wipe_length] using hv), if_neg (fun z => hv z.2), List.getElem?_eq_none (by simpa using hv)]
    · rw [List.getElem?_set_ne hj, ih]
      by_cases hm : j ∈ vs ∧ j < σ.length
      · rw [if_pos hm, if_pos ⟨List.mem_cons_of_mem _ hm.1, hm.2⟩]
      · rw [if_neg hm, if_neg (fun z => hm ⟨by rcases List.mem_cons.mp z.1 with e | e; exact absurd e.symm hj; exact e, z.2⟩)]
theorem wipe_ext {vs : List Nat} {σ τ : L2.St} (h : ∀ j, j ∉ vs → σ[j]? = τ[j]?) (hl : σ.length = τ.length) : wipe σ vs = wipe τ vs := List.ext_getElem? fun j => by
  rw [wipe_get, wipe_get, hl]
  by_cases hm : j ∈ vs
  · by_cases hj : j < τ.length
    · rw [if_pos ⟨hm, hj⟩, if_pos ⟨hm, hj⟩]
    · rw [if_neg (fun z => hj z.2), if_neg (fun z => hj z.2), List.getElem?_eq_none (by rw [hl]; omega), List.getElem?_eq_none (by omega)]
  · rw [if_neg (fun z => hm z.1), if_neg (fun z => hm z.1)]
    exact h j hm
theorem wipe_wipe (σ : L2.St) (vs : List Nat) : wipe (wipe σ vs) vs = wipe σ vs := List.ext_getElem? fun j => by
  rw [wipe_get, wipe_get, L2.wipe_length]
  by_cases hm : j ∈ vs ∧ j < σ.length
  · rw [if_pos hm]
    split <;> rfl
  · rw [if_neg hm]
def R.nox {α : Type} : R α → R α
  | .exc _ _ _ => .bad
  | r => r
/-- the clause's tests -/
structure PTM (X : Cx) (W : WX) (ifs : List Expr) (m : Sg → Mh → R Bool) : Prop where
  pts : PTs X ifs (TMb X.K X.mg W m)
def mYes : Sg → Mh → R Bool := fun _ h => .ok true h
theorem PTsimp {X : Cx} {e : List Expr} {t t' : TT} (h : PTs X e t) (i : ∀ σ H Q, t' σ H Q → t σ H Q) : PTs X e t' := ⟨fun pins s σ H Q I hw => h.run pins s σ H Q I (i _ _ _ hw)⟩
theorem c_nil : PTM X W [] mYes := ⟨PTsimp pts_nil fun σ H Q ⟨ρ, sg, h, hs, rh, w⟩ => w.okI Le.refl rh rfl⟩
theorem c_one {c : Expr} {m : Sg → Mh → R Bool} (hc : PB X W c m) : PTM X W [c] m := ⟨pts_one hc.pt⟩
open Classical in
noncomputable def lcL (s : Src) (g : D → Sg → Option Sg) (mt : Sg → Mh → R Bool) (me : Sg → Mh → R D) (sg : Sg) (n : Nat) : List D → Nat → Mh → R D
  | [], i, h => if s.fin i h then .ok (.ref n) h else .bad
  | x :: xs, i, h => if s.at' i x h then match g x sg with
    | some sg1 => (mt sg1 h).nox.bind fun b h1 => if b = true then (me sg1 h1).nox.bind fun y h2 => match h2[n]? with
        | some (.lst acc) => if acc.length < sizeLine then lcL s g mt me sg n xs (i + 1) (h2.set n (.lst (acc ++ [y]))) else .bad
        | _ => .bad
      else lcL s g mt me sg n xs (i + 1) h1
    | none => .bad else .bad
noncomputable def mLc (mi : Sg → Mh → R Src) (g : D → Sg → Option Sg) (mt : Sg → Mh → R Bool) (me : Sg → Mh → R D) (vs : List Nat) : Sg → Mh → R D := fun sg h => (mi sg h).bind fun s h1 => lcL s g mt me (wipeD sg vs) h1.length s.items 0 (h1 ++ [.lst []])
abbrev W0 : WX := fun _ _ _ _ => False
theorem WG.noxI {K mg} {α β : Type} {W W' : WX} {σ σ' : L2.St} {γ δ : Type} {rel : Ren → Hp → β → α → Prop} {rel2 : Ren → Hp → δ → γ → Prop} {Q : δ → Hp → Prop} {Q1 : β → Hp → Prop} {ρ : Ren} {H : Hp} {r : R α} {f : α → Mh → R γ} (w : WG K mg rel2 W σ Q ρ H (r.nox.bind f))
    (k : ∀ ρ1 H1 h1 v a, Le K ρ H ρ1 H1 → RHp K mg ρ1 H1 h1 → rel ρ1 H1 v a → WG K mg rel2 W σ Q ρ1 H1 (f a h1) → Q1 v H1) : WG K mg rel W' σ' Q1 ρ H r := by
  cases r with
  | ok a h' => exact fun ρ' H' v l rh rv => k ρ' H' h' v a l rh rv (w.mono l)
  | exc c fs h' => exact w.elim
  | bad => exact w
theorem lc_reads {own : List (Str × Nat)} {mt : Sg → Mh → R Bool} {me : Sg → Mh → R D} {mi : Sg → Mh → R Src} {σ : L2.St} {H : Hp} {Q : VK} (hts : ∀ j ∈ ts, j ∈ own.map (·.2)) (w : TM X.K X.mg W (mLc mi g mt me (own.map (·.2))) σ H Q) :
    tLc (TMi X.K X.mg W mi) (TMg X.K X.mg ts g) (TMb X.K X.mg W0 mt) (TM X.K X.mg W0 me) (own.map (·.2)) σ H Q := by
  obtain ⟨ρ, sg, h, hs, rh, w⟩ := w
  refine TMi.go hs rh w fun ρ1 H1 h1 J s le rh1 so w1 => fun D hD => ?_
  generalize hvs : own.map (·.2) = vs at *
  have rh2 : RHp X.K X.mg (ρ1 ++ [D]) (upd H1 D (.lst [])) (h1 ++ [.lst []]) := rh1.grow hD (RO.newList hD .nil)
  have le2 : Le X.K ρ1 H1 (ρ1 ++ [D]) (upd H1 D (.lst [])) := Le.grow hD
  have hn : (ρ1 ++ [D])[h1.length]? = some D := rh1.at_new
  refine ⟨fun i m H => m = s.items.length - i ∧ i ≤ s.items.length ∧ ∃ ρ' h', Le X.K (ρ1 ++ [D]) (upd H1 D (.lst [])) ρ' H ∧ RHp X.K X.mg ρ' H h' ∧ WV X.K X.mg W σ Q ρ' H (lcL s g mt me (wipeD sg vs) h1.length (s.items.drop i) i h'),
    ⟨_, rfl, Nat.zero_le _, _, _, Le.refl, rh2, w1.mono le2⟩, ?_⟩
  rintro i m H ⟨rfl, hi, ρ', h', le', rh', w'⟩
  obtain ⟨so1, so2⟩ := so ρ' H h' (le2.trans le') rh'
  have hn' : ρ'[h1.length]? = some D := le'.pre _ _ hn
  have hsW : RSt X.K X.mg ρ' H (wipe σ vs) (wipeD sg vs) := (hs.mono (le.trans (le2.trans le'))).wipe vs
  by_cases hlt : i < s.items.length
  · rw [List.drop_eq_getElem_cons hlt] at w'
    unfold lcL at w'
    split at w'
    · rename_i hat
      obtain ⟨go, yl⟩ := so1 i _ (List.getElem?_eq_getElem hlt) hat
      split at w'
      · rename_i sg1 eg
        refine .inr ⟨go, fun H2 => ∃ ρ2 h2, Le X.K (ρ1 ++ [D]) (upd H1 D (.lst [])) ρ2 H2 ∧ RHp X.K X.mg ρ2 H2 h2 ∧ WV X.K X.mg W σ Q ρ2 H2 (lcL s g mt me (wipeD sg vs) h1.length (s.items.drop (i + 1)) (i + 1) h2), fun H2 ⟨ρ2, h2, a, b, c⟩ => ⟨_, by omega, rfl, hlt, ρ2, h2, a, b, c⟩, fun x H2 hy => ?_⟩
        obtain ⟨le3, rh3, rv3⟩ := yl x H2 hy
        refine ⟨ρ', _, _, sg1, hsW.mono le3, rv3, eg, fun σ3 hs3 l3 k3 => ⟨?_, ?_⟩⟩
        · rw [← wipe_wipe σ vs]
          exact wipe_ext (fun j hj => k3 j fun z => hj (hts j z)) l3
        · have w3 := WG.mono le3 w'
          refine ⟨ρ', sg1, h', hs3, rh3, w3.noxI fun ρ4 H4 h4 b b' le4 rh4 e w4 => ?_⟩
          subst e
          split
          · rename_i hb
            rw [if_pos hb] at w4
            refine ⟨ρ4, sg1, h4, hs3.mono le4, rh4, w4.noxI fun ρ5 H5 h5 y y' le5 rh5 ry w5 => ?_⟩
            split at w5
            · rename_i acc e5
              split at w5
              · rename_i hz
                have hn5 : ρ5[h1.length]? = some D := le5.pre _ _ (le4.pre _ _ hn')
                cases rh5.at hn5 e5 with
                | lst hD5 q5 =>
                  refine ⟨_, hD5, by rw [q5.length]; exact hz, ρ5, _, le'.trans (le3.trans (le4.trans (le5.trans (Le.write hD5 trivial)))), rh5.write hn5 e5 rfl rfl hD5 trivial (.lst upd_same ((q5.append (.cons ry .nil)).mono (Le.write hD5 trivial))), w5.mono (Le.write hD5 trivial)⟩
              · exact w5.elim
            · exact w5.elim
          · rename_i hb
            rw [if_neg hb] at w4
            exact ⟨ρ4, h4, le'.trans (le3.trans le4), rh4, w4⟩
      · exact w'.elim
    · exact w'.elim
  · have e : i = s.items.length := by omega
    subst e
    rw [List.drop_length] at w'
    unfold lcL at w'
    split at w'
    · rename_i hf
      exact .inl ⟨so2 hf, w'.okI Le.refl rh' (.ref hn')⟩
    · exact w'.elim
end
end Mo

namespace Mo
open PySem PySem.Spec PyProof.Rows L2
section
variable {X : Cx} {W : WX} {tg iter elt : Expr} {ifs : List Expr} {scope : Scope} {own : List (Str × Nat)} {ts : List Nat} {g : D → Sg → Option Sg} {mi : Sg → Mh → R Src} {mt : Sg → Mh → R Bool} {me : Sg → Mh → R D} {pos spos : Pos}
theorem q_lc (own : List (Str × Nat)) (hN : X.N.Nodup) (hi : PIM X W tg iter mi) (ok : BlkOk X.N X.env.scope scope own)
    (hg : ∀ (s : Shared) (H : Hp) (C : Addr) (cl : List (Str × Addr)) (fp : List Addr), PGM (X.blk s H scope (compEnvC scope cl C X.env) fp) tg ts g)
    (ht : ∀ (s : Shared) (H : Hp) (C : Addr) (cl : List (Str × Addr)) (fp : List Addr), PTM (X.blk s H scope (compEnvC scope cl C X.env) fp) W0 ifs mt)
    (he : ∀ (s : Shared) (H : Hp) (C : Addr) (cl : List (Str × Addr)) (fp : List Addr), PM (X.blk s H scope (compEnvC scope cl C X.env) fp) W0 elt me)
    (hts : ∀ j ∈ ts, j ∈ own.map (·.2) := by decide) (hc : X.calm = true := by rfl) (hs : ∀ x, foldedSetIterable iter X.env x = pure x := by intro _; rfl) :
    PM X W (.ListComp elt [⟨tg, iter, ifs, 0⟩] scope pos) (mLc mi g mt me (own.map (·.2))) :=
  ⟨PEimp (pe_lc hc hN hi.pi ok (fun s H C cl fp => (hg s H C cl fp).pg) (fun s H C cl fp => (ht s H C cl fp).pts) (fun s H C cl fp => (he s H C cl fp).pe) hs) fun σ H Q w => lc_reads hts w⟩
theorem s_lc (i : Nat) (own : List (Str × Nat)) {y : Str} {py : Pos} (hN : X.N.Nodup) (hi : PIM X W tg iter mi) (ok : BlkOk X.N X.env.scope scope own)
    (hg : ∀ (s : Shared) (H : Hp) (C : Addr) (cl : List (Str × Addr)) (fp : List Addr), PGM (X.blk s H scope (compEnvC scope cl C X.env) fp) tg ts g)
    (ht : ∀ (s : Shared) (H : Hp) (C : Addr) (cl : List (Str × Addr)) (fp : List Addr), PTM (X.blk s H scope (compEnvC scope cl C X.env) fp) W0 ifs mt)
    (he : ∀ (s : Shared) (H : Hp) (C : Addr) (cl : List (Str × Addr)) (fp : List Addr), PM (X.blk s H scope (compEnvC scope cl C X.env) fp) W0 elt me)
    (hsw : swapsWith (.ListComp elt [⟨tg, iter, ifs, 0⟩] scope pos) (some (.Name y py)) spos.line X.env = pure true) (hts : ∀ j ∈ ts, j ∈ own.map (·.2) := by decide) (hy : X.N[i]? = some y := by rfl) (hyl : X.env.scope.names.lookup y = some .local := by rfl)
    (hc : X.calm = true := by rfl) (hs : ∀ x, foldedSetIterable iter X.env x = pure x := by intro _; rfl) :
    PSM X W (.Assign [.Name y py] (.ListComp elt [⟨tg, iter, ifs, 0⟩] scope pos) spos) (sSet i (mLc mi g mt me (own.map (·.2)))) :=
  ⟨PSimp (ps_setLc hc hN hy hyl hsw hi.pi ok (fun s H C cl fp => (hg s H C cl fp).pg) (fun s H C cl fp => (ht s H C cl fp).pts) (fun s H C cl fp => (he s H C cl fp).pe) hs) fun E σ H ⟨ρ, sg, h, hst, rh, w⟩ =>
    lc_reads (W := W) (Q := fun x H1 => gName i x σ H1 E.nx) hts (TM.goS hst rh w fun ρ1 H1 h1 v d le rh1 rv w1 => w1.nxI Le.refl rh1 ((hst.mono le).set i rv))⟩
end
/-! ### stores to lists and dicts -/
def putD {κ : Type} [DecidableEq κ] (kvs : List (κ × D)) (k : κ) (v : D) : List (κ × D) := if kvs.any fun kv => decide (kv.1 = k) then kvs.map fun kv => if kv.1 = k then (kv.1, v) else kv else kvs ++ [(k, v)]
def storeD : MO → D → D → Option MO
  | .dk kvs, k, v => match keyD k with
    | some key => if kvs.length < sizeLine then some (.dk (putD kvs key v)) else none
    | none => none
  | .dt kvs, k, v => match keyT k with
    | some key => if kvs.length < sizeLine then some (.dt (putD kvs key v)) else none
    | none => none
  | _, _, _ => none
section
variable {X : Cx} {W : WX} {o i e : Expr} {mo mi mv : Sg → Mh → R D} {pos pos' : Pos}
def dPutL (x k v : D) (h : Mh) : Option Mh := match x, k with
  | .ref n, .int z => match h[n]? with
    | some (.lst xs) => (ixN xs.length z).map fun j => h.set n (.lst (xs.set j v))
    | _ => none
  | _, _ => none
def dPutD (x k v : D) (h : Mh) : Option Mh := match x with
  | .ref n => match h[n]? with
    | some o => (storeD o k v).map fun u => h.set n u
    | none => none
  | _ => none
def toRS (sg : Sg) : Option Mh → RS
  | some h => .nx sg h
  | none => .bad
def sPut (f : D → D → D → Mh → Option Mh) (mo mi mv : Sg → Mh → R D) : Sg → Mh → RS := fun sg h => (mv sg h).th sg fun v h1 => (mo sg h1).th sg fun x h2 => (mi sg h2).th sg fun k h3 => toRS sg (f x k v h3)
theorem s_putL (ho : PM X W o mo) (hi : PM X W i mi) (hv : PM X W e mv) (ha : ∀ v, assign (.Subscript o i pos') X.env v = (do
      let ov ← holding [v] (eval o X.env)
      let iv ← holding [v, ov] (eval i X.env)
      standAt pos'
      holding [v, ov, iv] (setItem ov iv v)
      release [v, ov, iv] []) := by intro _; rfl) (hs : swapsWithSole [.Subscript o i pos'] e pos.line X.env = pure false := by rfl) (hw : swappedStores [.Subscript o i pos'] e X.env = pure none := by rfl)
    (h1 : (assignEach [.Subscript o i pos'] X.env).map (·.2) = [assign (.Subscript o i pos') X.env] := by rfl) :
    PSM X W (.Assign [.Subscript o i pos'] e pos) (sPut dPutL mo mi mv) :=
  ⟨PSimp (ps_asg hv.pe (pg_sub ho.pe hi.pe set_list ha) hs hw h1) fun E σ H ⟨ρ, sg, h, hst, rh, w⟩ => TM.goS hst rh w fun ρ1 H1 h1 v d le rh1 rv w1 => TM.goS (hst.mono le) rh1 w1 fun ρ2 H2 h2 x dx le2 rh2 rx w2 => TM.goS ((hst.mono le).mono le2) rh2 w2 fun ρ3 H3 h3 k dk le3 rh3 rk w3 => by
    unfold dPutL at w3
    split at w3
    · rename_i n z
      split at w3
      · rename_i xs e0
        cases ej : ixN xs.length z with
        | none => rw [ej] at w3; exact w3.elim
        | some j =>
          rw [ej] at w3
          cases rk
          have rx3 := rx.mono le3
          cases rx3 with
          | ref r =>
            cases rh3.at r e0 with
            | lst hl q =>
              rename_i vs
              have le4 : Le X.K ρ3 H3 ρ3 (upd H3 _ (.lst (vs.set j v))) := Le.write hl trivial
              exact ⟨_, _, _, _, rfl, rfl, hl, by rw [q.length]; exact ej, w3.nxI le4 (rh3.write r e0 rfl rfl hl trivial (.lst upd_same ((q.set _ (rv.mono (le2.trans le3))).mono le4))) (((hst.mono le).mono le2).mono (le3.trans le4))⟩
      · exact w3.elim
    · exact w3.elim⟩
theorem any_keys {κ : Type} [DecidableEq κ] {k : κ} : ∀ {kvs : List (κ × V)} {kds : List (κ × D)}, kvs.map (·.1) = kds.map (·.1) → (kvs.any fun kv => decide (kv.1 = k)) = kds.any fun kv => decide (kv.1 = k)
  | [], [], _ => rfl
  | [], _ :: _, e => by cases e
  | _ :: _, [], e => by cases e
  | p :: kvs, q :: kds, e => by
    have e1 : p.1 = q.1 := (List.cons.inj e).1
    rw [List.any_cons, List.any_cons, any_keys (List.cons.inj e).2, e1]
theorem put_of {κ : Type} [DecidableEq κ] {K mg ρ H} {k : κ} {v : V} {d : D} (rv : RV K mg ρ H v d) {kvs : List (κ × V)} {kds : List (κ × D)} (e : kvs.map (·.1) = kds.map (·.1)) (r : RVs K mg ρ H (kvs.map (·.2)) (kds.map (·.2))) :
    (putK kvs k v).map (·.1) = (putD kds k d).map (·.1) ∧ RVs K mg ρ H ((putK kvs k v).map (·.2)) ((putD kds k d).map (·.2)) := by
  have ha := any_keys (k := k) e
  unfold putK putD
  rw [ha]
  split
  · clear ha
    rename_i hany
    clear hany
    induction kvs generalizing kds with
    | nil => cases kds with
      | nil => exact ⟨rfl, .nil⟩
      | cons _ _ => cases e
    | cons p kvs ih => cases kds with
      | nil => cases e
      | cons q kds =>
        have e1 : p.1 = q.1 := (List.cons.inj e).1
        cases r with
        | cons r1 t =>
          obtain ⟨i1, i2⟩ := ih (List.cons.inj e).2 t
          by_cases hq : q.1 = k
          · refine ⟨?_, ?_⟩
            · simp only [List.map_cons, e1, hq, if_true]; rw [i1]
            · simp only [List.map_cons, e1, hq, if_true]; exact .cons rv i2
          · refine ⟨?_, ?_⟩
            · simp only [List.map_cons, e1, hq, if_false]; rw [i1]
            · simp only [List.map_cons, e1, hq, if_false]; exact .cons r1 i2
  · refine ⟨?_, ?_⟩
    · rw [List.map_append, List.map_append, e]; rfl
    · rw [List.map_append, List.map_append]
      exact r.append (.cons rv .nil)
theorem same_len {κ : Type} {kvs : List (κ × V)} {kds : List (κ × D)} (e : kvs.map (·.1) = kds.map (·.1)) : kvs.length = kds.length := by
  have := congrArg List.length e
  simpa using this
theorem s_putD (hu : X.A.units + 1 < cLine) (ho : PM X W o mo) (hi : PM X W i mi) (hv : PM X W e mv) (hs : swapsWith e (some (.Subscript o i pos')) pos.line X.env = pure false := by rfl) :
    PSM X W (.Assign [.Subscript o i pos'] e pos) (sPut dPutD mo mi mv) :=
  ⟨PSimp (ps_dput hu ho.pe hi.pe hv.pe hs) fun E σ H ⟨ρ, sg, h, hst, rh, w⟩ => TM.goS hst rh w fun ρ1 H1 h1 v d le rh1 rv w1 => TM.goS (hst.mono le) rh1 w1 fun ρ2 H2 h2 x dx le2 rh2 rx w2 => TM.goS ((hst.mono le).mono le2) rh2 w2 fun ρ3 H3 h3 k dk le3 rh3 rk w3 => by
    unfold dPutD at w3
    split at w3
    · rename_i n
      split at w3
      · rename_i ob e0
        cases es : storeD ob dk d with
        | none => rw [es] at w3; exact w3.elim
        | some u =>
          rw [es] at w3
          have rx3 := rx.mono le3
          cases rx3 with
          | ref r =>
            have ro := rh3.at r e0
            unfold storeD at es
            split at es
            · split at es
              · rename_i kds _ _ _ key ek
                split at es
                · rename_i hz
                  cases es
                  cases ro with
                  | @dk kvs _ hl ke q =>
                    have le4 : Le X.K ρ3 H3 ρ3 (upd H3 _ (.dK (putK kvs key v))) := Le.write hl trivial
                    obtain ⟨p1, p2⟩ := put_of (k := key) (rv.mono (le2.trans le3)) ke q
                    refine ⟨_, _, rfl, ?_, w3.nxI le4 (rh3.write r e0 rfl rfl hl trivial (.dk upd_same p1 (p2.mono le4))) (((hst.mono le).mono le2).mono (le3.trans le4))⟩
                    rw [key_of rk ek]
                    exact DPut.k hl (by rw [same_len ke]; exact hz)
                · cases es
              · cases es
            · split at es
              · rename_i kds _ _ _ key ek
                split at es
                · rename_i hz
                  cases es
                  cases ro with
                  | @dt kvs _ hl ke q =>
                    have le4 : Le X.K ρ3 H3 ρ3 (upd H3 _ (.dT (putK kvs key v))) := Le.write hl trivial
                    obtain ⟨p1, p2⟩ := put_of (k := key) (rv.mono (le2.trans le3)) ke q
                    obtain ⟨b, e2, e3⟩ := keyT_of rk ek
                    refine ⟨_, _, rfl, ?_, w3.nxI le4 (rh3.write r e0 rfl rfl hl trivial (.dt upd_same p1 (p2.mono le4))) (((hst.mono le).mono le2).mono (le3.trans le4))⟩
                    rw [e2]
                    exact DPut.t hl e3 (by rw [same_len ke]; exact hz)
                · cases es
              · cases es
            · cases es
      · exact w3.elim
    · exact w3.elim⟩
/-! d[k], k in d, {} -/
theorem q_dget {a b : Expr} {ma mb : Sg → Mh → R D} (hu : X.A.units + 1 < cLine) (ha : PM X W a ma) (hb : PM X W b mb) (hs : NoSl b := by intro _ _; rfl) : PM X W (.Subscript a b pos) (m2 dGet ma mb) :=
  ⟨PEimp (pe_dget hu ha.pe hb.pe hs) fun σ H Q ⟨ρ, sg, h, hst, rh, w⟩ => TM.go hst rh w fun ρ1 H1 h1 v d le rh1 rv w1 => TM.go (hst.mono le) rh1 w1 fun ρ2 H2 h2 v2 d2 le2 rh2 rv2 w2 => by
    unfold dGet at w2
    split at w2
    · split at w2
      · rename_i ob e0
        split at w2
        · rename_i d' ed
          have r := rv.mono le2
          cases r with
          | ref r =>
            obtain ⟨r', g, z⟩ := look_of (rh2.at r e0) rv2 ed
            obtain ⟨v', hv, rz⟩ := rk_some z
            subst hv
            exact ⟨_, v', rfl, g, w2.okI Le.refl rh2 rz⟩
        · exact w2.elim
      · exact w2.elim
    · exact w2.elim⟩
def dDIn (neg : Bool) (k x : D) (h : Mh) : R D := match x with
  | .ref n => match h[n]? with
    | some o => match lookD o k with
      | some r => .ok (.bl (if neg then !r.isSome else r.isSome)) h
      | none => .bad
    | none => .bad
  | _ => .bad
theorem dDIn_of {neg : Bool} {σ : L2.St} {ρ : Ren} {H : Hp} {h : Mh} {Q : VK} {v1 v2 : V} {d1 d2 : D} (rh : RHp X.K X.mg ρ H h) (r1 : RV X.K X.mg ρ H v1 d1) (r2 : RV X.K X.mg ρ H v2 d2) (w : WV X.K X.mg W σ Q ρ H (dDIn neg d1 d2 h)) :
    ∃ a o, v2 = .ref a ∧ DGet H a v1 o ∧ Q (.bl (if neg then !o.isSome else o.isSome)) H := by
  unfold dDIn at w
  split at w
  · split at w
    · rename_i ob e0
      split at w
      · rename_i r ed
        cases r2 with
        | ref r2 =>
          obtain ⟨r', g, z⟩ := look_of (rh.at r2 e0) r1 ed
          refine ⟨_, r', rfl, g, ?_⟩
          rw [rk_isSome z]
          exact w.okI Le.refl rh (.bl _)
      · exact w.elim
    · exact w.elim
  · exact w.elim
theorem q_din {a b : Expr} {ma mb : Sg → Mh → R D} (hu : X.A.units + 1 < cLine) (ha : PM X W a ma) (hb : PM X W b mb) (h1 : behindInMarks .In b = false := by with_unfolding_all rfl) : PM X W (.Compare a [.In] [b] pos) (m2 (dDIn false) ma mb) :=
  ⟨PEimp (pe_cmp (pc_din hu ha.pe hb.pe) h1) fun σ H Q ⟨ρ, sg, h, hst, rh, w⟩ => TM.go hst rh w fun ρ1 H1 h1 v d le rh1 rv w1 => TM.go (hst.mono le) rh1 w1 fun ρ2 H2 h2 v2 d2 le2 rh2 rv2 w2 => dDIn_of rh2 (rv.mono le2) rv2 w2⟩
theorem q_dnotin {a b : Expr} {ma mb : Sg → Mh → R D} (hu : X.A.units + 1 < cLine) (ha : PM X W a ma) (hb : PM X W b mb) (h1 : behindInMarks .NotIn b = false := by with_unfolding_all rfl) : PM X W (.Compare a [.NotIn] [b] pos) (m2 (dDIn true) ma mb) :=
  ⟨PEimp (pe_cmp (pc_dnotin hu ha.pe hb.pe) h1) fun σ H Q ⟨ρ, sg, h, hst, rh, w⟩ => TM.go hst rh w fun ρ1 H1 h1 v d le rh1 rv w1 => TM.go (hst.mono le) rh1 w1 fun ρ2 H2 h2 v2 d2 le2 rh2 rv2 w2 => dDIn_of rh2 (rv.mono le2) rv2 w2⟩
theorem tB_of {m : Sg → Mh → R D} {t : TE} (j : ∀ σ H Q, TM X.K X.mg W m σ H Q → t σ H Q) {σ : L2.St} {H : Hp} {Q : Bool → Hp → Prop} (w : TMb X.K X.mg W (mTest m) σ H Q) : tB t σ H Q := tTest_of j w
theorem t_din {a b : Expr} {ma mb : Sg → Mh → R D} (hu : X.A.units + 1 < cLine) (ha : PM X W a ma) (hb : PM X W b mb) (h1 : behindInMarks .In b = false := by with_unfolding_all rfl) : PB X W (.Compare a [.In] [b] pos) (mTest (m2 (dDIn false) ma mb)) :=
  ⟨PTimp (pt_cmp (pc_din hu ha.pe hb.pe) h1) fun σ H Q w => tB_of (fun σ H Q ⟨ρ, sg, h, hst, rh, w⟩ => TM.go hst rh w fun ρ1 H1 h1 v d le rh1 rv w1 => TM.go (hst.mono le) rh1 w1 fun ρ2 H2 h2 v2 d2 le2 rh2 rv2 w2 => dDIn_of rh2 (rv.mono le2) rv2 w2) w⟩
theorem t_dnotin {a b : Expr} {ma mb : Sg → Mh → R D} (hu : X.A.units + 1 < cLine) (ha : PM X W a ma) (hb : PM X W b mb) (h1 : behindInMarks .NotIn b = false := by with_unfolding_all rfl) : PB X W (.Compare a [.NotIn] [b] pos) (mTest (m2 (dDIn true) ma mb)) :=
  ⟨PTimp (pt_cmp (pc_dnotin hu ha.pe hb.pe) h1) fun σ H Q w => tB_of (fun σ H Q ⟨ρ, sg, h, hst, rh, w⟩ => TM.go hst rh w fun ρ1 H1 h1 v d le rh1 rv w1 => TM.go (hst.mono le) rh1 w1 fun ρ2 H2 h2 v2 d2 le2 rh2 rv2 w2 => dDIn_of rh2 (rv.mono le2) rv2 w2) w⟩
def mDNew : Sg → Mh → R D := fun _ h => .ok (.ref h.length) (h ++ [.dk []])
def mDNewT : Sg → Mh → R D := fun _ h => .ok (.ref h.length) (h ++ [.dt []])
theorem q_dnewT : PM X W (.Dict [] [] pos) mDNewT := ⟨PEimp pe_dnewT fun σ H Q ⟨ρ, sg, h, hst, rh, w⟩ => fun p hp => w.alloc rh hp (.dt upd_same rfl .nil)⟩
theorem q_dnew : PM X W (.Dict [] [] pos) mDNew := ⟨PEimp pe_dnewK fun σ H Q ⟨ρ, sg, h, hst, rh, w⟩ => fun p hp => w.alloc rh hp (.dk upd_same rfl .nil)⟩
end
end Mo

namespace Mo
open PySem PySem.Spec PyProof.Rows L2
section
variable {X : Cx} {W : WX}
/-! ### built-ins -/
def dLen (ds : List D) (h : Mh) : R D := match ds with
  | [.str z] => if z.length ≤ sizeLine then .ok (.int (z.length : Nat)) h else .bad
  | [.tup xs] => .ok (.int (xs.length : Nat)) h
  | [.kt xs] => .ok (.int (xs.length : Nat)) h
  | [.ref n] => match h[n]? with
    | some (.lst xs) => .ok (.int (xs.length : Nat)) h
    | some (.fls xs) => .ok (.int (xs.length : Nat)) h
    | some (.dk kvs) => .ok (.int (kvs.length : Nat)) h
    | some (.dt kvs) => .ok (.int (kvs.length : Nat)) h
    | _ => .bad
  | _ => .bad
def rLen2 (K : PySem.W.Frag) : List V → Hp → VK → Prop := fun xs H Q => ((∃ x n, xs = [x] ∧ LenV K x H n ∧ Q (.int n) H) ∨ ∃ a kvs, xs = [V.ref a] ∧ H a = some (.dK kvs) ∧ Q (.int kvs.length) H) ∨ rLenT xs H Q
theorem call_len2 : CallR X (.builtin "len") (rLen2 X.K) := CallRor (CallRor call_len call_lenD) call_len_dT
theorem sem_len : SemL X (rLen2 X.K) dLen := by
  intro W σ ρ H h Q vs ds rh rvs w
  unfold dLen at w
  split at w
  · split at w
    · rename_i hz
      cases rvs with
      | cons r t =>
        cases t; cases r
        exact .inl <| .inl ⟨_, _, rfl, ⟨hz, rfl⟩, w.okI Le.refl rh (.int _)⟩
    · exact w.elim
  · cases rvs with
    | cons r t =>
      cases t
      cases r with
      | tup t q => exact .inl <| .inl ⟨_, _, rfl, .inr ⟨_, SqT.of t, q.length.symm⟩, w.okI Le.refl rh (.int _)⟩
  · cases rvs with
    | cons r t =>
      cases t
      cases r with
      | kt t q => exact .inl <| .inl ⟨_, _, rfl, .inr ⟨_, t, q.length.symm⟩, w.okI Le.refl rh (.int _)⟩
  · cases rvs with
    | cons r t =>
      cases t
      cases r with
      | ref r =>
        split at w
        · rename_i e0
          cases rh.at r e0 with
          | lst h1 q => exact .inl <| .inl ⟨_, _, rfl, .inl ⟨_, SqL.of h1, q.length.symm⟩, w.okI Le.refl rh (.int _)⟩
        · rename_i e0
          cases rh.at r e0 with
          | fls h1 q => exact .inl <| .inl ⟨_, _, rfl, .inl ⟨_, h1.sq, q.length.symm⟩, w.okI Le.refl rh (.int _)⟩
        · rename_i e0
          cases rh.at r e0 with
          | dk h1 ke q =>
            refine .inl <| .inr ⟨_, _, rfl, h1, ?_⟩
            rw [same_len ke]
            exact w.okI Le.refl rh (.int _)
        · rename_i e0
          cases rh.at r e0 with
          | dt h1 ke q =>
            refine .inr ⟨_, _, rfl, h1, ?_⟩
            rw [same_len ke]
            exact w.okI Le.refl rh (.int _)
        · exact w.elim
  · exact w.elim
def dInt (ds : List D) (h : Mh) : R D := match ds with
  | [.int i] => .ok (.int i) h
  | [.bl b] => .ok (.int (if b = true then 1 else 0)) h
  | [.str z] => match PySem.intText? z with
    | some n => if z.length ≤ 640 then .ok (.int n) h else .bad
    | none => .bad
  | _ => .bad
def rInt : List V → Hp → VK → Prop := fun xs H Q => ((∃ i, xs = [V.int i] ∧ Q (V.int i) H) ∨ ∃ k, xs = [V.bl k] ∧ Q (V.int (if k = true then 1 else 0)) H) ∨ ∃ a n, xs = [.str a] ∧ PySem.intText? a = some n ∧ a.length ≤ 640 ∧ Q (.int n) H
theorem call_int2 : CallR X (.type "int") rInt := CallRor call_int1 call_int_str
theorem sem_int : SemL X rInt dInt := by
  intro W σ ρ H h Q vs ds rh rvs w
  unfold dInt at w
  split at w
  · cases rvs with
    | cons r t => cases t; cases r; exact .inl (.inl ⟨_, rfl, w.okI Le.refl rh (.int _)⟩)
  · cases rvs with
    | cons r t => cases t; cases r; exact .inl (.inr ⟨_, rfl, w.okI Le.refl rh (.int _)⟩)
  · split at w
    · split at w
      · cases rvs with
        | cons r t => cases t; cases r; exact .inr ⟨_, _, rfl, by assumption, by assumption, w.okI Le.refl rh (.int _)⟩
      · exact w.elim
    · exact w.elim
  · exact w.elim
def dStr (ds : List D) (h : Mh) : R D := match ds with
  | [.int i] => if i.natAbs.log2 < 1920 then .ok (.str (Str.ofString (toString i))) h else .bad
  | [.str z] => .ok (.str z) h
  | _ => .bad
def rStr : List V → Hp → VK → Prop := fun xs H Q => (∃ i, xs = [V.int i] ∧ Nat.log2 (Int.natAbs i) < 1920 ∧ Q (V.str (Str.ofString (toString i))) H) ∨ ∃ a, xs = [.str a] ∧ Q (.str a) H
theorem call_str2 : CallR X (.type "str") rStr := CallRor call_str_int SkE.call_str_str
theorem sem_str : SemL X rStr dStr := by
  intro W σ ρ H h Q vs ds rh rvs w
  unfold dStr at w
  split at w
  · split at w
    · cases rvs with
      | cons r t => cases t; cases r; exact .inl ⟨_, rfl, by assumption, w.okI Le.refl rh (.str _)⟩
    · exact w.elim
  · cases rvs with
    | cons r t => cases t; cases r; exact .inr ⟨_, rfl, w.okI Le.refl rh (.str _)⟩
  · exact w.elim
/-- isinstance, built-in types -/
def tyD (d : D) (h : Mh) : Option String := match d with
  | .non => some "NoneType"
  | .bl _ => some "bool"
  | .int _ => some "int"
  | .str _ => some "str"
  | .tup _ => some "tuple"
  | .kt _ => some "tuple"
  | .ref n => match h[n]? with
    | some (.lst _) => some "list"
    | some (.fls _) => some "list"
    | some (.dk _) => some "dict"
    | _ => none
  | _ => none
theorem tyD_of {K mg ρ H h} {v : V} {d : D} {t : String} (rh : RHp K mg ρ H h) (r : RV K mg ρ H v d) (e : tyD d h = some t) : TyX K H v (.type t) := by
  have kT : ∀ {a : Addr} {vs : List V}, SqT K H a vs → TyX K H (.ref a) (.type "tuple") := fun {a vs} t => by
    rcases t with (t | ⟨o, t⟩) | ⟨o, its, n, t, c, _⟩
    · exact .base (.tup t)
    · exact .fTuple t
    · exact .kTuple t c
  cases r with
  | non => cases e; exact .base .non
  | bl b => cases e; exact .base (.bl b)
  | int b => cases e; exact .base (.int b)
  | str b => cases e; exact .base (.str b)
  | ty b => cases e
  | glo b => cases e
  | tup t q => cases e; exact kT (SqT.of t)
  | kt t q => cases e; exact kT t
  | ref r =>
    simp only [tyD] at e
    split at e
    · rename_i e0
      cases e
      cases rh.at r e0 with
      | lst h1 _ => exact .base (.lst h1)
    · rename_i e0
      cases e
      cases rh.at r e0 with
      | fls h1 _ =>
        rcases h1 with ⟨o, h1⟩ | ⟨o, its, n, h1, c, _⟩
        · exact .base (.frz h1)
        · exact .kList h1 c
    · rename_i e0
      cases e
      cases rh.at r e0 with
      | dk h1 _ _ => exact .base (.dK h1)
    · cases e
def isiB (t T : String) : Bool := t == T || (t == "bool" && T == "int")
def knT (t : String) : Bool := t == "NoneType" || t == "bool" || t == "int" || t == "str" || t == "tuple" || t == "list" || t == "dict"
theorem knT_of {t : String} (h : knT t = true) : t = "NoneType" ∨ t = "bool" ∨ t = "int" ∨ t = "str" ∨ t = "tuple" ∨ t = "list" ∨ t = "dict" := by
  unfold knT at h
  simp only [Bool.or_eq_true, beq_iff_eq] at h
  rcases h with (((((h | h) | h) | h) | h) | h) | h <;> simp [h]
theorem kit_all : ∀ t ∈ ["NoneType", "bool", "int", "str", "tuple", "list", "dict"], ∀ T ∈ ["NoneType", "bool", "int", "str", "tuple", "list", "dict"], kitB t T = some (isiB t T) := by decide +kernel
theorem kit_kn {K : PySem.W.Frag} {t T : String} (h : knT t = true) (h' : knT T = true) : PySem.W.kitOne K (.type t) (.type T) = some (isiB t T) := kit_ty (kit_all t (by rcases knT_of h with h | h | h | h | h | h | h <;> simp [h]) T (by rcases knT_of h' with h | h | h | h | h | h | h <;> simp [h]))
theorem tyD_kn {d : D} {h : Mh} {t : String} (e : tyD d h = some t) : knT t = true := by
  unfold tyD at e
  split at e <;> first
    | (cases e; done)
    | (cases e; rfl)
    | (split at e <;> first | (cases e; rfl) | cases e)
def dIsi1 (ds : List D) (h : Mh) : R D := match ds with
  | [x, .ty T] => match tyD x h with
    | some t => if knT T = true then .ok (.bl (isiB t T)) h else .bad
    | none => .bad
  | _ => .bad
theorem sem_isi1 : SemL X (rIsi X.K) dIsi1 := by
  intro W σ ρ H h Q vs ds rh rvs w
  unfold dIsi1 at w
  split at w
  · split at w
    · rename_i t e
      split at w
      · rename_i hk
        cases rvs with
        | cons r tl => cases tl with
          | cons r2 tl =>
            cases tl; cases r2
            exact ⟨_, _, _, _, _, rfl, .ty _, tyD_of rh r e, kit_kn (tyD_kn e) hk, w.okI Le.refl rh (.bl _)⟩
      · exact w.elim
    · exact w.elim
  · exact w.elim
def dIsi2 (T U : String) (x : D) (h : Mh) : R D := match tyD x h with
  | some t => .ok (.bl (isiB t T || isiB t U)) h
  | none => .bad
/-- list(..) -/
def dList (ds : List D) (h : Mh) : R D := match ds with
  | [.tup xs] => .ok (.ref h.length) (h ++ [.lst xs])
  | [.ref n] => match lstOf h n with
    | some xs => .ok (.ref h.length) (h ++ [.lst xs])
    | none => .bad
  | _ => .bad
theorem sem_list : SemL X (fun xs H Q => ∃ p ys, xs = [V.ref p] ∧ (SqL X.K H p ys ∨ SqT X.K H p ys) ∧ ∀ (l : Addr), H l = none → Q (V.ref l) (upd H l (HO.lst ys))) dList := by
  intro W σ ρ H h Q vs ds rh rvs w
  unfold dList at w
  split at w
  · cases rvs with
    | cons r t =>
      cases t
      cases r with
      | tup t q => exact ⟨_, _, rfl, .inr (SqT.of t), fun p hp => w.alloc rh hp (RO.newList hp q)⟩
  · split at w
    · rename_i e0
      cases rvs with
      | cons r t =>
        cases t
        cases r with
        | ref r =>
          obtain ⟨vs, s1, q⟩ := (lstOf_at e0).sq rh r
          exact ⟨_, _, rfl, .inl s1, fun p hp => w.alloc rh hp (RO.newList hp q)⟩
    · exact w.elim
  · exact w.elim
/-- all(..), any(..) of a list of bools -/
def boolsOf : List D → Option (List Bool)
  | [] => some []
  | .bl b :: r => (boolsOf r).map (b :: ·)
  | _ :: _ => none
theorem boolsOf_eq : ∀ {ds : List D} {bs : List Bool}, boolsOf ds = some bs → ds = bs.map D.bl
  | [], bs, e => by cases e; rfl
  | .bl b :: r, bs, e => by
    unfold boolsOf at e
    obtain ⟨cs, e1, e2⟩ := Option.map_eq_some_iff.mp e
    subst e2
    rw [boolsOf_eq e1]; rfl
  | .non :: _, _, e => by cases e
  | .int _ :: _, _, e => by cases e
  | .str _ :: _, _, e => by cases e
  | .tup _ :: _, _, e => by cases e
  | .kt _ :: _, _, e => by cases e
  | .ref _ :: _, _, e => by cases e
  | .ty _ :: _, _, e => by cases e
  | .glo _ :: _, _, e => by cases e
def dAll (f : List Bool → Bool) (ds : List D) (h : Mh) : R D := match ds with
  | [.ref n] => match lstOf h n with
    | some xs => match boolsOf xs with
      | some bs => .ok (.bl (f bs)) h
      | none => .bad
    | none => .bad
  | _ => .bad
theorem sem_all : SemL X (rAll X.K) (dAll fun bs => bs.all id) := by
  intro W σ ρ H h Q vs ds rh rvs w
  unfold dAll at w
  split at w
  · split at w
    · rename_i e0
      split at w
      · rename_i bs eb
        cases rvs with
        | cons r t =>
          cases t
          cases r with
          | ref r =>
            obtain ⟨vs, s1, q⟩ := (lstOf_at e0).sq rh r
            rw [boolsOf_eq eb] at q
            rw [q.bools] at s1
            exact ⟨_, bs, rfl, s1, w.okI Le.refl rh (.bl _)⟩
      · exact w.elim
    · exact w.elim
  · exact w.elim
theorem sem_any : SemL X (rAny X.K) (dAll fun bs => bs.any id) := by
  intro W σ ρ H h Q vs ds rh rvs w
  unfold dAll at w
  split at w
  · split at w
    · rename_i e0
      split at w
      · rename_i bs eb
        cases rvs with
        | cons r t =>
          cases t
          cases r with
          | ref r =>
            obtain ⟨vs, s1, q⟩ := (lstOf_at e0).sq rh r
            rw [boolsOf_eq eb] at q
            rw [q.bools] at s1
            exact ⟨_, bs, rfl, s1, w.okI Le.refl rh (.bl _)⟩
      · exact w.elim
    · exact w.elim
  · exact w.elim
section
variable {p pos : Pos} {e : Expr} {es : List Expr} {ml : Sg → Mh → R (List D)} {a b c : Expr} {ma mb : Sg → Mh → R D}
theorem q_len (hm : X.mg "len" = none) (ha : PL X W [e] ml) (hg : Gl X "len" := by rfl) (he : starEach [e] X.env = (false, eval e X.env) :: starEach [] X.env := by rfl) : PM X W (.Call (.Name "len" p) [e] [] pos) (mBi dLen ml) := q_bi call_len2 sem_len hm ha PySem.boot_len hg (by decide) (by decide) he rfl
theorem q_intc (hm : X.mg "int" = none) (ha : PL X W [e] ml) (hg : Gl X "int" := by rfl) (he : starEach [e] X.env = (false, eval e X.env) :: starEach [] X.env := by rfl) : PM X W (.Call (.Name "int" p) [e] [] pos) (mBi dInt ml) := q_ty call_int2 sem_int hm ha (by decide +kernel) hg (by decide) (by decide) he rfl
theorem q_strc (hm : X.mg "str" = none) (ha : PL X W [e] ml) (hg : Gl X "str" := by rfl) (he : starEach [e] X.env = (false, eval e X.env) :: starEach [] X.env := by rfl) : PM X W (.Call (.Name "str" p) [e] [] pos) (mBi dStr ml) := q_ty call_str2 sem_str hm ha (by decide +kernel) hg (by decide) (by decide) he rfl
theorem q_listc (hm : X.mg "list" = none) (ha : PL X W [e] ml) (hg : Gl X "list" := by rfl) (he : starEach [e] X.env = (false, eval e X.env) :: starEach [] X.env := by rfl) : PM X W (.Call (.Name "list" p) [e] [] pos) (mBi dList ml) := q_ty call_list_of sem_list hm ha (by decide +kernel) hg (by decide) (by decide) he rfl
theorem q_all (hc : X.calm = true) (hm : X.mg "all" = none) (ha : PL X W [e] ml) (hg : Gl X "all" := by rfl) (he : starEach [e] X.env = (false, eval e X.env) :: starEach [] X.env := by rfl) : PM X W (.Call (.Name "all" p) [e] [] pos) (mBi (dAll fun bs => bs.all id) ml) := q_bi (cr_all hc) sem_all hm ha (by decide +kernel) hg (by decide) (by decide) he rfl
/-- isinstance(e, T) -/
theorem q_tyname {n : Str} {T : String} (hm : X.mg n = none) (hv : bootBuiltins n = some (.type T)) (hg : Gl X n := by rfl) (hn : n ≠ "__name__" := by decide) (hd : (n == ("__debug__" : Str)) = false := by decide) : PM X W (.Name n pos) (mLit (.ty T)) := q_lit (pe_bltn (v := .ty T) hg hm hv rfl hn hd) fun _ _ => .ty T
theorem q_isi {n : Str} {T : String} {p2 : Pos} (hm : X.mg "isinstance" = none) (ha : PM X W a ma) (hmn : X.mg n = none) (hv : bootBuiltins n = some (.type T)) (hk : knT T = true := by decide) (hg : Gl X "isinstance" := by rfl) (hgn : Gl X n := by rfl) (hn : n ≠ "__name__" := by decide) (hd : (n == ("__debug__" : Str)) = false := by decide)
    (he : starEach [a, .Name n p2] X.env = (false, eval a X.env) :: starEach [.Name n p2] X.env := by rfl) (he2 : starEach [.Name n p2] X.env = (false, eval (.Name n p2) X.env) :: starEach [] X.env := by rfl) (hpl : (backTo pos (starEach [.Name n p2] X.env)).any (·.1) = false := by rfl) :
    PM X W (.Call (.Name "isinstance" p) [a, .Name n p2] [] pos) (mBi dIsi1 (mCons ma (mCons (mLit (.ty T)) mNil))) := q_bi call_isi sem_isi1 hm (l_cons ha (l_cons (q_tyname hmn hv hgn hn hd) l_nil he2) he) (by decide +kernel) hg (by decide) (by decide) he hpl
theorem q_isi2 {n n' : Str} {T T' : String} {p2 p3 p4 : Pos} {k : Nat} (hm : X.mg "isinstance" = none) (ha : PM X W a ma) (hmn : X.mg n = none) (hv : bootBuiltins n = some (.type T)) (hmn' : X.mg n' = none) (hv' : bootBuiltins n' = some (.type T')) (hk : knT T = true := by decide) (hk' : knT T' = true := by decide)
    (hg : Gl X "isinstance" := by rfl) (hgn : Gl X n := by rfl) (hgn' : Gl X n' := by rfl) (hn : n ≠ "__name__" := by decide) (hd : (n == ("__debug__" : Str)) = false := by decide) (hn' : n' ≠ "__name__" := by decide) (hd' : (n' == ("__debug__" : Str)) = false := by decide)
    (he : starEach [a, .Tuple [.Name n p2, .Name n' p3] k p4] X.env = (false, eval a X.env) :: starEach [.Tuple [.Name n p2, .Name n' p3] k p4] X.env := by rfl) (he2 : starEach [.Tuple [.Name n p2, .Name n' p3] k p4] X.env = (false, eval (.Tuple [.Name n p2, .Name n' p3] k p4) X.env) :: starEach [] X.env := by rfl)
    (he3 : starEach [.Name n p2, .Name n' p3] X.env = (false, eval (.Name n p2) X.env) :: starEach [.Name n' p3] X.env := by rfl) (he4 : starEach [.Name n' p3] X.env = (false, eval (.Name n' p3) X.env) :: starEach [] X.env := by rfl)
    (hpl : (backTo pos (starEach [.Tuple [.Name n p2, .Name n' p3] k p4] X.env)).any (·.1) = false := by rfl) : PM X W (.Call (.Name "isinstance" p) [a, .Tuple [.Name n p2, .Name n' p3] k p4] [] pos) (m1 (dIsi2 T T') ma) :=
  ⟨PEimp (pe_callB call_isiT hg hm (by decide +kernel) (pa_cons ha.pe (pa_cons (pe_tup (pa_cons (pe_bltn (v := .ty T) hgn hmn hv rfl hn hd) (pa_cons (pe_bltn (v := .ty T') hgn' hmn' hv' rfl hn' hd') pa_nil he4) he3)) pa_nil he2) he) (by decide) (by decide) he hpl) fun σ H Q ⟨ρ, sg, h, hs, rh, w⟩ =>
    TM.go hs rh w fun ρ1 H1 h1 v d le rh1 rv w1 => by
      unfold dIsi2 at w1
      split at w1
      · rename_i t e
        refine ⟨(by show 2 ≤ sizeLine; decide), fun p hp => ?_⟩
        have le2 : Le X.K ρ1 H1 ρ1 (upd H1 p (.tup [.ty T, .ty T'])) := Le.new hp
        refine ⟨_, _, _, _, _, _, rfl, upd_same, .cons (.ty T) (.cons (.ty T') .nil), tyD_of (rh1.made hp) (rv.mono le2) e, ?_, w1.okI le2 (rh1.made hp) (.bl _)⟩
        refine kitAny_cons (kit_kn (tyD_kn e) hk) (fun e1 => ?_) (fun e1 => by rw [e1]; rfl)
        rw [e1, Bool.false_or]
        exact kitAny_cons (kit_kn (tyD_kn e) hk') (fun e2 => by rw [e2]; exact kitAny_nil) (fun e2 => e2)
      · exact w1.elim⟩
end
end
end Mo

namespace Mo
open PySem PySem.Spec PyProof.Rows L2
section
variable {X : Cx} {W : WX} {o e : Expr} {es : List Expr} {mo ma : Sg → Mh → R D} {ml : Sg → Mh → R (List D)} {apos pos : Pos}
/-! ### methods of built-in types -/
def isTy (T : String) (d : D) (h : Mh) : Bool := match d with
  | .str _ => T == "str"
  | .ref n => match h[n]? with
    | some (.lst _) => T == "list"
    | some (.fls _) => T == "list"
    | some (.dk _) => T == "dict"
    | _ => false
  | _ => false
theorem isTy_of {K mg ρ H h} {T : String} {v : V} {d : D} (rh : RHp K mg ρ H h) (r : RV K mg ρ H v d) (e : isTy T d h = true) : tyV K T v H := by
  unfold isTy at e
  split at e
  · cases r; exact (by simpa using e : T = "str")
  · cases r with
    | ref r =>
      split at e
      · rename_i e0
        cases rh.at r e0 with
        | lst h1 _ => exact .inl ⟨by simpa using e, _, SqL.of h1⟩
      · rename_i e0
        cases rh.at r e0 with
        | fls h1 _ => exact .inl ⟨by simpa using e, _, h1.sq⟩
      · rename_i e0
        cases rh.at r e0 with
        | dk h1 _ _ => exact .inr (.inr (.inl ⟨by simpa using e, .inl ⟨_, h1⟩⟩))
      · cases e
  · cases e
def mMt (T : String) (f : D → List D → Mh → R D) (mo : Sg → Mh → R D) (ml : Sg → Mh → R (List D)) : Sg → Mh → R D := fun sg h => (mo sg h).bind fun x h1 => if isTy T x h1 = true then (ml sg h1).bind fun ds h2 => f x ds h2 else .bad
def SemMt (X : Cx) (r : V → List V → Hp → VK → Prop) (f : D → List D → Mh → R D) : Prop := ∀ (W : WX) (σ : L2.St) (ρ : Ren) (H : Hp) (h : Mh) (Q : VK) (v : V) (d : D) (vs : List V) (ds : List D), RHp X.K X.mg ρ H h → RV X.K X.mg ρ H v d → RVs X.K X.mg ρ H vs ds → WV X.K X.mg W σ Q ρ H (f d ds h) → r v vs H Q
theorem q_bm {name : Str} {T id : String} {r : V → List V → Hp → VK → Prop} {f : D → List D → Mh → R D} (pa : PlainAttrs T) (slot : Slot T name id) (hty : typeOf (.builtin id) = pure (.type "method_descriptor")) (hm : MtR X id r) (s : SemMt X r f) (ho : PM X W o mo) (ha : PL X W (e :: es) ml)
    (hbase : attributeBase o name X.env (eval o X.env) = eval o X.env := by rfl)
    (hfew : ((backTo pos (starEach (e :: es) X.env)).all (fun x => !x.1) && (backToKw pos (keywordEach [] X.env)).all (fun x => x.1.isSome)
      && decide ((e :: es).length + ([] : List Keyword).length + (if ([] : List Keyword).isEmpty then 0 else 1) < 30)) = true := by rfl)
    (hline : (apos.endLine == pos.line) = true := by rfl) (hs : starEach (e :: es) X.env = (false, eval e X.env) :: starEach es X.env := by rfl) (hplain : (backTo pos (starEach es X.env)).any (·.1) = false := by rfl) :
    PM X W (.Call (.Attribute o name apos) (e :: es) [] pos) (mMt T f mo ml) :=
  ⟨PEimp (pe_bm pa slot hty hm ho.pe ha.pa hbase hfew hline hs hplain) fun σ H Q ⟨ρ, sg, h, hst, rh, w⟩ => TM.go hst rh w fun ρ1 H1 h1 v d le rh1 rv w1 => by
    split at w1
    · rename_i hT
      exact ⟨isTy_of rh1 rv hT, TMl.go (hst.mono le) rh1 w1 fun ρ2 H2 h2 vs ds le2 rh2 rvs w2 => s W σ ρ2 H2 h2 Q v d vs ds rh2 (rv.mono le2) rvs w2⟩
    · exact w1.elim⟩
theorem q_bm0 {name : Str} {T id : String} {r : V → List V → Hp → VK → Prop} {f : D → List D → Mh → R D} (pa : PlainAttrs T) (slot : Slot T name id) (hty : typeOf (.builtin id) = pure (.type "method_descriptor")) (hm : MtR X id r) (s : SemMt X r f) (ho : PM X W o mo)
    (hbase : attributeBase o name X.env (eval o X.env) = eval o X.env := by rfl) (hline : (apos.endLine == pos.line) = true := by rfl) : PM X W (.Call (.Attribute o name apos) [] [] pos) (mMt T f mo mNil) :=
  ⟨PEimp (pe_bm0 pa slot hty hm ho.pe hbase hline) fun σ H Q ⟨ρ, sg, h, hst, rh, w⟩ => TM.go hst rh w fun ρ1 H1 h1 v d le rh1 rv w1 => by
    split at w1
    · rename_i hT
      exact ⟨isTy_of rh1 rv hT, s W σ ρ1 H1 h1 Q v d [] [] rh1 rv .nil w1⟩
    · exact w1.elim⟩
/-- a list is changed -/
theorem WG.wr {K mg W σ Q ρ H h} {n : Nat} {a : Addr} {vs ws : List V} {xs ys : List D} {d : D} {v : V} (w : WV K mg W σ Q ρ H (.ok d (h.set n (.lst ys)))) (rh : RHp K mg ρ H h) (r : ρ[n]? = some a) (e : h[n]? = some (.lst xs)) (hl : H a = some (.lst vs)) (q : RVs K mg ρ H ws ys) (rv : RV K mg ρ H v d) : Q v (upd H a (.lst ws)) :=
  have le : Le K ρ H ρ (upd H a (.lst ws)) := Le.write hl trivial
  w.okI le (rh.write r e rfl rfl hl trivial (.lst upd_same (q.mono le))) (rv.mono le)
def dAppend (x : D) (ds : List D) (h : Mh) : R D := match x, ds with
  | .ref n, [y] => match h[n]? with
    | some (.lst xs) => if xs.length < sizeLine then .ok .non (h.set n (.lst (xs ++ [y]))) else .bad
    | _ => .bad
  | _, _ => .bad
theorem sem_append : SemMt X rAppend dAppend := by
  intro W σ ρ H h Q v d vs ds rh r rvs w
  unfold dAppend at w
  split at w
  · split at w
    · rename_i xs e0
      split at w
      · rename_i hz
        cases rvs with
        | cons ry t =>
          cases t
          cases r with
          | ref r =>
            cases rh.at r e0 with
            | lst hl q => exact ⟨_, _, _, rfl, rfl, hl, by rw [q.length]; exact hz, w.wr rh r e0 hl (q.append (.cons ry .nil)) .non⟩
      · exact w.elim
    · exact w.elim
  · exact w.elim
def dReverse (x : D) (ds : List D) (h : Mh) : R D := match x, ds with
  | .ref n, [] => match h[n]? with
    | some (.lst xs) => .ok .non (h.set n (.lst xs.reverse))
    | _ => .bad
  | _, _ => .bad
theorem sem_reverse : SemMt X rReverse dReverse := by
  intro W σ ρ H h Q v d vs ds rh r rvs w
  unfold dReverse at w
  split at w
  · split at w
    · rename_i xs e0
      cases rvs
      cases r with
      | ref r =>
        cases rh.at r e0 with
        | lst hl q => exact ⟨_, _, rfl, rfl, hl, w.wr rh r e0 hl q.reverse .non⟩
    · exact w.elim
  · exact w.elim
def dPopAt (x : D) (ds : List D) (h : Mh) : R D := match x, ds with
  | .ref n, [.int i] => match h[n]? with
    | some (.lst xs) => if -(2 ^ 63) ≤ i ∧ i < 2 ^ 63 then match seqIndex? i xs.length with
      | some k => match xs[k]? with
        | some y => .ok y (h.set n (.lst (xs.eraseIdx k)))
        | none => .bad
      | none => .bad else .bad
    | _ => .bad
  | _, _ => .bad
theorem sem_popAt : SemMt X rPopAt dPopAt := by
  intro W σ ρ H h Q v d vs ds rh r rvs w
  unfold dPopAt at w
  split at w
  · split at w
    · rename_i xs e0
      split at w
      · rename_i hz
        split at w
        · rename_i k ek
          split at w
          · rename_i y ey
            cases rvs with
            | cons ry t =>
              cases t; cases ry
              cases r with
              | ref r =>
                cases rh.at r e0 with
                | lst hl q =>
                  obtain ⟨v, ev, rv⟩ := q.get ey
                  exact ⟨_, _, _, k, v, rfl, rfl, hl, hz.1, hz.2, by rw [q.length]; exact ek, ev, w.wr rh r e0 hl (q.eraseIdx k) rv⟩
          · exact w.elim
        · exact w.elim
      · exact w.elim
    · exact w.elim
  · exact w.elim
theorem RVs.dropLast {K mg ρ H} {vs : List V} {ds : List D} (r : RVs K mg ρ H vs ds) : RVs K mg ρ H vs.dropLast ds.dropLast := by
  rw [List.dropLast_eq_take, List.dropLast_eq_take, r.length]
  exact r.take _
def dPop (x : D) (ds : List D) (h : Mh) : R D := match x, ds with
  | .ref n, [] => match h[n]? with
    | some (.lst xs) => match xs[xs.length - 1]? with
      | some y => .ok y (h.set n (.lst xs.dropLast))
      | none => .bad
    | _ => .bad
  | _, _ => .bad
theorem sem_pop : SemMt X rPop dPop := by
  intro W σ ρ H h Q v d vs ds rh r rvs w
  unfold dPop at w
  split at w
  · split at w
    · rename_i xs e0
      split at w
      · rename_i y ey
        cases rvs
        cases r with
        | ref r =>
          cases rh.at r e0 with
          | lst hl q =>
            obtain ⟨v, ev, rv⟩ := q.get ey
            exact ⟨_, _, v, rfl, rfl, hl, by rw [q.length]; exact ev, w.wr rh r e0 hl q.dropLast rv⟩
      · exact w.elim
    · exact w.elim
  · exact w.elim
def strsOf : List D → Option (List Str)
  | [] => some []
  | .str b :: r => (strsOf r).map (b :: ·)
  | _ :: _ => none
theorem strsOf_eq : ∀ {ds : List D} {bs : List Str}, strsOf ds = some bs → ds = bs.map D.str
  | [], bs, e => by cases e; rfl
  | .str b :: r, bs, e => by
    unfold strsOf at e
    obtain ⟨cs, e1, e2⟩ := Option.map_eq_some_iff.mp e
    subst e2
    rw [strsOf_eq e1]; rfl
  | .non :: _, _, e => by cases e
  | .int _ :: _, _, e => by cases e
  | .bl _ :: _, _, e => by cases e
  | .tup _ :: _, _, e => by cases e
  | .kt _ :: _, _, e => by cases e
  | .ref _ :: _, _, e => by cases e
  | .ty _ :: _, _, e => by cases e
  | .glo _ :: _, _, e => by cases e
def dJoin (x : D) (ds : List D) (h : Mh) : R D := match x, ds with
  | .str a, [.ref n] => match lstOf h n with
    | some xs => match strsOf xs with
      | some ys => if (ys.map (·.length)).sum + ys.length * a.length ≤ 16777216 then .ok (.str (Txt.join a ys)) h else .bad
      | none => .bad
    | none => .bad
  | _, _ => .bad
def rJoin (K : PySem.W.Frag) : V → List V → Hp → VK → Prop := fun x xs H Q => ∃ a p, ∃ ys : List Str, x = .str a ∧ xs = [.ref p] ∧ (SqL K H p (ys.map V.str) ∨ SqT K H p (ys.map V.str)) ∧ (ys.map (·.length)).sum + ys.length * a.length ≤ 16777216 ∧ Q (.str (Txt.join a ys)) H
theorem sem_join : SemMt X (rJoin X.K) dJoin := by
  intro W σ ρ H h Q v d vs ds rh r rvs w
  unfold dJoin at w
  split at w
  · split at w
    · rename_i xs e0
      split at w
      · rename_i ys es
        split at w
        · rename_i hz
          cases r
          cases rvs with
          | cons ry t =>
            cases t
            cases ry with
            | ref ry =>
              obtain ⟨vs, s1, q⟩ := (lstOf_at e0).sq rh ry
              rw [strsOf_eq es] at q
              rw [q.strs] at s1
              exact ⟨_, _, ys, rfl, rfl, .inl s1, hz, w.okI Le.refl rh (.str _)⟩
        · exact w.elim
      · exact w.elim
    · exact w.elim
  · exact w.elim
end
section
variable {X : Cx} {W : WX} {o a : Expr} {mo ma : Sg → Mh → R D} {apos pos : Pos}
theorem q_append (ho : PM X W o mo) (ha : PM X W a ma) (hbase : attributeBase o "append" X.env (eval o X.env) = eval o X.env := by rfl) (hline : (apos.endLine == pos.line) = true := by rfl) (hs : starEach [a] X.env = (false, eval a X.env) :: starEach [] X.env := by rfl)
    (hfew : ((backTo pos (starEach [a] X.env)).all (fun x => !x.1) && (backToKw pos (keywordEach [] X.env)).all (fun x => x.1.isSome)
      && decide ([a].length + ([] : List Keyword).length + (if ([] : List Keyword).isEmpty then 0 else 1) < 30)) = true := by rfl) :
    PM X W (.Call (.Attribute o "append" apos) [a] [] pos) (mMt "list" dAppend mo (mCons ma mNil)) := q_bm PySem.F.plainAttrs_list PySem.F.slot_list_append PySem.F.type_list_append mt_append sem_append ho (l_cons ha l_nil hs) hbase hfew hline hs rfl
theorem q_popAt (ho : PM X W o mo) (ha : PM X W a ma) (hbase : attributeBase o "pop" X.env (eval o X.env) = eval o X.env := by rfl) (hline : (apos.endLine == pos.line) = true := by rfl) (hs : starEach [a] X.env = (false, eval a X.env) :: starEach [] X.env := by rfl)
    (hfew : ((backTo pos (starEach [a] X.env)).all (fun x => !x.1) && (backToKw pos (keywordEach [] X.env)).all (fun x => x.1.isSome)
      && decide ([a].length + ([] : List Keyword).length + (if ([] : List Keyword).isEmpty then 0 else 1) < 30)) = true := by rfl) :
    PM X W (.Call (.Attribute o "pop" apos) [a] [] pos) (mMt "list" dPopAt mo (mCons ma mNil)) := q_bm PySem.F.plainAttrs_list PySem.F.slot_list_pop PySem.F.type_list_pop mt_popAt sem_popAt ho (l_cons ha l_nil hs) hbase hfew hline hs rfl
theorem q_join (ho : PM X W o mo) (ha : PM X W a ma) (hbase : attributeBase o "join" X.env (eval o X.env) = eval o X.env := by rfl) (hline : (apos.endLine == pos.line) = true := by rfl) (hs : starEach [a] X.env = (false, eval a X.env) :: starEach [] X.env := by rfl)
    (hfew : ((backTo pos (starEach [a] X.env)).all (fun x => !x.1) && (backToKw pos (keywordEach [] X.env)).all (fun x => x.1.isSome)
      && decide ([a].length + ([] : List Keyword).length + (if ([] : List Keyword).isEmpty then 0 else 1) < 30)) = true := by rfl) :
    PM X W (.Call (.Attribute o "join" apos) [a] [] pos) (mMt "str" dJoin mo (mCons ma mNil)) := q_bm PySem.F.plainAttrs_str PySem.F.slot_str_join PySem.F.type_str_join mt_join sem_join ho (l_cons ha l_nil hs) hbase hfew hline hs rfl
theorem q_pop0 (ho : PM X W o mo) (hbase : attributeBase o "pop" X.env (eval o X.env) = eval o X.env := by rfl) (hline : (apos.endLine == pos.line) = true := by rfl) : PM X W (.Call (.Attribute o "pop" apos) [] [] pos) (mMt "list" dPop mo mNil) := q_bm0 PySem.F.plainAttrs_list PySem.F.slot_list_pop PySem.F.type_list_pop mt_pop sem_pop ho hbase hline
theorem q_reverse (ho : PM X W o mo) (hbase : attributeBase o "reverse" X.env (eval o X.env) = eval o X.env := by rfl) (hline : (apos.endLine == pos.line) = true := by rfl) : PM X W (.Call (.Attribute o "reverse" apos) [] [] pos) (mMt "list" dReverse mo mNil) := q_bm0 PySem.F.plainAttrs_list PySem.F.slot_list_reverse PySem.F.type_list_reverse mt_reverse sem_reverse ho hbase hline
end
end Mo

namespace Mo
open PySem PySem.Spec PyProof.Rows L2
/-! ### texts in order -/
theorem lt_irr : ∀ a : List Nat, ltCps a a = false
  | [] => rfl
  | x :: a => by simp [ltCps, lt_irr a]
theorem ge_trans : ∀ a b c : List Nat, ltCps b a = false → ltCps c b = false → ltCps c a = false
  | [], _, c, _, _ => by cases c <;> rfl
  | x :: a, [], _, h, _ => by cases h
  | x :: a, y :: b, [], _, h => by cases h
  | x :: a, y :: b, z :: c, h1, h2 => by
    simp only [ltCps, Bool.or_eq_false_iff, decide_eq_false_iff_not, Bool.and_eq_false_imp, beq_iff_eq] at h1 h2 ⊢
    refine ⟨by omega, fun e => ?_⟩
    subst e
    have e1 : y = z := by omega
    subst e1
    exact ge_trans a b c (h1.2 rfl) (h2.2 rfl)
theorem ge_anti : ∀ a b : List Nat, ltCps b a = false → ltCps a b = false → a = b
  | [], [], _, _ => rfl
  | [], _ :: _, _, h => by cases h
  | _ :: _, [], h, _ => by cases h
  | x :: a, y :: b, h1, h2 => by
    simp only [ltCps, Bool.or_eq_false_iff, decide_eq_false_iff_not, Bool.and_eq_false_imp, beq_iff_eq] at h1 h2
    have e1 : x = y := by omega
    subst e1
    rw [ge_anti a b (h1.2 rfl) (h2.2 rfl)]
theorem ge_total : ∀ a b : List Nat, ltCps b a = false ∨ ltCps a b = false
  | [], b => .inl (by cases b <;> rfl)
  | _ :: _, [] => .inr rfl
  | x :: a, y :: b => by
    simp only [ltCps, Bool.or_eq_false_iff, decide_eq_false_iff_not, Bool.and_eq_false_imp, beq_iff_eq]
    by_cases h : x = y
    · subst h
      rcases ge_total a b with h | h
      · exact .inl ⟨by omega, fun _ => h⟩
      · exact .inr ⟨by omega, fun _ => h⟩
    · by_cases h' : x < y
      · exact .inl ⟨by omega, fun e => absurd e.symm h⟩
      · exact .inr ⟨by omega, fun e => absurd e h⟩
def leS (a b : Str) : Bool := !ltCps b.cps.toList a.cps.toList
theorem leS_iff {a b : Str} : leS a b = true ↔ ltCps b.cps.toList a.cps.toList = false := by unfold leS; simp
def sortS (ks : List Str) : List Str := ks.mergeSort leS
theorem rising_all : ∀ (l : List Str) (p : Str), risingS p l = true → ∀ x ∈ l, leS p x = true
  | [], _, _, _, h => by cases h
  | y :: l, p, h, x, hx => by
    unfold risingS at h
    rw [Bool.and_eq_true] at h
    have h1 : leS p y = true := h.1
    rcases List.mem_cons.mp hx with rfl | hx
    · exact h1
    · have h2 := rising_all l y h.2 x hx
      rw [leS_iff] at h1 h2 ⊢
      exact ge_trans _ _ _ h1 h2
theorem rising_pair : ∀ (l : List Str) (p : Str), risingS p l = true → (p :: l).Pairwise fun a b => leS a b = true
  | [], p, _ => List.pairwise_singleton _ _
  | y :: l, p, h => by
    refine List.pairwise_cons.mpr ⟨rising_all _ _ h, ?_⟩
    unfold risingS at h
    rw [Bool.and_eq_true] at h
    exact rising_pair l y h.2
theorem sorted_pair (l : List Str) (h : sortedS l = true) : l.Pairwise fun a b => leS a b = true := by
  cases l with
  | nil => exact List.Pairwise.nil
  | cons x r => exact rising_pair r x h
theorem sortS_uniq {ys ks : List Str} (p : ys.Perm ks) (s : sortedS ys = true) : ys = sortS ks := by
  refine List.Perm.eq_of_pairwise (le := fun a b => leS a b = true) (fun a b _ _ h1 h2 => ?_) (sorted_pair ys s) ?_ (p.trans (List.mergeSort_perm ks leS).symm)
  · rw [leS_iff] at h1 h2
    cases a; cases b
    congr 1
    exact Array.toList_inj.mp (ge_anti _ _ h1 h2)
  · exact List.pairwise_mergeSort (fun a b c h1 h2 => by rw [leS_iff] at h1 h2 ⊢; exact ge_trans _ _ _ h1 h2) (fun a b => by
      rw [Bool.or_eq_true, leS_iff, leS_iff]
      exact ge_total _ _) ks
def keysS : List (Key × D) → Option (List Str)
  | [] => some []
  | (.inr x, _) :: r => (keysS r).map (x :: ·)
  | (.inl _, _) :: _ => none
theorem keysS_eq : ∀ {kds : List (Key × D)} {ks : List Str}, keysS kds = some ks → kds.map (·.1) = ks.map Sum.inr
  | [], ks, e => by cases e; rfl
  | (.inr x, d) :: r, ks, e => by
    unfold keysS at e
    obtain ⟨cs, e1, e2⟩ := Option.map_eq_some_iff.mp e
    subst e2
    rw [List.map_cons, keysS_eq e1]; rfl
  | (.inl x, d) :: r, ks, e => by cases e
def dSortedD (ds : List D) (h : Mh) : R D := match ds with
  | [.ref n] => match h[n]? with
    | some (.dk kvs) => match keysS kvs with
      | some ks => if ks.length < 64 then .ok (.ref h.length) (h ++ [.lst ((sortS ks).map D.str)]) else .bad
      | none => .bad
    | _ => .bad
  | _ => .bad
section
variable {X : Cx} {W : WX} {e : Expr} {ml : Sg → Mh → R (List D)} {p pos : Pos}
theorem sem_sortedD : SemL X (fun xs H Q => ∃ (a : Addr) (kvs : List (Key × V)) (ks : List Str), xs = [.ref a] ∧ Rd H a (.dK kvs) ∧ kvs.map (·.1) = ks.map Sum.inr ∧ ks.length < 64 ∧ ∀ ys p, ys.Perm ks → sortedS ys = true → H p = none → Q (.ref p) (upd H p (.lst (ys.map V.str)))) dSortedD := by
  intro W σ ρ H h Q vs ds rh rvs w
  unfold dSortedD at w
  split at w
  · split at w
    · rename_i e0
      split at w
      · rename_i ks ek
        split at w
        · rename_i hz
          cases rvs with
          | cons r t =>
            cases t
            cases r with
            | ref r =>
              cases rh.at r e0 with
              | @dk kvs _ hl ke q =>
                refine ⟨_, kvs, ks, rfl, .inl hl, ke.trans (keysS_eq ek), hz, fun ys p hp hs hn => ?_⟩
                rw [sortS_uniq hp hs]
                exact w.alloc rh hn (RO.newList hn (RVs.ofStrs _))
        · exact w.elim
      · exact w.elim
    · exact w.elim
  · exact w.elim
theorem q_sortedD (hc : X.calm = true) (hm : X.mg "sorted" = none) (ha : PL X W [e] ml) (hg : Gl X "sorted" := by rfl) (he : starEach [e] X.env = (false, eval e X.env) :: starEach [] X.env := by rfl) : PM X W (.Call (.Name "sorted" p) [e] [] pos) (mBi dSortedD ml) := q_bi (call_sortedD hc) sem_sortedD hm ha (by decide +kernel) hg (by decide) (by decide) he rfl
end
/-! ### three at once -/
def sPar3 (i j l : Nat) (ml : Sg → Mh → R (List D)) : Sg → Mh → RS := fun sg h => (ml sg h).th sg fun ds h1 => match ds with
  | [p, q, r] => .nx (((sg.set i (some p)).set j (some q)).set l (some r)) h1
  | _ => .bad
section
variable {X : Cx} {W : WX} {a b c : Expr} {pos : Pos}
theorem s_par3 (i j l : Nat) {x y z : Str} {px py pz pt pt2 : Pos} {kt k2} {ml : Sg → Mh → R (List D)} (hN : X.N.Nodup) (ha : PL X W [a, b, c] ml) (hc : X.calm = true := by rfl) (hi : X.N[i]? = some x := by rfl) (hj : X.N[j]? = some y := by rfl) (hl : X.N[l]? = some z := by rfl) (hij : i ≠ j := by decide) (hil : i ≠ l := by decide) (hjl : j ≠ l := by decide)
    (hx : X.env.scope.names.lookup x = some .local := by rfl) (hy : X.env.scope.names.lookup y = some .local := by rfl) (hz : X.env.scope.names.lookup z = some .local := by rfl)
    (hw : swappedStores [.Tuple [.Name x px, .Name y py, .Name z pz] kt pt] (.Tuple [a, b, c] k2 pt2) X.env = pure (some [x, y, z]) := by rfl)
    (hs : swapsWithSole [.Tuple [.Name x px, .Name y py, .Name z pz] kt pt] (.Tuple [a, b, c] k2 pt2) pos.line X.env = pure false := by rfl) : PSM X W (.Assign [.Tuple [.Name x px, .Name y py, .Name z pz] kt pt] (.Tuple [a, b, c] k2 pt2) pos) (sPar3 i j l ml) :=
  ⟨PSimp (ps_par3 hc hN hi hj hl hij hil hjl hx hy hz ha.pa hw hs) fun E σ H ⟨ρ, sg, h, hs, rh, w⟩ => TMl.goS hs rh w fun ρ1 H1 h1 vs ds le rh1 rvs w1 => by
    split at w1
    · cases rvs with
      | cons r1 t => cases t with
        | cons r2 t => cases t with
          | cons r3 t =>
            cases t
            exact ⟨_, _, _, rfl, w1.nxI Le.refl rh1 ((((hs.mono le).set i r1).set j r2).set l r3)⟩
    · exact w1.elim⟩
/-! ### calls by keywords alone, in the parameters' order -/
def KwB (K : PySem.W.Frag) (fd : FuncData) (ps : List Str) : Prop := ∀ (s : Shared) (us : List Value), K.In s.heap → us.length = ps.length → BindsTo s fd ⟨[], ps.zip us⟩ (ps.zip us)
theorem Fun_kwb {K : PySem.W.Frag} {x qual : Str} {st : Stmt} {f : Addr} {fd : FuncData} {ps : List Str} (F : Fun K x qual st f fd)
    (h : ∀ (kV doc pm : Value) (an : Option Addr) (cdv ct : Value) (us : List Value), us.length = ps.length → bindArgs (PySem.W.fnOf x qual (defArgs st) (defBody st) (defScope st) .none kV doc pm an cdv ct) ⟨[], ps.zip us⟩ = pure (ps.zip us)) : KwB K fd ps := by
  obtain ⟨oc, od, kV, doc, pm, an, cdv, ct, osl, rfl, lk, hcd⟩ := F.ex
  exact fun s us _ hl => .of_eq (h kV doc pm an cdv ct us hl)
structure PKM (X : Cx) (W : WX) (kws : List Keyword) (m : Sg → Mh → R (List D)) : Prop where
  pk : PK X kws (TMl X.K X.mg W m)
theorem PKimp {X : Cx} {e : List Keyword} {t t' : TA} (h : PK X e t) (i : ∀ σ H Q, t' σ H Q → t σ H Q) : PK X e t' := ⟨fun pos pins s σ H Q I hw => h.run pos pins s σ H Q I (i _ _ _ hw)⟩
theorem k_nil : PKM X W [] mNil := ⟨PKimp pk_nil fun σ H Q ⟨ρ, sg, h, hs, rh, w⟩ => w.okI Le.refl rh .nil⟩
theorem k_cons {e : Expr} {kws : List Keyword} {nm : Option Str} {kpos : Pos} {m : Sg → Mh → R D} {r : Sg → Mh → R (List D)} (he : PM X W e m) (hr : PKM X W kws r) : PKM X W (⟨nm, e, kpos⟩ :: kws) (mCons m r) :=
  ⟨PKimp (pk_cons he.pe hr.pk) fun σ H Q ⟨ρ, sg, h, hs, rh, w⟩ => TM.go hs rh w fun ρ1 H1 h1 v d le rh1 rv w1 => TMl.go (hs.mono le) rh1 w1 fun ρ2 H2 h2 vs ds le2 rh2 rvs w2 => w2.okI Le.refl rh2 (.cons (rv.mono le2) rvs)⟩
variable {k np : Nat} {f : Addr} {fd : FuncData} {ps : List Str} {fm : FM} {x : Str} {p : Pos} {kws : List Keyword} {ml : Sg → Mh → R (List D)}
theorem q_callK (F : FnOk X.prog X.w X.K X.mg X.base (L2.CX X.prog X.w) k f fd ps (spM X.K X.mg np fm)) (hr : Room k X.A) (tk : Takes X W) (hm : X.mg x = some (.ref f)) (hk : PySem.W.keepIn X.K (.ref f) = true) (hb : KwB X.K fd ps) (ha : PKM X W kws ml)
    (hall : (backToKw pos (keywordEach kws X.env)).all (·.1.isSome) = true := by rfl) (hks : (backToKw pos (keywordEach kws X.env)).filterMap (·.1) = ps := by rfl) (hg : Gl X x := by rfl) (hdb : (x == ("__debug__" : Str)) = false := by decide)
    (hpl : ((backTo pos (starEach [] X.env)).any (·.1) || (backToKw pos (keywordEach kws X.env)).any (·.1.isNone)) = false := by rfl) : PM X W (.Call (.Name x p) [] kws pos) (mCall np fm ml []) := by
  refine ⟨⟨fun pins s σ H Q I h => ?_⟩⟩
  refine wpAny_Call_Name_kw (ld_glob I hg hm ?_ hdb)
  refine PySem.W.callWith_KW0 (h₀ := X.base) I.ok.mod.kin hk hall ?_ hpl
  obtain ⟨ρ, sg, h, hs, rh, w⟩ := h
  refine thn (ha.pk.run pos pins s σ H (fun vs H1 => spM X.K X.mg np fm vs H1 Q (WE W σ)) I (TMl.go hs rh w fun ρ1 H1 h1 vs ds le rh1 rvs w1 => by
    split at w1
    · rename_i hl
      rw [List.append_nil] at hl w1
      exact ⟨by rw [rvs.length]; exact hl, ρ1, _, h1, rvs, rh1, w1.wx fun _ _ _ z => z⟩
    · exact w1.elim)) fun us s2 ⟨vs, H2, I2, r, q2⟩ => ⟨I2.kIn, ?_⟩
  rw [hks]
  have hl : us.length = ps.length := by rw [← r.length]; exact F.len _ _ _ _ q2
  refine wpAny_call (codeAny_mono (F.run X.A X.stack s2 H2 ⟨[], ps.zip us⟩ us vs Q (WE W σ) hr I2.env0 (hb s2 us I2.kIn hl) r q2) fun r s' hq => ?_)
  cases r with
  | error e => exact passAt tk σ pins H2 s2 e s' I2 hq
  | ok fl =>
    cases fl with
    | ret u => exact I2.after hq
    | next => exact False.elim hq
    | brk => exact False.elim hq
    | cont => exact False.elim hq
end
theorem bt_int : bootBuiltins "int" = some (.type "int") := by decide +kernel
theorem bt_str : bootBuiltins "str" = some (.type "str") := by decide +kernel
theorem bt_bool : bootBuiltins "bool" = some (.type "bool") := by decide +kernel
theorem bt_list : bootBuiltins "list" = some (.type "list") := by decide +kernel
theorem bt_tuple : bootBuiltins "tuple" = some (.type "tuple") := by decide +kernel
theorem bt_dict : bootBuiltins "dict" = some (.type "dict") := by decide +kernel
/-! ### dict displays -/
def mPNil : Sg → Mh → R (List (D × D)) := fun _ h => .ok [] h
def mPCons (a b : Sg → Mh → R D) (r : Sg → Mh → R (List (D × D))) : Sg → Mh → R (List (D × D)) := fun sg h => (a sg h).bind fun x h1 => (b sg h1).bind fun y h2 => (r sg h2).bind fun ps h3 => .ok ((x, y) :: ps) h3
def keyPs : List (D × D) → Option (List (Key × D))
  | [] => some []
  | (k, d) :: r => match keyD k, keyPs r with
    | some k, some r => some ((k, d) :: r)
    | _, _ => none
def mergeD (kvs more : List (Key × D)) : List (Key × D) := more.foldl (fun acc kv => putD acc kv.1 kv.2) kvs
def mDisp (r : Sg → Mh → R (List (D × D))) : Sg → Mh → R D := fun sg h => (r sg (h ++ [.dk []])).bind fun ps h2 => match h2[h.length]?, keyPs ps with
  | some (.dk []), some kvs => if kvs.length ≤ 15 then .ok (.ref h.length) (h2.set h.length (.dk (mergeD [] kvs))) else .bad
  | _, _ => .bad
inductive RPs (K : PySem.W.Frag) (mg : Str → Option Value) (ρ : Ren) (H : Hp) : List (V × V) → List (D × D) → Prop
  | nil : RPs K mg ρ H [] []
  | cons {a b : V} {x y : D} {vs : List (V × V)} {ds : List (D × D)} : RV K mg ρ H a x → RV K mg ρ H b y → RPs K mg ρ H vs ds → RPs K mg ρ H ((a, b) :: vs) ((x, y) :: ds)
theorem RPs.mono {K mg ρ H ρ' H'} (le : Le K ρ H ρ' H') : ∀ {vs : List (V × V)} {ds : List (D × D)}, RPs K mg ρ H vs ds → RPs K mg ρ' H' vs ds
  | _, _, .nil => .nil
  | _, _, .cons a b t => .cons (a.mono le) (b.mono le) (RPs.mono le t)
structure PPM (X : Cx) (W : WX) (pos : Pos) (keys : List (Option Expr)) (values : List Expr) (m : Sg → Mh → R (List (D × D))) : Prop where
  ex : ∃ trs : List (TE × TE), PPs X pos keys values trs ∧ ∀ σ H Q, (∃ ρ sg h, RSt X.K X.mg ρ H σ sg ∧ RHp X.K X.mg ρ H h ∧ WG X.K X.mg (RPs X.K X.mg) W σ Q ρ H (m sg h)) → tPairs trs σ H Q
section
variable {X : Cx} {W : WX} {pos : Pos} {keys : List (Option Expr)} {values : List Expr} {mr : Sg → Mh → R (List (D × D))}
theorem d_nil : PPM X W pos [] [] mPNil := ⟨[], pps_nil, fun σ H Q ⟨ρ, sg, h, hs, rh, w⟩ => w.okI Le.refl rh .nil⟩
theorem d_cons {a b : Expr} {ma mb : Sg → Mh → R D} (ha : PM X W a ma) (hb : PM X W b mb) (hr : PPM X W pos keys values mr) : PPM X W pos (some a :: keys) (b :: values) (mPCons ma mb mr) := by
  obtain ⟨trs, h1, h2⟩ := hr.ex
  refine ⟨_, pps_cons ha.pe hb.pe h1, fun σ H Q ⟨ρ, sg, h, hs, rh, w⟩ => ?_⟩
  refine TM.go hs rh w fun ρ1 H1 hh1 v d le rh1 rv w1 => TM.go (hs.mono le) rh1 w1 fun ρ2 H2 hh2 v2 d2 le2 rh2 rv2 w2 => h2 σ H2 _ ⟨ρ2, sg, hh2, (hs.mono le).mono le2, rh2, w2.cut fun ρ3 H3 hh3 vs ds le3 rh3 rps w3 => ?_⟩
  exact w3.okI Le.refl rh3 (.cons (rv.mono (le2.trans le3)) (rv2.mono le3) rps)
theorem keyPs_of {K mg ρ H} : ∀ {vs : List (V × V)} {ds : List (D × D)} {kds : List (Key × D)}, RPs K mg ρ H vs ds → keyPs ds = some kds → ∃ kvs : List (Key × V), vs = kvs.map (fun kv => (kV kv.1, kv.2)) ∧ kvs.map (·.1) = kds.map (·.1) ∧ RVs K mg ρ H (kvs.map (·.2)) (kds.map (·.2)) ∧ kvs.length = kds.length
  | _, _, _, .nil, e => by cases e; exact ⟨[], rfl, rfl, .nil, rfl⟩
  | _, _, _, .cons ra rb t, e => by
    unfold keyPs at e
    split at e
    · rename_i k r e1 e2
      cases e
      obtain ⟨kvs, i1, i2, i3, i4⟩ := keyPs_of t e2
      refine ⟨(k, _) :: kvs, ?_, ?_, .cons rb i3, congrArg (· + 1) i4⟩
      · rw [key_of ra e1, i1]; rfl
      · rw [List.map_cons, List.map_cons, i2]
    · cases e
theorem merge_of {K mg ρ H} : ∀ {more : List (Key × V)} {moreD : List (Key × D)} {kvs : List (Key × V)} {kds : List (Key × D)}, more.map (·.1) = moreD.map (·.1) → RVs K mg ρ H (more.map (·.2)) (moreD.map (·.2)) → kvs.map (·.1) = kds.map (·.1) → RVs K mg ρ H (kvs.map (·.2)) (kds.map (·.2)) →
    (mergeK kvs more).map (·.1) = (mergeD kds moreD).map (·.1) ∧ RVs K mg ρ H ((mergeK kvs more).map (·.2)) ((mergeD kds moreD).map (·.2))
  | [], [], _, _, _, _, e, r => ⟨e, r⟩
  | [], _ :: _, _, _, e, _, _, _ => by cases e
  | _ :: _, [], _, _, e, _, _, _ => by cases e
  | p :: more, q :: moreD, kvs, kds, e, r, e', r' => by
    have e1 : p.1 = q.1 := (List.cons.inj e).1
    cases r with
    | cons r1 t =>
      obtain ⟨p1, p2⟩ := put_of (k := q.1) r1 e' r'
      have := merge_of (List.cons.inj e).2 t p1 p2
      unfold mergeK mergeD at this ⊢
      rw [List.foldl_cons, List.foldl_cons, e1]
      exact this
theorem q_disp (h : PPM X W pos keys values mr) (hall : keys.all (·.isSome) = true := by rfl) (hl : keys.length = values.length := by rfl) (h0 : keys ≠ [] := by intro z; cases z) (h15 : keys.length ≤ 15 := by decide) : PM X W (.Dict keys values pos) (mDisp mr) := by
  obtain ⟨trs, h1, h2⟩ := h.ex
  refine ⟨PEimp (pe_disp h1 hall hl h0 h15) fun σ H Q ⟨ρ, sg, h, hs, rh, w⟩ => fun p hp => ?_⟩
  have rh1 : RHp X.K X.mg (ρ ++ [p]) (upd H p (.dK [])) (h ++ [.dk []]) := rh.grow hp (.dk upd_same rfl .nil)
  have le1 : Le X.K ρ H (ρ ++ [p]) (upd H p (.dK [])) := Le.grow hp
  have hn : (ρ ++ [p])[h.length]? = some p := rh.at_new
  refine h2 σ _ _ ⟨_, sg, _, hs.mono le1, rh1, (w.mono le1).cut fun ρ2 H2 hh2 vs ds le2 rh2 rps w2 => ?_⟩
  split at w2
  · rename_i kds e0 ek
    split at w2
    · rename_i hz
      have hn2 := le2.pre _ _ hn
      cases rh2.at hn2 e0 with
      | @dk kvs0 _ hl0 ke q =>
        have z : kvs0 = [] := by cases kvs0 with
          | nil => rfl
          | cons _ _ => cases ke
        subst z
        obtain ⟨kvs, i1, i2, i3, i4⟩ := keyPs_of rps ek
        obtain ⟨p1, p2⟩ := merge_of (kvs := []) (kds := []) i2 i3 rfl .nil
        have le4 : Le X.K ρ2 H2 ρ2 (upd H2 p (.dK (mergeK [] kvs))) := Le.write hl0 trivial
        exact ⟨hl0, kvs, i1, by rw [i4]; exact hz, w2.okI le4 (rh2.write hn2 e0 rfl rfl hl0 trivial (.dk upd_same p1 (p2.mono le4))) (.ref (le4.pre _ _ hn2))⟩
    · exact w2.elim
  · exact w2.elim
end
end Mo

namespace Mo
open PySem PySem.Spec PyProof.Rows L2
/-! ### the end of a law -/
def spLaw (K : PySem.W.Frag) : Sp := fun vs H Q _ => ∃ (a : Addr) (ns : List Int), vs = [.ref a] ∧ FzL K H a (ns.map V.int) ∧ ns.length ≤ 63 ∧ ∀ H', Q (.bl true) H'
theorem law_of {P : Program} {w : World} {K : PySem.W.Frag} {mg : Str → Option Value} {base : Heap} {k : Nat} {f : Addr} {fd : FuncData} {x : Str} {fm : FM} (F : FnOk P w K mg base (L2.CX P w) k f fd [x] (spM K mg 1 fm))
    (ht : ∀ ns : List Int, ns.length ≤ 63 → ∃ h', fm [.ref 0] [.fls (ns.map D.int)] = .ok (.bl true) h') : FnOk P w K mg base (L2.CX P w) k f fd [x] (spLaw K) := by
  refine F.imp fun vs H Q E ⟨a, ns, e, hz, hl, q⟩ => ?_
  subst e
  refine ⟨rfl, [a], [.ref 0], [.fls (ns.map D.int)], .cons (.ref rfl) .nil, ⟨rfl, fun n b o e1 e2 => ?_, fun n m b o u e1 e2 e3 e4 m1 m2 => ?_⟩, ?_⟩
  · cases n with
    | zero => cases e1; cases e2; exact .fls hz (RVs.ofInts ns)
    | succ n => cases e1
  · cases n with
    | zero => cases e3; cases m1
    | succ n => cases e1
  · obtain ⟨h', e⟩ := ht ns hl
    rw [e]
    intro ρ' H' v le rh rv
    cases rv
    exact q H'
theorem fz_of {K : PySem.W.Frag} {H : Hp} {a : Addr} {xs : List V} (o : Only H) (h : SqL K H a xs) : FzL K H a xs := by
  rcases h with (h | ⟨u, h⟩) | h
  · rcases o a with z | ⟨o', ys, z⟩
    · rw [h] at z; cases z
    · rw [h] at z; cases z
  · exact .inl ⟨u, h⟩
  · exact .inr h
theorem cx_no {P : Program} {w : World} {H : Hp} {s : Shared} {e : Value} {s' : Shared} (h : L2.CX P w [] H s (fun _ _ _ => False) e s') : False := by
  obtain ⟨_, _, _, _, _, _, _, _, _, _, _, _, z⟩ := h
  exact z.elim
end Mo

namespace Mo
open PySem PySem.Spec PyProof.Rows L2
/-! ### running the functions: equations for simp -/
theorem th_nx {sg h f} : (RS.nx sg h).th f = f sg h := rfl
theorem th_rt {d h f} : (RS.rt d h).th f = .rt d h := rfl
theorem th_bad {f} : (RS.bad).th f = .bad := rfl
theorem th_bk {sg h f} : (RS.bk sg h).th f = .bk sg h := rfl
theorem th_ct {sg h f} : (RS.ct sg h).th f = .ct sg h := rfl
theorem end_rt {d h} : (RS.rt d h).end = .ok d h := rfl
theorem end_nx {sg h} : (RS.nx sg h).end = .ok .non h := rfl
theorem e_seq (m n sg h) : sSeq m n sg h = (m sg h).th n := rfl
theorem e_lit (d sg h) : mLit d sg h = .ok d h := rfl
theorem e_var (i sg h) : mVar i sg h = match sg[i]? with
  | some (some d) => .ok d h
  | _ => .bad := rfl
theorem e_m2 (f a b sg h) : m2 f a b sg h = (a sg h).bind fun x h1 => (b sg h1).bind fun y h2 => f x y h2 := rfl
theorem e_m1 (f a sg h) : m1 f a sg h = (a sg h).bind f := rfl
theorem e_test (m sg h) : mTest m sg h = (m sg h).bind fun d h1 => match d with
  | .bl b => .ok b h1
  | _ => .bad := rfl
theorem e_set (i m sg h) : sSet i m sg h = (m sg h).th sg fun d h1 => .nx (sg.set i (some d)) h1 := rfl
theorem e_ret (m sg h) : sRet m sg h = (m sg h).th sg fun d h1 => .rt d h1 := rfl
theorem e_if (c m n sg h) : sIf c m n sg h = (c sg h).th sg fun b h1 => if b = true then m sg h1 else n sg h1 := rfl
theorem e_next (sg h) : sNext sg h = .nx sg h := rfl
theorem e_nil (sg h) : mNil sg h = .ok [] h := rfl
theorem e_cons (m r sg h) : mCons m r sg h = (m sg h).bind fun d h1 => (r sg h1).bind fun ds h2 => .ok (d :: ds) h2 := rfl
theorem e_bi (f ml sg h) : mBi f ml sg h = (ml sg h).bind f := rfl
theorem e_put (f mo mi mv sg h) : sPut f mo mi mv sg h = (mv sg h).th sg fun v h1 => (mo sg h1).th sg fun x h2 => (mi sg h2).th sg fun k h3 => toRS sg (f x k v h3) := rfl
theorem e_call (np fm ml dds sg h) : mCall np fm ml dds sg h = (ml sg h).bind fun ds h1 => if (ds ++ dds).length = np then fm (ds ++ dds) h1 else .bad := rfl
theorem e_andT (m n sg h) : mAndT m n sg h = (m sg h).bind fun b h1 => if b = true then n sg h1 else .ok false h1 := rfl
theorem e_orT (m n sg h) : mOrT m n sg h = (m sg h).bind fun b h1 => if b = true then .ok true h1 else n sg h1 := rfl
theorem e_notT (m sg h) : mNotT m sg h = (m sg h).bind fun b h1 => .ok (!b) h1 := rfl
theorem e_tru (m sg h) : mTru m sg h = (m sg h).bind dTru := rfl
theorem e_ite (m p q sg h) : mIte m p q sg h = (m sg h).bind fun b h1 => if b = true then p sg h1 else q sg h1 := rfl
theorem e_and (m n sg h) : mAnd m n sg h = (m sg h).bind fun d h1 => (dTru d h1).bind fun b h2 => if b = true then n sg h2 else .ok d h2 := rfl
theorem e_or (m n sg h) : mOr m n sg h = (m sg h).bind fun d h1 => (dTru d h1).bind fun b h2 => if b = true then .ok d h2 else n sg h2 := rfl
theorem e_not (m sg h) : mNot m sg h = (m sg h).bind fun d h1 => (dTru d h1).bind fun b h2 => .ok (.bl (!b)) h2 := rfl
theorem e_tup (r sg h) : mTup r sg h = (r sg h).bind fun ds h1 => if ds.length ≤ sizeLine then .ok (.tup ds) h1 else .bad := rfl
theorem e_lst (r sg h) : mLst r sg h = (r sg h).bind fun ds h1 => if ds.length ≤ sizeLine then .ok (.ref h1.length) (h1 ++ [.lst ds]) else .bad := rfl
theorem e_expr (m sg h) : sExpr m sg h = (m sg h).th sg fun _ h1 => .nx sg h1 := rfl
theorem e_mt (T f mo ml sg h) : mMt T f mo ml sg h = (mo sg h).bind fun x h1 => if isTy T x h1 = true then (ml sg h1).bind fun ds h2 => f x ds h2 else .bad := rfl
theorem e_sl (m lo hi sg h) : mSl m lo hi sg h = (m sg h).bind fun x h1 => (lo sg h1).bind fun l h2 => (hi sg h2).bind fun u h3 => dSl x l u h3 := rfl
theorem e_part (m sg h) : mPart m sg h = (m sg h).bind fun d h1 => match d with
  | .int i => .ok (some i) h1
  | _ => .bad := rfl
theorem e_noP (sg h) : mNoP sg h = .ok none h := rfl
theorem e_chain (f g ma mb mc sg h) : mChain f g ma mb mc sg h = (ma sg h).bind fun x h1 => (mb sg h1).bind fun y h2 => (f x y h2).bind fun z h3 => match z with
  | .bl true => (mc sg h3).bind fun w h4 => g y w h4
  | .bl false => .ok (.bl false) h3
  | _ => .bad := rfl
theorem e_par (i j ml sg h) : sPar i j ml sg h = (ml sg h).th sg fun ds h1 => match ds with
  | [p, q] => .nx ((sg.set i (some p)).set j (some q)) h1
  | _ => .bad := rfl
theorem e_par3 (i j l ml sg h) : sPar3 i j l ml sg h = (ml sg h).th sg fun ds h1 => match ds with
  | [p, q, r] => .nx (((sg.set i (some p)).set j (some q)).set l (some r)) h1
  | _ => .bad := rfl
theorem e_asg (g m sg h) : sAsg g m sg h = (m sg h).th sg fun d h1 => match g d sg with
  | some sg' => .nx sg' h1
  | none => .bad := rfl
theorem e_for (mi g body sg h) : sFor mi g body sg h = (mi sg h).th sg fun s h1 => forL s g body s.items 0 sg h1 := rfl
theorem e_lc (mi g mt me vs sg h) : mLc mi g mt me vs sg h = (mi sg h).bind fun s h1 => lcL s g mt me (wipeD sg vs) h1.length s.items 0 (h1 ++ [.lst []]) := rfl
theorem e_iter (m sg h) : mIter m sg h = (m sg h).bind dIter := rfl
theorem e_range1 (m sg h) : mRange1 m sg h = (m sg h).bind fun d h1 => match d with
  | .int j => if -(2 ^ 62) ≤ j ∧ j < 2 ^ 62 then .ok (srcR 0 j.toNat) h1 else .bad
  | _ => .bad := rfl
theorem e_zip (ml sg h) : mZip ml sg h = (ml sg h).bind dZip := rfl
theorem e_dnew (sg h) : mDNew sg h = .ok (.ref h.length) (h ++ [.dk []]) := rfl
theorem e_yes (sg h) : mYes sg h = .ok true h := rfl
theorem e_run (n ms ds h) : runF n ms ds h = (ms (startD n ds) h).end := rfl
theorem b_ok {α β : Type} {a : α} {h : Mh} {f : α → Mh → R β} : (R.ok a h).bind f = f a h := rfl
theorem b_bad {α β : Type} {f : α → Mh → R β} : (R.bad : R α).bind f = .bad := rfl
theorem t_ok {α : Type} {a : α} {h : Mh} {sg : Sg} {f : α → Mh → RS} : (R.ok a h).th sg f = f a h := rfl
theorem t_bad {α : Type} {sg : Sg} {f : α → Mh → RS} : (R.bad : R α).th sg f = .bad := rfl
theorem n_ok {α : Type} {a : α} {h : Mh} : (R.ok a h).nox = .ok a h := rfl
theorem line_le : (1000 : Nat) ≤ sizeLine := by decide
theorem toRS_some {sg h} : toRS sg (some h) = .nx sg h := rfl
@[simp] theorem i0 {g x y h} : dI0 g (.int x) (.int y) h = .ok (g x y) h := rfl
@[simp] theorem iI {c g x y h} : dII c g (.int x) (.int y) h = if c x y = true then .ok (g x y) h else .bad := rfl
theorem b_ite {α β : Type} {c : Prop} [Decidable c] {a b : R α} {f : α → Mh → R β} : (if c then a else b).bind f = if c then a.bind f else b.bind f := by split <;> rfl
theorem t_ite' {α : Type} {c : Prop} [Decidable c] {a b : R α} {sg : Sg} {f : α → Mh → RS} : (if c then a else b).th sg f = if c then a.th sg f else b.th sg f := by split <;> rfl
theorem th_ite {c : Prop} [Decidable c] {a b : RS} {f : Sg → Mh → RS} : (if c then a else b).th f = if c then a.th f else b.th f := by split <;> rfl
theorem end_ite {c : Prop} [Decidable c] {a b : RS} : (if c then a else b).end = if c then a.end else b.end := by split <;> rfl
@[simp] theorem add_ii {x y h} : dAdd (.int x) (.int y) h = .ok (.int (x + y)) h := rfl
@[simp] theorem sub_ii {x y h} : dSub (.int x) (.int y) h = .ok (.int (x - y)) h := rfl
@[simp] theorem band_ii {x y h} : dBand (.int x) (.int y) h = .ok (.int (Builtin.bitAnd x y)) h := rfl
@[simp] theorem bor_ii {x y h} : dBor (.int x) (.int y) h = .ok (.int (Builtin.bitOr x y)) h := rfl
@[simp] theorem bxor_ii {x y h} : dBxor (.int x) (.int y) h = .ok (.int (Builtin.bitXor x y)) h := rfl
theorem mul_ii {x y h} (c : cMul x y = true) : dMul (.int x) (.int y) h = .ok (.int (x * y)) h := if_pos c
theorem cMul_r {x y : Int} (h1 : -(2 ^ 64) < y) (h2 : y < 2 ^ 64) : cMul x y = true := decide_eq_true (.inr ⟨h1, h2⟩)
theorem cMul_l {x y : Int} (h1 : -(2 ^ 64) < x) (h2 : x < 2 ^ 64) : cMul x y = true := decide_eq_true (.inl ⟨h1, h2⟩)
theorem mod_ii {x y h} (c : 0 < y) : dMod (.int x) (.int y) h = .ok (.int (x % y)) h := if_pos (decide_eq_true c)
theorem fdiv_ii {x y h} (c : 0 < y) (d : y < 18446744073709551616) : dFdiv (.int x) (.int y) h = .ok (.int (x / y)) h := if_pos (decide_eq_true ⟨c, d⟩)
theorem pow_ii {x y h} (c : 0 ≤ y) (d : y ≤ 1000000) (e : x.natAbs < 2 ^ 100) : dPow (.int x) (.int y) h = .ok (.int (x ^ y.toNat)) h := if_pos (decide_eq_true ⟨c, d, e⟩)
theorem shl_ii {x y h} (c : 0 ≤ y) (d : y ≤ 1000000) (e : x.natAbs < 2 ^ 64) : dShl (.int x) (.int y) h = .ok (.int (x * 2 ^ y.toNat)) h := if_pos (decide_eq_true ⟨c, d, e⟩)
@[simp] theorem int_i {x h} : dInt [.int x] h = .ok (.int x) h := rfl
@[simp] theorem lt_ii {x y h} : dLt (.int x) (.int y) h = .ok (.bl (decide (x < y))) h := rfl
@[simp] theorem le_ii {x y h} : dLe (.int x) (.int y) h = .ok (.bl (decide (x ≤ y))) h := rfl
@[simp] theorem gt_ii {x y h} : dGt (.int x) (.int y) h = .ok (.bl (decide (y < x))) h := rfl
@[simp] theorem ge_ii {x y h} : dGe (.int x) (.int y) h = .ok (.bl (decide (y ≤ x))) h := rfl
@[simp] theorem eq_ii {x y h} : dE false (.int x) (.int y) h = .ok (.bl (decide (x = y))) h := rfl
@[simp] theorem ne_ii {x y h} : dE true (.int x) (.int y) h = .ok (.bl (!decide (x = y))) h := rfl
@[simp] theorem eq_ss {x y h} : dE false (.str x) (.str y) h = .ok (.bl (decide (x = y))) h := rfl
@[simp] theorem ne_ss {x y h} : dE true (.str x) (.str y) h = .ok (.bl (!decide (x = y))) h := rfl
@[simp] theorem eq_bb {x y h} : dE false (.bl x) (.bl y) h = .ok (.bl (decide (x = y))) h := rfl
@[simp] theorem ne_bb {x y h} : dE true (.bl x) (.bl y) h = .ok (.bl (!decide (x = y))) h := rfl
@[simp] theorem tru_b {b h} : dTru (.bl b) h = .ok b h := rfl
@[simp] theorem neg_i {x h} : dNeg (.int x) h = .ok (.int (-x)) h := rfl
@[simp] theorem ix_tup {ds : List D} {i : Int} {h} : dIx (.tup ds) (.int i) h = match atI ds i with
  | some d => .ok d h
  | none => .bad := rfl
theorem ix_lst {n : Nat} {ds : List D} {i : Int} {h : Mh} (e : h[n]? = some (.lst ds)) : dIx (.ref n) (.int i) h = match atI ds i with
  | some d => .ok d h
  | none => .bad := by simp only [dIx, e] <;> rfl
theorem len_lst {n : Nat} {ds : List D} {h : Mh} (e : h[n]? = some (.lst ds)) : dLen [.ref n] h = .ok (.int (ds.length : Nat)) h := by simp only [dLen, e]
theorem putL_at {n : Nat} {ds : List D} {i : Int} {v : D} {h : Mh} {j : Nat} (e : h[n]? = some (.lst ds)) (q : ixN ds.length i = some j) : dPutL (.ref n) (.int i) v h = some (h.set n (.lst (ds.set j v))) := by simp only [dPutL, e, q, Option.map_some]
theorem atI_of {ds : List D} {i : Int} {j : Nat} {d : D} (e : i = (j : Int)) (q : ds[j]? = some d) : atI ds i = some d := by rw [e]; exact atI_nat q
theorem set_at {h : Mh} {n : Nat} {o : MO} (l : n < h.length) : (h.set n o)[n]? = some o := List.getElem?_set_self l
theorem set_off {h : Mh} {n m : Nat} {o : MO} (l : n ≠ m) : (h.set n o)[m]? = h[m]? := List.getElem?_set_ne l
end Mo

namespace Mo
open PySem PySem.Spec PyProof.Rows L2
/-! ### what holds behind a run -/
structure Tg {β : Type} (x : β) : Type where
inductive R.wp {α : Type} (r : R α) (P : α → Mh → Prop) (_z : Tg P := ⟨⟩) : Prop
  | mk (a : α) (h : Mh) (e : r = .ok a h) (p : P a h) : R.wp r P _z
inductive RS.wp (r : RS) (N : Sg → Mh → Prop) (T : D → Mh → Prop) (_z : Tg N := ⟨⟩) (_y : Tg T := ⟨⟩) : Prop
  | nx (sg : Sg) (h : Mh) (e : r = .nx sg h) (p : N sg h) : RS.wp r N T _z _y
  | rt (d : D) (h : Mh) (e : r = .rt d h) (p : T d h) : RS.wp r N T _z _y
@[simp] theorem wp_ok {α : Type} {a : α} {h : Mh} {P : α → Mh → Prop} {z} : (R.ok a h).wp P z = P a h := propext ⟨fun w => (match w with | .mk _ _ rfl p => p), fun p => ⟨_, _, rfl, p⟩⟩
@[simp] theorem wp_bad {α : Type} {P : α → Mh → Prop} {z} : (R.bad : R α).wp P z = False := propext ⟨fun w => (match w with | .mk _ _ e _ => nomatch e), False.elim⟩
@[simp] theorem wp_exc {α : Type} {c fs h} {P : α → Mh → Prop} {z} : (R.exc c fs h : R α).wp P z = False := propext ⟨fun w => (match w with | .mk _ _ e _ => nomatch e), False.elim⟩
@[simp] theorem wp_nx {sg h N T z y} : (RS.nx sg h).wp N T z y = N sg h := propext ⟨fun w => (match w with
  | .nx _ _ rfl p => p
  | .rt _ _ e _ => nomatch e), fun p => RS.wp.nx _ _ rfl p⟩
@[simp] theorem wp_rt {d h N T z y} : (RS.rt d h).wp N T z y = T d h := propext ⟨fun w => (match w with
  | .nx _ _ e _ => nomatch e
  | .rt _ _ rfl p => p), fun p => RS.wp.rt _ _ rfl p⟩
theorem wps_no {r : RS} {N T z y} (h1 : ∀ sg h, r ≠ .nx sg h) (h2 : ∀ d h, r ≠ .rt d h) : r.wp N T z y = False := propext ⟨fun w => (match w with
  | .nx _ _ e _ => h1 _ _ e
  | .rt _ _ e _ => h2 _ _ e), False.elim⟩
@[simp] theorem wp_sbad {N T z y} : (RS.bad).wp N T z y = False := wps_no (fun _ _ e => by cases e) (fun _ _ e => by cases e)
@[simp] theorem wp_sbk {sg h N T z y} : (RS.bk sg h).wp N T z y = False := wps_no (fun _ _ e => by cases e) (fun _ _ e => by cases e)
@[simp] theorem wp_sct {sg h N T z y} : (RS.ct sg h).wp N T z y = False := wps_no (fun _ _ e => by cases e) (fun _ _ e => by cases e)
@[simp] theorem wp_sexc {c fs sg h N T z y} : (RS.exc c fs sg h).wp N T z y = False := wps_no (fun _ _ e => by cases e) (fun _ _ e => by cases e)
@[simp ↓] theorem wp_bind {α β : Type} {r : R α} {f : α → Mh → R β} {P : β → Mh → Prop} {z} : (r.bind f).wp P z = r.wp fun a h => (f a h).wp P := by
  cases r with
  | ok a h => rw [wp_ok]; rfl
  | exc c fs h => rw [wp_exc]; exact wp_exc
  | bad => rw [wp_bad]; exact wp_bad
@[simp ↓] theorem wp_th {α : Type} {r : R α} {sg : Sg} {f : α → Mh → RS} {N T z y} : (r.th sg f).wp N T z y = r.wp fun a h => (f a h).wp N T := by
  cases r with
  | ok a h => rw [wp_ok]; rfl
  | exc c fs h => rw [wp_exc]; exact wp_sexc
  | bad => rw [wp_bad]; exact wp_sbad
@[simp ↓] theorem wp_ths {r : RS} {f : Sg → Mh → RS} {N T z y} : (r.th f).wp N T z y = r.wp (fun sg h => (f sg h).wp N T) T := by
  cases r with
  | nx sg h => rw [wp_nx]; rfl
  | rt d h => rw [wp_rt]; exact wp_rt
  | bk sg h => rw [wp_sbk]; exact wp_sbk
  | ct sg h => rw [wp_sct]; exact wp_sct
  | exc c fs sg h => rw [wp_sexc]; exact wp_sexc
  | bad => rw [wp_sbad]; exact wp_sbad
@[simp ↓] theorem wp_end {r : RS} {P z} : r.end.wp P z = r.wp (fun _ h => P .non h) P := by
  cases r with
  | nx sg h => rw [wp_nx]; exact wp_ok
  | rt d h => rw [wp_rt]; exact wp_ok
  | bk sg h => rw [wp_sbk]; exact wp_bad
  | ct sg h => rw [wp_sct]; exact wp_bad
  | exc c fs sg h => rw [wp_sexc]; exact wp_exc
  | bad => rw [wp_sbad]; exact wp_bad
@[simp ↓] theorem wp_nox {α : Type} {r : R α} {P : α → Mh → Prop} {z} : r.nox.wp P z = r.wp P := by
  cases r with
  | ok a h => rfl
  | exc c fs h => rw [wp_exc]; exact wp_bad
  | bad => rfl
@[simp] theorem wp_ite {α : Type} {c : Prop} [Decidable c] {a b : R α} {P : α → Mh → Prop} {z} : (if c then a else b).wp P z = if c then a.wp P else b.wp P := by split <;> rfl
@[simp] theorem wps_ite {c : Prop} [Decidable c] {a b : RS} {N T z y} : (if c then a else b).wp N T z y = if c then a.wp N T else b.wp N T := by split <;> rfl
@[simp] theorem wp_oite {c : Prop} [Decidable c] {o : Option Mh} {N : Mh → Prop} : (match (if c then o else none) with
  | some h => N h
  | none => False) = if c then (match o with
  | some h => N h
  | none => False) else False := by by_cases hc : c <;> simp [hc]
theorem R.wp.mono {α : Type} {r : R α} {P Q : α → Mh → Prop} {z z'} (w : r.wp P z) (k : ∀ a h, P a h → Q a h) : r.wp Q z' := by
  cases w with
  | mk a h e p => exact .mk a h e (k a h p)
theorem RS.wp.mono {r : RS} {N N' T T' z y z' y'} (w : r.wp N T z y) (k : ∀ sg h, N sg h → N' sg h) (l : ∀ d h, T d h → T' d h) : r.wp N' T' z' y' := by
  cases w with
  | nx sg h e p => exact .nx sg h e (k _ _ p)
  | rt d h e p => exact .rt d h e (l _ _ p)
theorem R.wp.out {α : Type} {r : R α} {P : α → Mh → Prop} {z} (w : r.wp P z) : ∃ a h, r = .ok a h ∧ P a h := by
  cases w with
  | mk a h e p => exact ⟨a, h, e, p⟩
theorem wp_of {α : Type} {r : R α} {a : α} {h : Mh} {P : α → Mh → Prop} {z} (e : r = .ok a h) (p : P a h) : r.wp P z := .mk a h e p
structure LenC (n : Nat) : Prop where
  r : n < sizeLine
structure LenE (n : Nat) : Prop where
  r : n ≤ sizeLine
@[simp] theorem lenC {n : Nat} (h : n < 1000) : LenC n := ⟨Nat.lt_of_lt_of_le h line_le⟩
@[simp] theorem lenE {n : Nat} (h : n ≤ 1000) : LenE n := ⟨Nat.le_trans h line_le⟩
/-! the constructs -/
@[simp ↓] theorem w_seq {m n sg h} {N : Sg → Mh → Prop} {T : D → Mh → Prop} {z : Tg N} {y : Tg T} : RS.wp (sSeq m n sg h) N T z y = RS.wp ((m sg h).th n) N T := rfl
@[simp ↓] theorem w_lit {d sg h} {P} {z : Tg P} : R.wp (mLit d sg h) P z = R.wp (.ok d h) P := rfl
@[simp ↓] theorem w_var {i sg h} {P} {z : Tg P} : R.wp (mVar i sg h) P z = R.wp (match sg[i]? with
  | some (some d) => .ok d h
  | _ => .bad) P := rfl
@[simp ↓] theorem w_m2 {f a b sg h} {P} {z : Tg P} : R.wp (m2 f a b sg h) P z = R.wp ((a sg h).bind fun x h1 => (b sg h1).bind fun y h2 => f x y h2) P := rfl
@[simp ↓] theorem w_m1 {f a sg h} {P} {z : Tg P} : R.wp (m1 f a sg h) P z = R.wp ((a sg h).bind f) P := rfl
@[simp ↓] theorem w_test {m sg h} {P} {z : Tg P} : R.wp (mTest m sg h) P z = R.wp ((m sg h).bind fun d h1 => match d with
  | .bl b => .ok b h1
  | _ => .bad) P := rfl
@[simp ↓] theorem w_set {i m sg h} {N : Sg → Mh → Prop} {T : D → Mh → Prop} {z : Tg N} {y : Tg T} : RS.wp (sSet i m sg h) N T z y = RS.wp ((m sg h).th sg fun d h1 => .nx (sg.set i (some d)) h1) N T := rfl
@[simp ↓] theorem w_ret {m sg h} {N : Sg → Mh → Prop} {T : D → Mh → Prop} {z : Tg N} {y : Tg T} : RS.wp (sRet m sg h) N T z y = RS.wp ((m sg h).th sg fun d h1 => .rt d h1) N T := rfl
@[simp ↓] theorem w_if {c m n sg h} {N : Sg → Mh → Prop} {T : D → Mh → Prop} {z : Tg N} {y : Tg T} : RS.wp (sIf c m n sg h) N T z y = RS.wp ((c sg h).th sg fun b h1 => if b = true then m sg h1 else n sg h1) N T := rfl
@[simp ↓] theorem w_next {sg h} {N : Sg → Mh → Prop} {T : D → Mh → Prop} {z : Tg N} {y : Tg T} : RS.wp (sNext sg h) N T z y = RS.wp (.nx sg h) N T := rfl
@[simp ↓] theorem w_nil {sg h} {P} {z : Tg P} : R.wp (mNil sg h) P z = R.wp (.ok [] h) P := rfl
@[simp ↓] theorem w_cons {m r sg h} {P} {z : Tg P} : R.wp (mCons m r sg h) P z = R.wp ((m sg h).bind fun d h1 => (r sg h1).bind fun ds h2 => .ok (d :: ds) h2) P := rfl
@[simp ↓] theorem w_bi {f ml sg h} {P} {z : Tg P} : R.wp (mBi f ml sg h) P z = R.wp ((ml sg h).bind f) P := rfl
@[simp ↓] theorem w_put {f mo mi mv sg h} {N : Sg → Mh → Prop} {T : D → Mh → Prop} {z : Tg N} {y : Tg T} : RS.wp (sPut f mo mi mv sg h) N T z y = RS.wp ((mv sg h).th sg fun v h1 => (mo sg h1).th sg fun x h2 => (mi sg h2).th sg fun k h3 => toRS sg (f x k v h3)) N T := rfl
@[simp ↓] theorem w_call {np fm ml dds sg h} {P} {z : Tg P} : R.wp (mCall np fm ml dds sg h) P z = R.wp ((ml sg h).bind fun ds h1 => if (ds ++ dds).length = np then fm (ds ++ dds) h1 else .bad) P := rfl
@[simp ↓] theorem w_andT {m n sg h} {P} {z : Tg P} : R.wp (mAndT m n sg h) P z = R.wp ((m sg h).bind fun b h1 => if b = true then n sg h1 else .ok false h1) P := rfl
@[simp ↓] theorem w_orT {m n sg h} {P} {z : Tg P} : R.wp (mOrT m n sg h) P z = R.wp ((m sg h).bind fun b h1 => if b = true then .ok true h1 else n sg h1) P := rfl
@[simp ↓] theorem w_notT {m sg h} {P} {z : Tg P} : R.wp (mNotT m sg h) P z = R.wp ((m sg h).bind fun b h1 => .ok (!b) h1) P := rfl
@[simp ↓] theorem w_tru {m sg h} {P} {z : Tg P} : R.wp (mTru m sg h) P z = R.wp ((m sg h).bind dTru) P := rfl
@[simp ↓] theorem w_ite {m p q sg h} {P} {z : Tg P} : R.wp (mIte m p q sg h) P z = R.wp ((m sg h).bind fun b h1 => if b = true then p sg h1 else q sg h1) P := rfl
@[simp ↓] theorem w_and {m n sg h} {P} {z : Tg P} : R.wp (mAnd m n sg h) P z = R.wp ((m sg h).bind fun d h1 => (dTru d h1).bind fun b h2 => if b = true then n sg h2 else .ok d h2) P := rfl
@[simp ↓] theorem w_or {m n sg h} {P} {z : Tg P} : R.wp (mOr m n sg h) P z = R.wp ((m sg h).bind fun d h1 => (dTru d h1).bind fun b h2 => if b = true then .ok d h2 else n sg h2) P := rfl
@[simp ↓] theorem w_not {m sg h} {P} {z : Tg P} : R.wp (mNot m sg h) P z = R.wp ((m sg h).bind fun d h1 => (dTru d h1).bind fun b h2 => .ok (.bl (!b)) h2) P := rfl
open Classical in
@[simp ↓] theorem w_tup {r sg h} {P} {z : Tg P} : R.wp (mTup r sg h) P z = R.wp (r sg h) fun ds h1 => if LenE ds.length then P (.tup ds) h1 else False := by
  rw [e_tup, wp_bind]
  cases r sg h with
  | ok ds h1 =>
    by_cases c : LenE ds.length
    · simp only [wp_ok, if_pos c, if_pos c.r]
    · simp only [wp_ok, if_neg c, if_neg (fun z => c ⟨z⟩), wp_bad]
  | exc c fs h1 => rw [wp_exc, wp_exc]
  | bad => rw [wp_bad, wp_bad]
open Classical in
@[simp ↓] theorem w_lst {r sg h} {P} {z : Tg P} : R.wp (mLst r sg h) P z = R.wp (r sg h) fun ds h1 => if LenE ds.length then P (.ref h1.length) (h1 ++ [.lst ds]) else False := by
  rw [e_lst, wp_bind]
  cases r sg h with
  | ok ds h1 =>
    by_cases c : LenE ds.length
    · simp only [wp_ok, if_pos c, if_pos c.r]
    · simp only [wp_ok, if_neg c, if_neg (fun z => c ⟨z⟩), wp_bad]
  | exc c fs h1 => rw [wp_exc, wp_exc]
  | bad => rw [wp_bad, wp_bad]
@[simp ↓] theorem w_expr {m sg h} {N : Sg → Mh → Prop} {T : D → Mh → Prop} {z : Tg N} {y : Tg T} : RS.wp (sExpr m sg h) N T z y = RS.wp ((m sg h).th sg fun _ h1 => .nx sg h1) N T := rfl
@[simp ↓] theorem w_mt {T f mo ml sg h} {P} {z : Tg P} : R.wp (mMt T f mo ml sg h) P z = R.wp ((mo sg h).bind fun x h1 => if isTy T x h1 = true then (ml sg h1).bind fun ds h2 => f x ds h2 else .bad) P := rfl
@[simp ↓] theorem w_sl {m lo hi sg h} {P} {z : Tg P} : R.wp (mSl m lo hi sg h) P z = R.wp ((m sg h).bind fun x h1 => (lo sg h1).bind fun l h2 => (hi sg h2).bind fun u h3 => dSl x l u h3) P := rfl
@[simp ↓] theorem w_part {m sg h} {P} {z : Tg P} : R.wp (mPart m sg h) P z = R.wp ((m sg h).bind fun d h1 => match d with
  | .int i => .ok (some i) h1
  | _ => .bad) P := rfl
@[simp ↓] theorem w_noP {sg h} {P} {z : Tg P} : R.wp (mNoP sg h) P z = R.wp (.ok none h) P := rfl
@[simp ↓] theorem w_chain {f g ma mb mc sg h} {P} {z : Tg P} : R.wp (mChain f g ma mb mc sg h) P z = R.wp ((ma sg h).bind fun x h1 => (mb sg h1).bind fun y h2 => (f x y h2).bind fun z h3 => match z with
  | .bl true => (mc sg h3).bind fun w h4 => g y w h4
  | .bl false => .ok (.bl false) h3
  | _ => .bad) P := rfl
@[simp ↓] theorem w_par {i j ml sg h} {N : Sg → Mh → Prop} {T : D → Mh → Prop} {z : Tg N} {y : Tg T} : RS.wp (sPar i j ml sg h) N T z y = RS.wp ((ml sg h).th sg fun ds h1 => match ds with
  | [p, q] => .nx ((sg.set i (some p)).set j (some q)) h1
  | _ => .bad) N T := rfl
@[simp ↓] theorem w_par3 {i j l ml sg h} {N : Sg → Mh → Prop} {T : D → Mh → Prop} {z : Tg N} {y : Tg T} : RS.wp (sPar3 i j l ml sg h) N T z y = RS.wp ((ml sg h).th sg fun ds h1 => match ds with
  | [p, q, r] => .nx (((sg.set i (some p)).set j (some q)).set l (some r)) h1
  | _ => .bad) N T := rfl
@[simp ↓] theorem w_asg {g m sg h} {N : Sg → Mh → Prop} {T : D → Mh → Prop} {z : Tg N} {y : Tg T} : RS.wp (sAsg g m sg h) N T z y = RS.wp ((m sg h).th sg fun d h1 => match g d sg with
  | some sg' => .nx sg' h1
  | none => .bad) N T := rfl
@[simp ↓] theorem w_for {mi g body sg h} {N : Sg → Mh → Prop} {T : D → Mh → Prop} {z : Tg N} {y : Tg T} : RS.wp (sFor mi g body sg h) N T z y = RS.wp ((mi sg h).th sg fun s h1 => forL s g body s.items 0 sg h1) N T := rfl
@[simp ↓] theorem w_lc {mi g mt me vs sg h} {P} {z : Tg P} : R.wp (mLc mi g mt me vs sg h) P z = R.wp ((mi sg h).bind fun s h1 => lcL s g mt me (wipeD sg vs) h1.length s.items 0 (h1 ++ [.lst []])) P := rfl
@[simp ↓] theorem w_iter {m sg h} {P} {z : Tg P} : R.wp (mIter m sg h) P z = R.wp ((m sg h).bind dIter) P := rfl
structure InR (j : Int) : Prop where
  r : -(2 ^ 62) ≤ j ∧ j < 2 ^ 62
theorem inR_of {j : Int} (a : -1000000000 ≤ j) (b : j ≤ 1000000000) : InR j := ⟨by omega⟩
open Classical in
@[simp ↓] theorem w_range1 {m : Sg → Mh → R D} {sg : Sg} {h : Mh} {P} {z : Tg P} : R.wp (mRange1 m sg h) P z = R.wp (m sg h) fun d h1 => match d with
  | .int j => if InR j then P (srcR 0 j.toNat) h1 else False
  | _ => False := by
  rw [e_range1, wp_bind]
  cases m sg h with
  | ok d h1 =>
    rw [wp_ok, wp_ok]
    cases d with
    | int j =>
      dsimp only
      by_cases c : InR j
      · rw [if_pos c, if_pos c.r, wp_ok]
      · rw [if_neg c, if_neg (fun z => c ⟨z⟩), wp_bad]
    | _ => exact wp_bad
  | exc c fs h1 => rw [wp_exc, wp_exc]
  | bad => rw [wp_bad, wp_bad]
@[simp ↓] theorem w_zip {ml sg h} {P} {z : Tg P} : R.wp (mZip ml sg h) P z = R.wp ((ml sg h).bind dZip) P := rfl
@[simp ↓] theorem w_dnew {sg h} {P} {z : Tg P} : R.wp (mDNew sg h) P z = R.wp (.ok (.ref h.length) (h ++ [.dk []])) P := rfl
@[simp ↓] theorem w_yes {sg h} {P} {z : Tg P} : R.wp (mYes sg h) P z = R.wp (.ok true h) P := rfl
@[simp ↓] theorem w_run {n ms ds h P} {z : Tg P} : R.wp (runF n ms ds h) P z = RS.wp (ms (startD n ds) h) (fun _ h => P .non h) P := wp_end
@[simp ↓] theorem w_toRS {sg : Sg} {o : Option Mh} {N T} {z : Tg N} {y : Tg T} : RS.wp (toRS sg o) N T z y = match o with
  | some h => N sg h
  | none => False := by
  cases o with
  | some h => exact wp_nx
  | none => exact wp_sbad
/-! ### loops -/
theorem for_wp {s : Src} {g : D → Sg → Option Sg} {body : Sg → Mh → RS} {N : Sg → Mh → Prop} {T : D → Mh → Prop} (I : Nat → Sg → Mh → Prop)
    (step : ∀ j x sg h, s.items[j]? = some x → I j sg h → s.at' j x h ∧ ∃ sg1, g x sg = some sg1 ∧ (body sg1 h).wp (I (j + 1)) T)
    (fin : ∀ sg h, I s.items.length sg h → s.fin s.items.length h ∧ N sg h) :
    ∀ (k i : Nat) (sg : Sg) (h : Mh), k + i = s.items.length → I i sg h → (forL s g body (s.items.drop i) i sg h).wp N T
  | 0, i, sg, h, e, hi => by
    have e : i = s.items.length := by omega
    subst e
    rw [List.drop_length]
    unfold forL
    obtain ⟨f, n⟩ := fin sg h hi
    rw [if_pos f, wp_nx]
    exact n
  | k + 1, i, sg, h, e, hi => by
    have l : i < s.items.length := by omega
    rw [List.drop_eq_getElem_cons l]
    obtain ⟨a, sg1, e1, w⟩ := step i _ sg h (List.getElem?_eq_getElem l) hi
    unfold forL
    rw [if_pos a, e1]
    show RS.wp (match body sg1 h with
      | .nx sg' h' => forL s g body _ (i + 1) sg' h'
      | .ct sg' h' => forL s g body _ (i + 1) sg' h'
      | .bk sg' h' => .nx sg' h'
      | r => r) N T
    cases w with
    | nx sg' h' e p => rw [e]; exact for_wp I step fin k (i + 1) _ _ (by omega) p
    | rt d h' e p => rw [e]; exact .rt _ _ rfl p
theorem loop {s : Src} {g : D → Sg → Option Sg} {body : Sg → Mh → RS} {N : Sg → Mh → Prop} {T : D → Mh → Prop} {z y} {sg : Sg} {h : Mh} {items : List D} (I : Nat → Sg → Mh → Prop) (h0 : I 0 sg h)
    (step : ∀ j x sg h, items[j]? = some x → I j sg h → s.at' j x h ∧ ∃ sg1, g x sg = some sg1 ∧ (body sg1 h).wp (I (j + 1)) T)
    (fin : ∀ sg h, I items.length sg h → s.fin items.length h ∧ N sg h) (hi : items = s.items := by simp) : (forL s g body items 0 sg h).wp N T z y := by
  subst hi
  exact for_wp I step fin s.items.length 0 sg h rfl h0
theorem lc_wp {s : Src} {g : D → Sg → Option Sg} {mt : Sg → Mh → R Bool} {me : Sg → Mh → R D} {sg : Sg} {n : Nat} {P : D → Mh → Prop} (I : Nat → List D → Mh → Prop)
    (step : ∀ j x acc h, s.items[j]? = some x → I j acc h → h[n]? = some (.lst acc) → s.at' j x h ∧ ∃ sg1, g x sg = some sg1 ∧ (mt sg1 h).wp fun b h1 => if b = true then (me sg1 h1).wp fun y h2 => h2[n]? = some (.lst acc) ∧ acc.length < sizeLine ∧ I (j + 1) (acc ++ [y]) (h2.set n (.lst (acc ++ [y]))) else h1[n]? = some (.lst acc) ∧ I (j + 1) acc h1)
    (fin : ∀ acc h, I s.items.length acc h → h[n]? = some (.lst acc) → s.fin s.items.length h ∧ P (.ref n) h) :
    ∀ (k i : Nat) (acc : List D) (h : Mh), k + i = s.items.length → I i acc h → h[n]? = some (.lst acc) → (lcL s g mt me sg n (s.items.drop i) i h).wp P
  | 0, i, acc, h, e, hi, hn => by
    have e : i = s.items.length := by omega
    subst e
    rw [List.drop_length]
    unfold lcL
    obtain ⟨f, p⟩ := fin acc h hi hn
    rw [if_pos f, wp_ok]
    exact p
  | k + 1, i, acc, h, e, hi, hn => by
    have l : i < s.items.length := by omega
    rw [List.drop_eq_getElem_cons l]
    obtain ⟨a, sg1, e1, w⟩ := step i _ acc h (List.getElem?_eq_getElem l) hi hn
    unfold lcL
    rw [if_pos a, e1]
    show R.wp ((mt sg1 h).nox.bind _) P
    rw [wp_bind, wp_nox]
    refine w.mono fun b h1 w1 => ?_
    cases b with
    | false =>
      rw [if_neg (by simp)] at w1 ⊢
      exact lc_wp I step fin k (i + 1) acc h1 (by omega) w1.2 w1.1
    | true =>
      rw [if_pos rfl] at w1 ⊢
      rw [wp_bind, wp_nox]
      refine w1.mono fun y h2 ⟨q1, q2, q3⟩ => ?_
      simp only [q1]
      rw [if_pos q2]
      have l2 : n < h2.length := (List.getElem?_eq_some_iff.mp q1).1
      exact lc_wp I step fin k (i + 1) _ _ (by omega) q3 (List.getElem?_set_self l2)
/-! ### frames -/
structure Ex (h h' : Mh) : Prop where
  len : h.length ≤ h'.length
  old : ∀ n, n < h.length → h'[n]? = h[n]?
theorem Ex.rfl {h : Mh} : Ex h h := ⟨Nat.le_refl _, fun _ _ => by rfl⟩
theorem Ex.trans {h h' h'' : Mh} (a : Ex h h') (b : Ex h' h'') : Ex h h'' := ⟨Nat.le_trans a.len b.len, fun n l => (b.old n (Nat.lt_of_lt_of_le l a.len)).trans (a.old n l)⟩
theorem lt_of {h : Mh} {n : Nat} {o : MO} (e : h[n]? = some o) : n < h.length := (List.getElem?_eq_some_iff.mp e).1
theorem Ex.get {h h' : Mh} (a : Ex h h') {n : Nat} {o : MO} (e : h[n]? = some o) : h'[n]? = some o := (a.old n (lt_of e)).trans e
theorem Ex.app {h t : Mh} : Ex h (h ++ t) := ⟨by simp, fun n l => List.getElem?_append_left l⟩
theorem Ex.put {h h' : Mh} {n : Nat} {o : MO} (a : Ex h h') (l : h.length ≤ n) : Ex h (h'.set n o) := ⟨by simpa using a.len, fun m lm => (List.getElem?_set_ne (by omega)).trans (a.old m lm)⟩
structure Gr (b : Nat) (h h' : Mh) : Prop where
  len : h.length ≤ h'.length
  old : ∀ n, n < h.length → n ≠ b → h'[n]? = h[n]?
theorem Gr.rfl {b : Nat} {h : Mh} : Gr b h h := ⟨Nat.le_refl _, fun _ _ _ => by rfl⟩
theorem Gr.trans {b : Nat} {h h' h'' : Mh} (a : Gr b h h') (c : Gr b h' h'') : Gr b h h'' := ⟨Nat.le_trans a.len c.len, fun n l z => (c.old n (Nat.lt_of_lt_of_le l a.len) z).trans (a.old n l z)⟩
theorem Ex.gr {b : Nat} {h h' : Mh} (a : Ex h h') : Gr b h h' := ⟨a.len, fun n l _ => a.old n l⟩
theorem Gr.get {b : Nat} {h h' : Mh} (a : Gr b h h') {n : Nat} {o : MO} (z : n ≠ b) (e : h[n]? = some o) : h'[n]? = some o := (a.old n (lt_of e) z).trans e
theorem Gr.app {b : Nat} {h t : Mh} : Gr b h (h ++ t) := Ex.app.gr
theorem Gr.put {b : Nat} {h h' : Mh} {n : Nat} {o : MO} (a : Gr b h h') (l : h.length ≤ n ∨ n = b) : Gr b h (h'.set n o) := ⟨by simpa using a.len, fun m lm z => (List.getElem?_set_ne (by omega)).trans (a.old m lm z)⟩
theorem at_end {h : Mh} {o : MO} : (h ++ [o])[h.length]? = some o := by simp
/-- a comprehension that changes nothing else -/
theorem lc_pure {s : Src} {g : D → Sg → Option Sg} {mt : Sg → Mh → R Bool} {me : Sg → Mh → R D} {sg : Sg} {h : Mh} (p : D → Bool) (F : D → D) {items : List D} (hl : items.length ≤ sizeLine)
    (hx : ∀ j x acc, items[j]? = some x → s.at' j x (h ++ [.lst acc]) ∧ ∃ sg1, g x sg = some sg1 ∧ mt sg1 (h ++ [.lst acc]) = .ok (p x) (h ++ [.lst acc]) ∧ (p x = true → me sg1 (h ++ [.lst acc]) = .ok (F x) (h ++ [.lst acc])))
    (fin : ∀ acc, s.fin items.length (h ++ [.lst acc])) (hi : items = s.items := by simp) : lcL s g mt me sg h.length items 0 (h ++ [.lst []]) = .ok (.ref h.length) (h ++ [.lst ((items.filter p).map F)]) := by
  subst hi
  have key : (lcL s g mt me sg h.length (s.items.drop 0) 0 (h ++ [.lst []])).wp fun d h' => d = .ref h.length ∧ h' = h ++ [.lst ((s.items.filter p).map F)] := by
    refine lc_wp (fun j acc h' => acc = ((s.items.take j).filter p).map F ∧ h' = h ++ [.lst acc]) (fun j x acc h' e ⟨ea, eh⟩ hn => ?_) (fun acc h' ⟨ea, eh⟩ hn => ?_) s.items.length 0 [] _ (by simp) (by simp) at_end
    · subst eh
      obtain ⟨a, sg1, e1, e2, e3⟩ := hx j x acc e
      have lj : j < s.items.length := (List.getElem?_eq_some_iff.mp e).1
      have tk : s.items.take (j + 1) = s.items.take j ++ [x] := by rw [List.take_add_one, e]; rfl
      refine ⟨a, sg1, e1, wp_of e2 ?_⟩
      cases hp : p x with
      | false => rw [if_neg (by simp)]; exact ⟨hn, by rw [tk, List.filter_append, List.map_append, ← ea]; simp [hp], by rfl⟩
      | true =>
        rw [if_pos rfl]
        refine wp_of (e3 hp) ⟨hn, ?_, ?_, ?_⟩
        · rw [ea]
          have := List.length_filter_le p (s.items.take j)
          have : (s.items.take j).length ≤ j := by simp; omega
          rw [List.length_map]; omega
        · rw [tk, List.filter_append, List.map_append, ← ea]; simp [hp]
        · rw [List.set_append_right _ _ (Nat.le_refl _)]; simp
    · exact ⟨by rw [eh]; exact fin acc, by rfl, by rw [eh, ea, List.take_length]⟩
  obtain ⟨d, h', e, rfl, rfl⟩ := key.out
  exact e
theorem lc_map {s : Src} {g : D → Sg → Option Sg} {me : Sg → Mh → R D} {sg : Sg} {h : Mh} (F : D → D) {items : List D} (hl : items.length ≤ sizeLine)
    (hx : ∀ j x acc, items[j]? = some x → s.at' j x (h ++ [.lst acc]) ∧ ∃ sg1, g x sg = some sg1 ∧ me sg1 (h ++ [.lst acc]) = .ok (F x) (h ++ [.lst acc]))
    (fin : ∀ acc, s.fin items.length (h ++ [.lst acc])) (hi : items = s.items := by simp) : lcL s g mYes me sg h.length items 0 (h ++ [.lst []]) = .ok (.ref h.length) (h ++ [.lst (items.map F)]) := by
  have := lc_pure (mt := mYes) (fun _ => true) F hl (fun j x acc e => ⟨(hx j x acc e).1, (hx j x acc e).2.choose, (hx j x acc e).2.choose_spec.1, by rfl, fun _ => (hx j x acc e).2.choose_spec.2⟩) fin hi
  rw [List.filter_eq_self.mpr (fun _ _ => by rfl)] at this
  exact this
/-! ### arithmetic under its conditions -/
structure ModC (y : Int) : Prop where
  r : 0 < y
structure FdC (y : Int) : Prop where
  r : 0 < y ∧ y < 18446744073709551616
structure MulC (x y : Int) : Prop where
  r : (-18446744073709551616 < y ∧ y < 18446744073709551616) ∨ (-18446744073709551616 < x ∧ x < 18446744073709551616)
structure PowC (x y : Int) : Prop where
  r : 0 ≤ y ∧ y ≤ 1000000 ∧ x.natAbs < 1267650600228229401496703205376
structure ShlC (x y : Int) : Prop where
  r : 0 ≤ y ∧ y ≤ 1000000 ∧ x.natAbs < 18446744073709551616
@[simp] theorem modC {y : Int} (h : 0 < y) : ModC y := ⟨h⟩
@[simp] theorem fdC {y : Int} (h : 0 < y) (h' : y < 18446744073709551616) : FdC y := ⟨h, h'⟩
@[simp] theorem mulC_r {x y : Int} (h : -18446744073709551616 < y) (h' : y < 18446744073709551616) : MulC x y := ⟨.inl ⟨h, h'⟩⟩
@[simp] theorem mulC_l {x y : Int} (h : -18446744073709551616 < x) (h' : x < 18446744073709551616) : MulC x y := ⟨.inr ⟨h, h'⟩⟩
@[simp] theorem powC {x y : Int} (h : 0 ≤ y) (h' : y ≤ 1000000) (h'' : x.natAbs < 1267650600228229401496703205376) : PowC x y := ⟨h, h', h''⟩
@[simp] theorem shlC {x y : Int} (h : 0 ≤ y) (h' : y ≤ 1000000) (h'' : x.natAbs < 18446744073709551616) : ShlC x y := ⟨h, h', h''⟩
open Classical in
@[simp] theorem mod_if {x y h} : dMod (.int x) (.int y) h = if ModC y then .ok (.int (x % y)) h else .bad := by
  by_cases c : ModC y
  · rw [mod_ii c.r, if_pos c]
  · rw [if_neg c]; exact if_neg (by simpa using fun z => c ⟨z⟩)
open Classical in
@[simp] theorem fdiv_if {x y h} : dFdiv (.int x) (.int y) h = if FdC y then .ok (.int (x / y)) h else .bad := by
  by_cases c : FdC y
  · rw [fdiv_ii c.r.1 c.r.2, if_pos c]
  · rw [if_neg c]; exact if_neg (fun z => c ⟨of_decide_eq_true z⟩)
open Classical in
@[simp] theorem mul_if {x y h} : dMul (.int x) (.int y) h = if MulC x y then .ok (.int (x * y)) h else .bad := by
  by_cases c : MulC x y
  · rw [if_pos c]
    rcases c.r with c | c
    · exact mul_ii (cMul_r c.1 c.2)
    · exact mul_ii (cMul_l c.1 c.2)
  · rw [if_neg c]; exact if_neg (fun z => c ⟨by simp only [cMul, decide_eq_true_eq] at z; omega⟩)
open Classical in
@[simp] theorem pow_if {x y h} : dPow (.int x) (.int y) h = if PowC x y then .ok (.int (x ^ y.toNat)) h else .bad := by
  by_cases c : PowC x y
  · rw [if_pos c]; exact pow_ii c.r.1 c.r.2.1 c.r.2.2
  · rw [if_neg c]; exact if_neg (fun z => c ⟨by simp only [cPowW, decide_eq_true_eq] at z; omega⟩)
open Classical in
@[simp] theorem shl_if {x y h} : dShl (.int x) (.int y) h = if ShlC x y then .ok (.int (x * 2 ^ y.toNat)) h else .bad := by
  by_cases c : ShlC x y
  · rw [if_pos c]; exact shl_ii c.r.1 c.r.2.1 c.r.2.2
  · rw [if_neg c]; exact if_neg (fun z => c ⟨by simp only [cPow, decide_eq_true_eq] at z; omega⟩)
/-! ### lookups -/
@[simp] theorem l_ix {n : Nat} {i : Int} {h : Mh} : dIx (.ref n) (.int i) h = match h[n]? with
    | some (.lst ds) => match atI ds i with
      | some d => .ok d h
      | none => .bad
    | some (.fls ds) => match atI ds i with
      | some d => .ok d h
      | none => .bad
    | _ => .bad := rfl
@[simp] theorem l_len {n : Nat} {h : Mh} : dLen [.ref n] h = match h[n]? with
    | some (.lst xs) => .ok (.int (xs.length : Nat)) h
    | some (.fls xs) => .ok (.int (xs.length : Nat)) h
    | some (.dk kvs) => .ok (.int (kvs.length : Nat)) h
    | some (.dt kvs) => .ok (.int (kvs.length : Nat)) h
    | _ => .bad := rfl
@[simp] theorem l_get {n : Nat} {k : D} {h : Mh} : dGet (.ref n) k h = match h[n]? with
    | some o => match lookD o k with
      | some (some d) => .ok d h
      | _ => .bad
    | none => .bad := rfl
@[simp] theorem l_din {n : Nat} {k : D} {h : Mh} {neg : Bool} : dDIn neg k (.ref n) h = match h[n]? with
    | some o => match lookD o k with
      | some r => .ok (.bl (if neg then !r.isSome else r.isSome)) h
      | none => .bad
    | none => .bad := rfl
@[simp] theorem look_dk {kvs : List (Key × D)} {k : D} : lookD (.dk kvs) k = (keyD k).map (valD kvs) := rfl
@[simp] theorem look_zk {kvs : List (Key × D)} {k : D} : lookD (.zk kvs) k = (keyD k).map (valD kvs) := rfl
@[simp] theorem look_dt {kvs : List (List Key × D)} {k : D} : lookD (.dt kvs) k = (keyT k).map (valD kvs) := rfl
@[simp] theorem look_zt {kvs : List (List Key × D)} {k : D} : lookD (.zt kvs) k = (keyT k).map (valD kvs) := rfl
@[simp] theorem l_putL {n : Nat} {z : Int} {v : D} {h : Mh} : dPutL (.ref n) (.int z) v h = match h[n]? with
    | some (.lst xs) => (ixN xs.length z).map fun j => h.set n (.lst (xs.set j v))
    | _ => none := rfl
@[simp] theorem l_putD {n : Nat} {k v : D} {h : Mh} : dPutD (.ref n) k v h = match h[n]? with
    | some o => (storeD o k v).map fun u => h.set n u
    | none => none := rfl
open Classical in
@[simp] theorem store_dk {kvs : List (Key × D)} {k v : D} : storeD (.dk kvs) k v = match keyD k with
    | some key => if LenC kvs.length then some (.dk (putD kvs key v)) else none
    | none => none := by
  unfold storeD
  dsimp only
  cases keyD k with
  | none => rfl
  | some key =>
    dsimp only
    by_cases c : LenC kvs.length
    · rw [if_pos c, if_pos c.r]
    · rw [if_neg c, if_neg (fun z => c ⟨z⟩)]
open Classical in
@[simp] theorem store_dt {kvs : List (List Key × D)} {k v : D} : storeD (.dt kvs) k v = match keyT k with
    | some key => if LenC kvs.length then some (.dt (putD kvs key v)) else none
    | none => none := by
  unfold storeD
  dsimp only
  cases keyT k with
  | none => rfl
  | some key =>
    dsimp only
    by_cases c : LenC kvs.length
    · rw [if_pos c, if_pos c.r]
    · rw [if_neg c, if_neg (fun z => c ⟨z⟩)]
@[simp] theorem l_iter {n : Nat} {h : Mh} : dIter (.ref n) h = match h[n]? with
    | some (.lst ds) => .ok (srcL n ds) h
    | some (.fls ds) => .ok (srcL n ds) h
    | some (.zk kvs) => .ok (srcT (kvs.map fun kv => dKey kv.1)) h
    | some (.zt kvs) => .ok (srcT (kvs.map fun kv => .tup (kv.1.map dKey))) h
    | _ => .bad := rfl
open Classical in
@[simp] theorem l_app {n : Nat} {y : D} {h : Mh} : dAppend (.ref n) [y] h = match h[n]? with
    | some (.lst xs) => if LenC xs.length then .ok .non (h.set n (.lst (xs ++ [y]))) else .bad
    | _ => .bad := by
  unfold dAppend
  dsimp only
  cases h[n]? with
  | none => rfl
  | some o =>
    cases o with
    | lst xs =>
      dsimp only
      by_cases c : LenC xs.length
      · rw [if_pos c, if_pos c.r]
      · rw [if_neg c, if_neg (fun z => c ⟨z⟩)]
    | _ => rfl
open Classical in
@[simp] theorem l_lenS {x : Str} {h : Mh} : dLen [.str x] h = if LenE x.length then .ok (.int (x.length : Nat)) h else .bad := by
  by_cases c : LenE x.length
  · rw [if_pos c]; exact if_pos c.r
  · rw [if_neg c]; exact if_neg fun z => c ⟨z⟩
open Classical in
@[simp] theorem l_ixS {x : Str} {i : Int} {h : Mh} : dIx (.str x) (.int i) h = if LenE x.length then match atI x.cps.toList i with
    | some c => .ok (.str ⟨#[c]⟩) h
    | none => .bad else .bad := by
  by_cases c : LenE x.length
  · rw [if_pos c]; exact if_pos c.r
  · rw [if_neg c]; exact if_neg fun z => c ⟨z⟩
open Classical in
@[simp] theorem l_slS {x : Str} {lo hi : Option Int} {h : Mh} : dSl (.str x) lo hi h = if LenE x.length then .ok (.str (cutS x lo hi)) h else .bad := by
  by_cases c : LenE x.length
  · rw [if_pos c]; exact if_pos c.r
  · rw [if_neg c]; exact if_neg fun z => c ⟨z⟩
@[simp] theorem l_isTy {T : String} {n : Nat} {h : Mh} : isTy T (.ref n) h = match h[n]? with
    | some (.lst _) => T == "list"
    | some (.fls _) => T == "list"
    | some (.dk _) => T == "dict"
    | _ => false := rfl
@[simp] theorem key_s {x : Str} : keyD (.str x) = some (.inr x) := rfl
@[simp] theorem l_sl {n : Nat} {lo hi : Option Int} {h : Mh} : dSl (.ref n) lo hi h = match h[n]? with
    | some (.lst ds) => .ok (.ref h.length) (h ++ [.lst (cutD ds lo hi)])
    | some (.fls ds) => .ok (.ref h.length) (h ++ [.lst (cutD ds lo hi)])
    | _ => .bad := rfl
@[simp] theorem l_zip {n m : Nat} {h : Mh} : dZip [.ref n, .ref m] h = match lstOf h n, lstOf h m with
    | some xs, some ys => .ok (srcZ n m xs ys) h
    | _, _ => .bad := rfl
@[simp] theorem l_lstOf {n : Nat} {h : Mh} : lstOf h n = match h[n]? with
    | some (.lst ds) => some ds
    | some (.fls ds) => some ds
    | _ => none := rfl
@[simp] theorem l_list {n : Nat} {h : Mh} : dList [.ref n] h = match lstOf h n with
    | some xs => .ok (.ref h.length) (h ++ [.lst xs])
    | none => .bad := rfl
@[simp] theorem srcL_items {n ds} : (srcL n ds).items = ds := rfl
@[simp] theorem srcT_items {ds} : (srcT ds).items = ds := rfl
@[simp] theorem srcT_at {ds i x h} : (srcT ds).at' i x h = True := rfl
@[simp] theorem srcT_fin {ds i h} : (srcT ds).fin i h = True := rfl
@[simp] theorem srcR_items {lo n} : (srcR lo n).items = (List.range n).map fun k : Nat => .int (lo + (k : Int)) := rfl
@[simp] theorem srcR_at {lo n i x h} : (srcR lo n).at' i x h = True := rfl
@[simp] theorem srcR_fin {lo n i h} : (srcR lo n).fin i h = True := rfl
@[simp] theorem g_nm {i d sg} : gNm i d sg = some (sg.set i (some d)) := rfl
@[simp] theorem g_two {i j : Nat} {a b : D} {sg : Sg} : gTp 2 (gsCons (gNm i) (gsCons (gNm j) gsNil)) (.tup [a, b]) sg = some ((sg.set i (some a)).set j (some b)) := rfl
@[simp] theorem g_three {i j k : Nat} {a b c : D} {sg : Sg} : gTp 3 (gsCons (gNm i) (gsCons (gNm j) (gsCons (gNm k) gsNil))) (.tup [a, b, c]) sg = some (((sg.set i (some a)).set j (some b)).set k (some c)) := rfl
theorem srcL_at {n ds i x h} (e : h[n]? = some (.lst ds)) (q : ds[i]? = some x) : (srcL n ds).at' i x h := ⟨ds, .inl e, q⟩
theorem srcL_fin {n ds h} (e : h[n]? = some (.lst ds)) : (srcL n ds).fin ds.length h := ⟨ds, .inl e, Nat.le_refl _⟩
end Mo

namespace Mo
open PySem PySem.Spec PyProof.Rows L2
section
variable {X : Cx} {W : WX} {a b c e f : Expr} {es : List Expr} {ma mb mc me mf : Sg → Mh → R D} {pos apos : Pos}
/-! ### d.get(k, x) -/
def isDk (d : D) (h : Mh) : Bool := match d with
  | .ref n => match h[n]? with
    | some (.dk _) => true
    | some (.dt _) => true
    | some (.zk _) => true
    | some (.zt _) => true
    | _ => false
  | _ => false
theorem isDk_of {K mg ρ H h} {v : V} {d : D} (rh : RHp K mg ρ H h) (r : RV K mg ρ H v d) (e : isDk d h = true) : ∃ a, v = .ref a ∧ IsD H a := by
  unfold isDk at e
  split at e
  · cases r with
    | ref r =>
      refine ⟨_, rfl, ?_⟩
      split at e
      · rename_i e0; cases rh.at r e0 with
        | dk h1 _ _ => exact .inl ⟨_, .inl h1⟩
      · rename_i e0; cases rh.at r e0 with
        | dt h1 _ _ => exact .inr ⟨_, .inl h1⟩
      · rename_i e0; cases rh.at r e0 with
        | zk h1 _ _ => exact .inl ⟨_, .inr ⟨_, h1⟩⟩
      · rename_i e0; cases rh.at r e0 with
        | zt h1 _ _ => exact .inr ⟨_, .inr ⟨_, h1⟩⟩
      · cases e
  · cases e
def dGetOr (x k z : D) (h : Mh) : R D := match x with
  | .ref n => match h[n]? with
    | some o => match lookD o k with
      | some (some d) => .ok d h
      | some none => .ok z h
      | none => .bad
    | none => .bad
  | _ => .bad
def mGet2 (ma me mf : Sg → Mh → R D) : Sg → Mh → R D := fun sg h => (ma sg h).bind fun x h1 => if isDk x h1 = true then (me sg h1).bind fun k h2 => (mf sg h2).bind fun z h3 => dGetOr x k z h3 else .bad
theorem q_get2 (hu : X.A.units + 1 < cLine) (ha : PM X W a ma) (he : PM X W e me) (hf : PM X W f mf) (m : M2 X a "get" apos e f pos := by exact ⟨rfl, rfl, rfl, rfl⟩) : PM X W (.Call (.Attribute a "get" apos) [e, f] [] pos) (mGet2 ma me mf) :=
  ⟨PEimp (pe_dget2 hu ha.pe he.pe hf.pe m) fun σ H Q ⟨ρ, sg, h, hst, rh, w⟩ => TM.go hst rh w fun ρ1 H1 h1 v d le rh1 rv w1 => by
    split at w1
    · rename_i hd
      obtain ⟨ad, ev, isd⟩ := isDk_of rh1 rv hd
      refine ⟨ad, ev, isd, TM.go (hst.mono le) rh1 w1 fun ρ2 H2 h2 v2 d2 le2 rh2 rv2 w2 => TM.go ((hst.mono le).mono le2) rh2 w2 fun ρ3 H3 h3 v3 d3 le3 rh3 rv3 w3 => ?_⟩
      unfold dGetOr at w3
      split at w3
      · have r := rv.mono (le2.trans le3)
        rw [ev] at r
        cases r with
        | ref r =>
          split at w3
          · rename_i o e0
            split at w3
            · rename_i d' ed
              obtain ⟨r', g, z⟩ := look_of (rh3.at r e0) (rv2.mono le3) ed
              obtain ⟨v', hv, rz⟩ := rk_some z
              subst hv
              exact ⟨_, g, w3.okI Le.refl rh3 rz⟩
            · rename_i ed
              obtain ⟨r', g, z⟩ := look_of (rh3.at r e0) (rv2.mono le3) ed
              cases z
              exact ⟨_, g, w3.okI Le.refl rh3 rv3⟩
            · exact w3.elim
          · exact w3.elim
      · exact w3.elim
    · exact w1.elim⟩
/-! ### a dict is locked while it is walked -/
def lockO : MO → Option MO
  | .dk kvs => some (.zk kvs)
  | .dt kvs => some (.zt kvs)
  | _ => none
def isZ : Option MO → Bool
  | some (.zk _) => true
  | some (.zt _) => true
  | _ => false
def mLk (at' : Sg → Mh → Option Nat) (m : Sg → Mh → R D) : Sg → Mh → R D := fun sg h => match at' sg h with
  | some n => match h[n]? with
    | some o => match lockO o with
      | some z => (m sg (h.set n z)).nox.bind fun d h' => if isZ h'[n]? = true then .ok d (h'.set n o) else .bad
      | none => .bad
    | none => .bad
  | none => .bad
def atVar (i : Nat) : Sg → Mh → Option Nat := fun sg _ => match sg[i]? with
  | some (some (.ref n)) => some n
  | _ => none
/-- what locking and unlocking do -/
theorem lock_at {K mg} {ρ : Ren} {H : Hp} {h : Mh} {n : Nat} {o z : MO} (rh : RHp K mg ρ H h) (e0 : h[n]? = some o) (ez : lockO o = some z) : ∃ (d : Addr) (u : HO), ρ[n]? = some d ∧ H d = some u ∧ Mut (some u) ∧ ∀ od, Le K ρ H ρ (upd H d (.frz od u)) ∧ RHp K mg ρ (upd H d (.frz od u)) (h.set n z) ∧
    ∀ ρ' H' h', Le K ρ (upd H d (.frz od u)) ρ' H' → RHp K mg ρ' H' h' → isZ h'[n]? = true → H' d = some (.frz od u) ∧ Lw K ρ' H' ρ' (upd H' d u) ∧ RHp K mg ρ' (upd H' d u) (h'.set n o) ∧ Le K ρ H ρ' (upd H' d u) := by
  have hl : n < ρ.length := by rw [rh.len]; exact (List.getElem?_eq_some_iff.mp e0).1
  obtain ⟨d, hd⟩ : ∃ d, ρ[n]? = some d := ⟨_, List.getElem?_eq_getElem hl⟩
  have ro := rh.at hd e0
  have fin : ∀ (u : HO) (od : Obj), H d = some u → notTup u → notTupW (.frz od u) → ∀ ρ' H' h', Le K ρ (upd H d (.frz od u)) ρ' H' → RHp K mg ρ' H' h' → isZ h'[n]? = true → o.mu = true → (RVsOk : (Lw K ρ H ρ' (upd H' d u) → RO K mg ρ' (upd H' d u) d o)) →
      H' d = some (.frz od u) ∧ Lw K ρ' H' ρ' (upd H' d u) ∧ RHp K mg ρ' (upd H' d u) (h'.set n o) ∧ Le K ρ H ρ' (upd H' d u) := by
    intro u od hu nt ntw ρ' H' h' le' rh' hz mo hro
    have f1 : H' d = some (.frz od u) := le'.frz d od u upd_same
    have lw1 : Lw K ρ' H' ρ' (upd H' d u) := Lw.write f1 ntw
    have lw0 : Lw K ρ H ρ (upd H d (.frz od u)) := Lw.write hu nt.w
    have lw : Lw K ρ H ρ' (upd H' d u) := ⟨fun m x q => le'.pre m x q, fun x vs q => lw1.tup x vs (le'.tup x vs (lw0.tup x vs q)), fun x vs q => lw1.tpl x vs (le'.tpl x vs (lw0.tpl x vs q))⟩
    obtain ⟨y, ey, my⟩ : ∃ y, h'[n]? = some y ∧ y.mu = true := by
      unfold isZ at hz
      split at hz
      · exact ⟨_, by assumption, rfl⟩
      · exact ⟨_, by assumption, rfl⟩
      · cases hz
    refine ⟨f1, lw1, rh'.write (le'.pre _ _ hd) ey my mo f1 ntw (hro lw), ⟨lw.pre, lw.tup, lw.tpl, fun x o1 u1 q => ?_⟩⟩
    have ne : x ≠ d := fun z => by rw [z, hu] at q; cases q; exact nt
    rw [upd_ne ne]
    exact le'.frz x o1 u1 (by rw [upd_ne ne]; exact q)
  cases o with
  | dk kds =>
    cases ez
    cases ro with
    | @dk kvs _ hd' ke q =>
      refine ⟨d, _, hd, hd', trivial, fun od => ?_⟩
      have le : Le K ρ H ρ (upd H d (.frz od (.dK kvs))) := Le.write hd' trivial
      exact ⟨le, rh.write hd e0 rfl rfl hd' trivial (.zk upd_same ke (q.mono le)), fun ρ' H' h' le' rh' hz => fin _ od hd' trivial trivial ρ' H' h' le' rh' hz rfl fun lw => .dk upd_same ke (q.monoW lw)⟩
  | dt kds =>
    cases ez
    cases ro with
    | @dt kvs _ hd' ke q =>
      refine ⟨d, _, hd, hd', trivial, fun od => ?_⟩
      have le : Le K ρ H ρ (upd H d (.frz od (.dT kvs))) := Le.write hd' trivial
      exact ⟨le, rh.write hd e0 rfl rfl hd' trivial (.zt upd_same ke (q.mono le)), fun ρ' H' h' le' rh' hz => fin _ od hd' trivial trivial ρ' H' h' le' rh' hz rfl fun lw => .dt upd_same ke (q.monoW lw)⟩
  | _ => cases ez
theorem RV.unW {K mg ρ H H'} {v : V} {d : D} (lw : Lw K ρ H ρ H') (r : RV K mg ρ H v d) : RV K mg ρ H' v d := r.monoW lw
theorem q_lk (at' : Sg → Mh → Option Nat) (ha : PM X W a ma) : PM X W a (mLk at' ma) := ⟨PEimp (pe_lock ha.pe) fun σ H Q ⟨ρ, sg, h, hs, rh, w⟩ => by
  unfold mLk at w
  split at w
  · split at w
    · rename_i o e0
      split at w
      · rename_i z ez
        obtain ⟨d, u, hd, hu, mu, key⟩ := lock_at rh e0 ez
        refine ⟨d, u, hu, mu, fun od => ?_⟩
        obtain ⟨le, rhz, k2⟩ := key od
        refine ⟨ρ, sg, _, hs.mono le, rhz, ?_⟩
        cases em : ma sg (h.set _ z) with
        | bad => rw [em] at w; exact w.elim
        | exc c fs h' => rw [em] at w; exact w.elim
        | ok x h' =>
          rw [em] at w
          show WG _ _ _ _ _ _ _ _ (R.ok x h')
          intro ρ' H' v le' rh' rv
          have w' : WG X.K X.mg (RV X.K X.mg) W σ Q ρ H (if isZ h'[_]? = true then R.ok x (h'.set _ o) else .bad) := w
          split at w'
          · rename_i hz
            obtain ⟨f1, lw1, rh2, le2⟩ := k2 ρ' H' h' le' rh' hz
            exact ⟨f1, w' ρ' _ v le2 rh2 (rv.monoW lw1)⟩
          · exact w'.elim
      · exact w.elim
    · exact w.elim
  · exact w.elim⟩
def sLk (at' : Sg → Mh → Option Nat) (m : Sg → Mh → RS) : Sg → Mh → RS := fun sg h => match at' sg h with
  | some n => match h[n]? with
    | some o => match lockO o with
      | some z => match m sg (h.set n z) with
        | .nx sg' h' => if isZ h'[n]? = true then .nx sg' (h'.set n o) else .bad
        | .rt d h' => if isZ h'[n]? = true then .rt d (h'.set n o) else .bad
        | .bk sg' h' => if isZ h'[n]? = true then .bk sg' (h'.set n o) else .bad
        | .ct sg' h' => if isZ h'[n]? = true then .ct sg' (h'.set n o) else .bad
        | _ => .bad
      | none => .bad
    | none => .bad
  | none => .bad
theorem RSt.monoW {K mg} {ρ ρ' : Ren} {H H' : Hp} {σ : L2.St} {sg : Sg} (lw : Lw K ρ H ρ' H') (r : RSt K mg ρ H σ sg) : RSt K mg ρ' H' σ sg := ⟨r.len, fun i d h => let ⟨v, e, q⟩ := r.val i d h; ⟨v, e, q.monoW lw⟩⟩
theorem s_lk (at' : Sg → Mh → Option Nat) {st : Stmt} {m : Sg → Mh → RS} (ha : PSM X W st m) : PSM X W st (sLk at' m) := ⟨PSimp (ps_lock ha.ps) fun E σ H ⟨ρ, sg, h, hs, rh, w⟩ => by
  unfold sLk at w
  split at w
  · split at w
    · rename_i o e0
      split at w
      · rename_i z ez
        obtain ⟨d, u, hd, hu, mu, key⟩ := lock_at rh e0 ez
        refine ⟨d, u, hu, mu, fun od => ?_⟩
        obtain ⟨le, rhz, k2⟩ := key od
        refine ⟨ρ, sg, _, hs.mono le, rhz, ?_⟩
        split at w <;> first
          | (rename_i em
             rw [em]
             split at w <;> first
               | (rename_i hz
                  intro ρ' H' v le' rh' rv
                  obtain ⟨f1, lw1, rh2, le2⟩ := k2 ρ' H' _ le' rh' hz
                  exact ⟨f1, w ρ' _ v le2 rh2 (rv.monoW lw1)⟩)
               | exact w.elim)
          | exact w.elim
      · exact w.elim
    · exact w.elim
  · exact w.elim⟩
/-! ### name op= e -/
def sAug (i : Nat) (f : D → D → Mh → R D) (m : Sg → Mh → R D) : Sg → Mh → RS := fun sg h => match sg[i]? with
  | some (some x) => (m sg h).th sg fun y h1 => (f x y h1).th sg fun z h2 => .nx (sg.set i (some z)) h2
  | _ => .bad
theorem s_aug (i : Nat) {x : Str} {op : Operator} {r : R2} {f : D → D → Mh → R D} {pos' : Pos} (ho : OpR X (inplaceOp op) r) (s : Sem2 X r f) (hN : X.N.Nodup) (ha : PM X W a ma) (hi : X.N[i]? = some x := by rfl) (hx : Loc X.env.scope x := by first | exact Or.inl rfl | exact Or.inr rfl)
    (hf : X.fn x = true ∨ X.env.scope.names.lookup x = some .local := by first | exact .inl rfl | exact .inr rfl) : PSM X W (.AugAssign (.Name x pos') op a pos) (sAug i f ma) :=
  ⟨PSimp (ps_aug (ti := r) hN hi hx ha.pe (fun pins s σ H x y v u Q I rx ry q => ho pins s σ H x y v u Q I rx ry q) hf) fun E σ H ⟨ρ, sg, h, hs, rh, w⟩ => by
    unfold sAug at w
    split at w
    · rename_i d0 e
      obtain ⟨v, e1, rv⟩ := hs.val i d0 e
      refine ⟨v, e1, TM.goS hs rh w fun ρ1 H1 h1 y d le rh1 ry w1 => ?_⟩
      refine s W σ ρ1 H1 h1 _ v y d0 d rh1 (rv.mono le) ry (WS.cutS (hs.mono le) w1 fun ρ2 H2 h2 z dz le2 rh2 rz w2 => ?_)
      exact w2.nxI Le.refl rh2 (((hs.mono le).mono le2).set i rz)
    · exact w.elim⟩
def dIAdd : D → D → Mh → R D
  | .int i, .int j, h => .ok (.int (i + j)) h
  | .str a, .str b, h => if a.length + b.length ≤ sizeLine then .ok (.str (a ++ b)) h else .bad
  | .ref n, .ref m, h => match h[n]?, h[m]? with
    | some (.lst a), some (.lst b) => if a.length + b.length ≤ sizeLine then .ok (.ref n) (h.set n (.lst (a ++ b))) else .bad
    | _, _ => .bad
  | _, _, _ => .bad
def rIAdd : R2 := fun x y H Q => rI0 (fun i j => .int (i + j)) x y H Q ∨ (∃ i j, x = V.str i ∧ y = V.str j ∧ i.length + j.length ≤ sizeLine ∧ Q (V.str (i ++ j)) H) ∨ rExt2 x y H Q
theorem iop_add3 : OpR X (inplaceOp .Add) rIAdd := OpRor iop_add (OpRor iop_add_str iop_ext)
theorem sem_iadd : Sem2 X rIAdd dIAdd := by
  intro W σ ρ H h Q v1 v2 d1 d2 rh r1 r2 w
  unfold dIAdd at w
  split at w
  · cases r1; cases r2; exact .inl ⟨_, _, rfl, rfl, w.okI Le.refl rh (.int _)⟩
  · split at w
    · rename_i hz
      cases r1; cases r2; exact .inr (.inl ⟨_, _, rfl, rfl, hz, w.okI Le.refl rh (.str _)⟩)
    · exact w.elim
  · split at w
    · split at w
      · rename_i e1 e2 hz
        cases r1 with
        | ref r1 =>
          cases r2 with
          | ref r2 =>
            cases rh.at r1 e1 with
            | lst h1 q1 =>
              cases rh.at r2 e2 with
              | lst h2 q2 =>
                have l1 := q1.length
                have l2 := q2.length
                exact .inr (.inr ⟨_, _, _, _, rfl, rfl, h1, h2, by omega, w.wr rh r1 e1 h1 (q1.append q2) (.ref r1)⟩)
      · exact w.elim
    · exact w.elim
  · exact w.elim
section
variable {x : Str} {pos' : Pos}
theorem s_iadd (i : Nat) (hN : X.N.Nodup) (ha : PM X W a ma) (hi : X.N[i]? = some x := by rfl) (hx : Loc X.env.scope x := by first | exact Or.inl rfl | exact Or.inr rfl) (hf : X.fn x = true ∨ X.env.scope.names.lookup x = some .local := by first | exact .inl rfl | exact .inr rfl) : PSM X W (.AugAssign (.Name x pos') .Add a pos) (sAug i dIAdd ma) := s_aug i iop_add3 sem_iadd hN ha hi hx hf
theorem s_isub (i : Nat) (hN : X.N.Nodup) (ha : PM X W a ma) (hi : X.N[i]? = some x := by rfl) (hx : Loc X.env.scope x := by first | exact Or.inl rfl | exact Or.inr rfl) (hf : X.fn x = true ∨ X.env.scope.names.lookup x = some .local := by first | exact .inl rfl | exact .inr rfl) : PSM X W (.AugAssign (.Name x pos') .Sub a pos) (sAug i dSub ma) := s_aug i iop_sub (sem_I0 fun _ _ _ _ => .int _) hN ha hi hx hf
theorem s_ixor (i : Nat) (hN : X.N.Nodup) (ha : PM X W a ma) (hi : X.N[i]? = some x := by rfl) (hx : Loc X.env.scope x := by first | exact Or.inl rfl | exact Or.inr rfl) (hf : X.fn x = true ∨ X.env.scope.names.lookup x = some .local := by first | exact .inl rfl | exact .inr rfl) : PSM X W (.AugAssign (.Name x pos') .BitXor a pos) (sAug i dBxor ma) := s_aug i iop_xor (sem_I0 fun _ _ _ _ => .int _) hN ha hi hx hf
theorem s_ior (i : Nat) (hN : X.N.Nodup) (ha : PM X W a ma) (hi : X.N[i]? = some x := by rfl) (hx : Loc X.env.scope x := by first | exact Or.inl rfl | exact Or.inr rfl) (hf : X.fn x = true ∨ X.env.scope.names.lookup x = some .local := by first | exact .inl rfl | exact .inr rfl) : PSM X W (.AugAssign (.Name x pos') .BitOr a pos) (sAug i dBor ma) := s_aug i iop_or (sem_I0 fun _ _ _ _ => .int _) hN ha hi hx hf
theorem s_iand (i : Nat) (hN : X.N.Nodup) (ha : PM X W a ma) (hi : X.N[i]? = some x := by rfl) (hx : Loc X.env.scope x := by first | exact Or.inl rfl | exact Or.inr rfl) (hf : X.fn x = true ∨ X.env.scope.names.lookup x = some .local := by first | exact .inl rfl | exact .inr rfl) : PSM X W (.AugAssign (.Name x pos') .BitAnd a pos) (sAug i dBand ma) := s_aug i iop_and (sem_I0 fun _ _ _ _ => .int _) hN ha hi hx hf
theorem s_imul (i : Nat) (hN : X.N.Nodup) (ha : PM X W a ma) (hi : X.N[i]? = some x := by rfl) (hx : Loc X.env.scope x := by first | exact Or.inl rfl | exact Or.inr rfl) (hf : X.fn x = true ∨ X.env.scope.names.lookup x = some .local := by first | exact .inl rfl | exact .inr rfl) : PSM X W (.AugAssign (.Name x pos') .Mult a pos) (sAug i (dII cMul fun i j => .int (i * j)) ma) := s_aug i iop_mul (sem_II (fun _ _ h => cMul_ok h) fun _ _ _ _ => .int _) hN ha hi hx hf
end
/-! ### *e among items -/
def itemsOf (d : D) (h : Mh) : Option (List D) := match d with
  | .tup ds => some ds
  | .kt ds => some ds
  | .ref n => lstOf h n
  | _ => none
theorem itemsOf_of {K mg ρ H h} {v : V} {d : D} {ds : List D} (rh : RHp K mg ρ H h) (r : RV K mg ρ H v d) (e : itemsOf d h = some ds) : ∃ p xs, v = .ref p ∧ (SqT K H p xs ∨ SqL K H p xs) ∧ RVs K mg ρ H xs ds := by
  cases r with
  | tup t q => cases e; exact ⟨_, _, rfl, .inl (SqT.of t), q⟩
  | kt t q => cases e; exact ⟨_, _, rfl, .inl t, q⟩
  | ref r =>
    obtain ⟨vs, s1, q⟩ := (lstOf_at e).sq rh r
    exact ⟨_, _, rfl, .inr s1, q⟩
  | _ => cases e
def mStar (m : Sg → Mh → R D) (r : Sg → Mh → R (List D)) : Sg → Mh → R (List D) := fun sg h => (m sg h).bind fun d h1 => match itemsOf d h1 with
  | some xs => (r sg h1).bind fun ds h2 => .ok (xs ++ ds) h2
  | none => .bad
theorem l_star {p : Pos} {m : Sg → Mh → R D} {r : Sg → Mh → R (List D)} (he : PM X W e m) (hr : PL X W es r) (hs : starEach (.Starred e p :: es) X.env = (true, eval e X.env) :: starEach es X.env := by rfl) : PL X W (.Starred e p :: es) (mStar m r) :=
  ⟨PAimp (StX.pa_star he.pe hr.pa hs) fun σ H Q ⟨ρ, sg, h, hs, rh, w⟩ => TM.go hs rh w fun ρ1 H1 h1 v d le rh1 rv w1 => by
    split at w1
    · rename_i xs ex
      obtain ⟨p, vs, rfl, sq, q⟩ := itemsOf_of rh1 rv ex
      exact ⟨p, vs, rfl, sq, TMl.go (hs.mono le) rh1 w1 fun ρ2 H2 h2 us ds le2 rh2 rus w2 => w2.okI Le.refl rh2 ((q.mono le2).append rus)⟩
    · exact w1.elim⟩
/-! ### tuple(e), sum(e), xs[::-1] -/
def dTuple (ds : List D) (h : Mh) : R D := match ds with
  | [.tup xs] => .ok (.tup xs) h
  | [.kt xs] => .ok (.kt xs) h
  | [.ref n] => match lstOf h n with
    | some xs => .ok (.tup xs) h
    | none => .bad
  | _ => .bad
theorem sem_tuple : SemL X (fun xs H Q => ∃ p ys, xs = [V.ref p] ∧ ((SqL X.K H p ys ∧ ∀ l, H l = none → Q (.ref l) (upd H l (.tup ys))) ∨ (SqT X.K H p ys ∧ Q (.ref p) H))) dTuple := by
  intro W σ ρ H h Q vs ds rh rvs w
  unfold dTuple at w
  split at w
  · cases rvs with
    | cons r t =>
      cases t
      cases r with
      | tup t q => exact ⟨_, _, rfl, .inr ⟨SqT.of t, w.okI Le.refl rh (.tup t q)⟩⟩
  · cases rvs with
    | cons r t =>
      cases t
      cases r with
      | kt t q => exact ⟨_, _, rfl, .inr ⟨t, w.okI Le.refl rh (.kt t q)⟩⟩
  · split at w
    · rename_i e0
      cases rvs with
      | cons r t =>
        cases t
        cases r with
        | ref r =>
          obtain ⟨vs, s1, q⟩ := (lstOf_at e0).sq rh r
          exact ⟨_, _, rfl, .inl ⟨s1, fun p hp => w.tuple rh hp q⟩⟩
    · exact w.elim
  · exact w.elim
end
end Mo

namespace Mo
open PySem PySem.Spec PyProof.Rows L2
section
variable {prog : Program} {w : World} {A : Around} {E : Value → Shared → Prop} {s : Shared} {l : Addr}
theorem sum_tup_raw {its : List Value} {ns : List Int} {Q : Value → Shared → Prop} (hh : A.handled = none) (hl : IsTup s.heap l its.toArray) (hi : IntsAre its ns)
    (h : ∀ h' tk t', (∀ b o, s.heap.get? b = some o → h'.get? b = some o) → Q (.int ns.sum t') { s with heap := h', toks := tk }) : wpAny (model prog w) A (call (.builtin "sum") [.ref l]) Q E s := by
  obtain ⟨xs, e⟩ := hi.allInts.items
  have hn : numsOf (intItems xs).toList = ns := by rw [← e]; exact hi.numsOf
  rw [nums_intItems] at hn
  rw [e] at hl
  have hl' : s.heap.IsTuple l (intItems xs) := hl
  have hlt : l < s.heap.objs.size := by obtain ⟨_, q, _⟩ := hl; exact Heap.lt_size q
  refine call_sum_walkG (wpAny_pyIter_tuple hl' ?_)
  refine ⟨_, _, _, _, _, _, numAt xs, rfl, Walks.tuple (A := A.in1) hh _ l (Nat.ne_of_lt hlt) (intItems xs), ⟨⟨_, Heap.get?_push_size _ rfl, rfl, rfl⟩, hl'.push _⟩, (fun b hb => ?_), (fun _ _ => intItems_at), fun h' tk t' hk => ?_⟩
  · show b < (s.heap.push _).objs.size
    rw [Heap.size_push]
    rcases List.mem_cons.mp hb with rfl | hb
    · exact Nat.lt_succ_self _
    · rcases List.mem_cons.mp hb with rfl | hb
      · exact Nat.lt_succ_of_lt hlt
      · cases hb
  · have := h h' tk t' (fun b o e => by
      refine hk b o (fun hm => ?_) (Heap.get?_push_of_some _ e)
      rcases List.mem_cons.mp hm with e1 | hm
      · exact absurd (e1 ▸ Heap.lt_size e) (Nat.lt_irrefl _)
      · cases hm)
    have e2 : preSum (numAt xs) (intItems xs).size = ns.sum := by
      rw [preSum_eq, List.take_of_length_le (by simp [intItems]), hn]
    rw [e2]
    exact this
end
section
variable {X : Cx} {W : WX} {a b c e f : Expr} {es : List Expr} {ma mb mc me mf : Sg → Mh → R D} {ml : Sg → Mh → R (List D)} {pos p apos : Pos}
def rSumT (K : PySem.W.Frag) : List V → Hp → VK → Prop := fun vs H Q => ∃ (a : Addr) (ns : List Int), vs = [V.ref a] ∧ SqT K H a (ns.map V.int) ∧ Q (.int ns.sum) H
theorem cr_sumT (hc : X.calm = true) : CallR X (.builtin "sum") (rSumT X.K) := by
  intro pins s σ H vs us Q I r h
  obtain ⟨a, ns, rfl, hs, q⟩ := h
  obtain ⟨its, rv, hl, _⟩ := I.tuple hs
  rw [Vals.ref1 r]
  exact sum_tup_raw (I.ok.hd hc) hl rv.ints fun h' tk t' hk => ⟨.int _, H, I.kept hk, ⟨_, rfl⟩, q⟩
def intsOf : List D → Option (List Int)
  | [] => some []
  | .int b :: r => (intsOf r).map (b :: ·)
  | _ :: _ => none
theorem intsOf_eq : ∀ {ds : List D} {bs : List Int}, intsOf ds = some bs → ds = bs.map D.int
  | [], bs, e => by cases e; rfl
  | .int b :: r, bs, e => by
    unfold intsOf at e
    obtain ⟨cs, e1, e2⟩ := Option.map_eq_some_iff.mp e
    subst e2
    rw [intsOf_eq e1]; rfl
  | .non :: _, _, e => by cases e
  | .bl _ :: _, _, e => by cases e
  | .str _ :: _, _, e => by cases e
  | .tup _ :: _, _, e => by cases e
  | .kt _ :: _, _, e => by cases e
  | .ref _ :: _, _, e => by cases e
  | .ty _ :: _, _, e => by cases e
  | .glo _ :: _, _, e => by cases e
def dSum (ds : List D) (h : Mh) : R D := match ds with
  | [d] => match itemsOf d h with
    | some xs => match intsOf xs with
      | some ns => .ok (.int ns.sum) h
      | none => .bad
    | none => .bad
  | _ => .bad
theorem sem_sum : SemL X (fun xs H Q => rSum X.K xs H Q ∨ rSumT X.K xs H Q) dSum := by
  intro W σ ρ H h Q vs ds rh rvs w
  unfold dSum at w
  split at w
  · split at w
    · rename_i xs ex
      split at w
      · rename_i ns en
        cases rvs with
        | cons r t =>
          cases t
          obtain ⟨p, ys, rfl, sq, q⟩ := itemsOf_of rh r ex
          rw [intsOf_eq en] at q
          rw [q.ints] at sq
          rcases sq with sq | sq
          · exact .inr ⟨p, ns, rfl, sq, w.okI Le.refl rh (.int _)⟩
          · exact .inl ⟨p, ns, rfl, sq, w.okI Le.refl rh (.int _)⟩
      · exact w.elim
    · exact w.elim
  · exact w.elim
theorem q_sum (hc : X.calm = true) (hm : X.mg "sum" = none) (ha : PL X W [e] ml) (hg : Gl X "sum" := by rfl) (he : starEach [e] X.env = (false, eval e X.env) :: starEach [] X.env := by rfl) : PM X W (.Call (.Name "sum" p) [e] [] pos) (mBi dSum ml) := q_bi (CallRor (cr_sum hc) (cr_sumT hc)) sem_sum hm ha (by decide +kernel) hg (by decide) (by decide) he rfl
theorem q_tuplec (hm : X.mg "tuple" = none) (ha : PL X W [e] ml) (hg : Gl X "tuple" := by rfl) (he : starEach [e] X.env = (false, eval e X.env) :: starEach [] X.env := by rfl) : PM X W (.Call (.Name "tuple" p) [e] [] pos) (mBi dTuple ml) := q_ty call_tuple_of sem_tuple hm ha (by decide +kernel) hg (by decide) (by decide) he rfl
/-! xs[::-1] -/
def dRev (d : D) (h : Mh) : R D := match d with
  | .ref n => match lstOf h n with
    | some xs => .ok (.ref h.length) (h ++ [.lst xs.reverse])
    | none => .bad
  | _ => .bad
theorem q_rev {k : Nat} {p1 p2 p3 : Pos} (ha : PM X W a ma) : PM X W (.Subscript a (.Slice none none (some (.UnaryOp .USub (.Constant (.int 1) k p1) p2)) p3) pos) (m1 dRev ma) :=
  ⟨PEimp (pe_revL ha.pe) fun σ H Q ⟨ρ, sg, h, hs, rh, w⟩ => TM.go hs rh w fun ρ1 H1 h1 v d le rh1 rv w1 => by
    unfold dRev at w1
    split at w1
    · split at w1
      · rename_i e0
        cases rv with
        | ref r =>
          obtain ⟨vs, s1, q⟩ := (lstOf_at e0).sq rh1 r
          exact ⟨_, _, rfl, s1, fun p hp => w1.alloc rh1 hp (RO.newList hp q.reverse)⟩
      · exact w1.elim
    · exact w1.elim⟩
end
end Mo
namespace Mo
open PySem PySem.Spec PyProof.Rows L2
def relabelS (scope sc : Scope) : Scope := { scope with names := scope.names.map fun (n, k) => if (k == .free && sc.kind == .function && sc.names.lookup n == some .cell) then (n, .cell) else (n, k) }
theorem blk_nest {N : List Str} {scope0 sc0 scope : Scope} {cl : List (Str × Addr)} {C : Addr} {env : Env} {own : List (Str × Nat)} (h : BlkOk N (relabelS scope0 sc0) scope own) (hs : env.scope = sc0 := by rfl) : BlkOk N (compEnvC scope0 cl C env).scope scope own := by
  subst hs; exact h
end Mo
namespace Mo
open PySem PySem.Spec PyProof.Rows L2
section
variable {X : Cx} {W : WX} {a : Expr} {ma : Sg → Mh → R D} {p pos : Pos}
def dIsi3 (T U Z : String) (x : D) (h : Mh) : R D := match tyD x h with
  | some t => .ok (.bl (isiB t T || (isiB t U || isiB t Z))) h
  | none => .bad
theorem q_isi3 {n n' n3 : Str} {T T' T3 : String} {p2 p3 p4 p5 : Pos} {k : Nat} (hm : X.mg "isinstance" = none) (ha : PM X W a ma) (hmn : X.mg n = none) (hv : bootBuiltins n = some (.type T)) (hmn' : X.mg n' = none) (hv' : bootBuiltins n' = some (.type T')) (hmn3 : X.mg n3 = none) (hv3 : bootBuiltins n3 = some (.type T3)) (hk : knT T = true := by decide) (hk' : knT T' = true := by decide) (hk3 : knT T3 = true := by decide)
    (hg : Gl X "isinstance" := by rfl) (hgn : Gl X n := by rfl) (hgn' : Gl X n' := by rfl) (hgn3 : Gl X n3 := by rfl) (hn : n ≠ "__name__" := by decide) (hd : (n == ("__debug__" : Str)) = false := by decide) (hn' : n' ≠ "__name__" := by decide) (hd' : (n' == ("__debug__" : Str)) = false := by decide) (hn3 : n3 ≠ "__name__" := by decide) (hd3 : (n3 == ("__debug__" : Str)) = false := by decide)
    (he : starEach [a, .Tuple [.Name n p2, .Name n' p3, .Name n3 p5] k p4] X.env = (false, eval a X.env) :: starEach [.Tuple [.Name n p2, .Name n' p3, .Name n3 p5] k p4] X.env := by rfl) (he2 : starEach [.Tuple [.Name n p2, .Name n' p3, .Name n3 p5] k p4] X.env = (false, eval (.Tuple [.Name n p2, .Name n' p3, .Name n3 p5] k p4) X.env) :: starEach [] X.env := by rfl)
    (he3 : starEach [.Name n p2, .Name n' p3, .Name n3 p5] X.env = (false, eval (.Name n p2) X.env) :: starEach [.Name n' p3, .Name n3 p5] X.env := by rfl) (he4 : starEach [.Name n' p3, .Name n3 p5] X.env = (false, eval (.Name n' p3) X.env) :: starEach [.Name n3 p5] X.env := by rfl) (he5 : starEach [.Name n3 p5] X.env = (false, eval (.Name n3 p5) X.env) :: starEach [] X.env := by rfl)
    (hpl : (backTo pos (starEach [.Tuple [.Name n p2, .Name n' p3, .Name n3 p5] k p4] X.env)).any (·.1) = false := by rfl) : PM X W (.Call (.Name "isinstance" p) [a, .Tuple [.Name n p2, .Name n' p3, .Name n3 p5] k p4] [] pos) (m1 (dIsi3 T T' T3) ma) :=
  ⟨PEimp (pe_callB call_isiT hg hm (by decide +kernel) (pa_cons ha.pe (pa_cons (pe_tup (pa_cons (pe_bltn (v := .ty T) hgn hmn hv rfl hn hd) (pa_cons (pe_bltn (v := .ty T') hgn' hmn' hv' rfl hn' hd') (pa_cons (pe_bltn (v := .ty T3) hgn3 hmn3 hv3 rfl hn3 hd3) pa_nil he5) he4) he3)) pa_nil he2) he) (by decide) (by decide) he hpl) fun σ H Q ⟨ρ, sg, h, hs, rh, w⟩ =>
    TM.go hs rh w fun ρ1 H1 h1 v d le rh1 rv w1 => by
      unfold dIsi3 at w1
      split at w1
      · rename_i t e
        refine ⟨(by show 3 ≤ sizeLine; decide), fun p hp => ?_⟩
        have le2 : Le X.K ρ1 H1 ρ1 (upd H1 p (.tup [.ty T, .ty T', .ty T3])) := Le.new hp
        refine ⟨_, _, _, _, _, _, rfl, upd_same, .cons (.ty T) (.cons (.ty T') (.cons (.ty T3) .nil)), tyD_of (rh1.made hp) (rv.mono le2) e, ?_, w1.okI le2 (rh1.made hp) (.bl _)⟩
        refine kitAny_cons (kit_kn (tyD_kn e) hk) (fun e1 => ?_) (fun e1 => by rw [e1]; rfl)
        rw [e1, Bool.false_or]
        refine kitAny_cons (kit_kn (tyD_kn e) hk') (fun e1 => ?_) (fun e1 => by rw [e1]; rfl)
        rw [e1, Bool.false_or]
        exact kitAny_cons (kit_kn (tyD_kn e) hk3) (fun e2 => by rw [e2]; exact kitAny_nil) (fun e2 => e2)
      · exact w1.elim⟩
end
end Mo

namespace Mo
open PySem PySem.Spec PyProof.Rows L2
/-! ### the further constructs, for simp -/
@[simp ↓] theorem w_dnewT {sg h} {P} {z : Tg P} : R.wp (mDNewT sg h) P z = R.wp (.ok (.ref h.length) (h ++ [.dt []])) P := rfl
@[simp ↓] theorem w_get2 {ma me mf sg h} {P} {z : Tg P} : R.wp (mGet2 ma me mf sg h) P z = R.wp ((ma sg h).bind fun x h1 => if isDk x h1 = true then (me sg h1).bind fun k h2 => (mf sg h2).bind fun z h3 => dGetOr x k z h3 else .bad) P := rfl
@[simp ↓] theorem w_lk {f m sg h} {P} {z : Tg P} : R.wp (mLk f m sg h) P z = R.wp (match f sg h with
  | some n => match h[n]? with
    | some o => match lockO o with
      | some z => (m sg (h.set n z)).nox.bind fun d h' => if isZ h'[n]? = true then .ok d (h'.set n o) else .bad
      | none => .bad
    | none => .bad
  | none => .bad) P := rfl
@[simp ↓] theorem w_aug {i f m sg h} {N : Sg → Mh → Prop} {T : D → Mh → Prop} {z : Tg N} {y : Tg T} : RS.wp (sAug i f m sg h) N T z y = RS.wp (match sg[i]? with
  | some (some x) => (m sg h).th sg fun y h1 => (f x y h1).th sg fun z h2 => .nx (sg.set i (some z)) h2
  | _ => .bad) N T := rfl
@[simp ↓] theorem w_star {m r sg h} {P} {z : Tg P} : R.wp (mStar m r sg h) P z = R.wp ((m sg h).bind fun d h1 => match itemsOf d h1 with
  | some xs => (r sg h1).bind fun ds h2 => .ok (xs ++ ds) h2
  | none => .bad) P := rfl
@[simp] theorem l_isDk {n : Nat} {h : Mh} : isDk (.ref n) h = match h[n]? with
    | some (.dk _) => true
    | some (.dt _) => true
    | some (.zk _) => true
    | some (.zt _) => true
    | _ => false := rfl
@[simp] theorem l_getOr {n : Nat} {k z : D} {h : Mh} : dGetOr (.ref n) k z h = match h[n]? with
    | some o => match lookD o k with
      | some (some d) => .ok d h
      | some none => .ok z h
      | none => .bad
    | none => .bad := rfl
@[simp] theorem l_itT {ds : List D} {h : Mh} : itemsOf (.tup ds) h = some ds := rfl
@[simp] theorem l_itR {n : Nat} {h : Mh} : itemsOf (.ref n) h = lstOf h n := rfl
@[simp] theorem l_tupT {ds : List D} {h : Mh} : dTuple [.tup ds] h = .ok (.tup ds) h := rfl
@[simp] theorem l_tupR {n : Nat} {h : Mh} : dTuple [.ref n] h = match lstOf h n with
    | some xs => .ok (.tup xs) h
    | none => .bad := rfl
@[simp] theorem l_rev {n : Nat} {h : Mh} : dRev (.ref n) h = match lstOf h n with
    | some xs => .ok (.ref h.length) (h ++ [.lst xs.reverse])
    | none => .bad := rfl
@[simp] theorem l_atVar {i : Nat} {sg : Sg} {h : Mh} : atVar i sg h = match sg[i]? with
  | some (some (.ref n)) => some n
  | _ => none := rfl
@[simp] theorem l_lockK {kvs : List (Key × D)} : lockO (.dk kvs) = some (.zk kvs) := rfl
@[simp] theorem l_lockT {kvs : List (List Key × D)} : lockO (.dt kvs) = some (.zt kvs) := rfl
@[simp] theorem l_isZK {kvs : List (Key × D)} : isZ (some (.zk kvs)) = true := rfl
@[simp] theorem l_isZT {kvs : List (List Key × D)} : isZ (some (.zt kvs)) = true := rfl
@[simp] theorem l_iterT {ds : List D} {h : Mh} : dIter (.tup ds) h = .ok (srcT ds) h := rfl
@[simp] theorem l_lenT {ds : List D} {h : Mh} : dLen [.tup ds] h = .ok (.int (ds.length : Nat)) h := rfl
@[simp] theorem l_listT {ds : List D} {h : Mh} : dList [.tup ds] h = .ok (.ref h.length) (h ++ [.lst ds]) := rfl
@[simp] theorem l_zipT {xs ys : List D} {h : Mh} : dZip [.tup xs, .tup ys] h = .ok (srcT (zipD xs ys)) h := rfl
@[simp] theorem shr_ii {x y h} : dShr (.int x) (.int y) h = if decide (0 ≤ y) = true then .ok (.int (x / 2 ^ y.toNat)) h else .bad := rfl
open Classical in
@[simp] theorem l_addT {a b : List D} {h : Mh} : dAdd (.tup a) (.tup b) h = if LenE (a.length + b.length) then .ok (.tup (a ++ b)) h else .bad := by
  by_cases c : LenE (a.length + b.length)
  · rw [if_pos c]; exact if_pos c.r
  · rw [if_neg c]; exact if_neg fun z => c ⟨z⟩
@[simp] theorem l_slT {ds : List D} {lo hi : Option Int} {h : Mh} : dSl (.tup ds) lo hi h = .ok (.tup (cutD ds lo hi)) h := rfl
open Classical in
@[simp] theorem l_addR {n m : Nat} {h : Mh} : dAdd (.ref n) (.ref m) h = match h[n]?, h[m]? with
    | some (.lst a), some (.lst b) => if LenE (a.length + b.length) then R.ok (D.ref h.length) (h ++ [MO.lst (a ++ b)]) else R.bad
    | _, _ => R.bad := by
  unfold dAdd
  dsimp only
  cases h[n]? with
  | none => rfl
  | some o =>
    cases h[m]? with
    | none => cases o <;> rfl
    | some p =>
      cases o <;> cases p <;> first
        | rfl
        | (rename_i a b
           dsimp only
           by_cases c : LenE (a.length + b.length)
           · rw [if_pos c, if_pos c.r]
           · rw [if_neg c, if_neg fun z => c ⟨z⟩])
end Mo

namespace Mo
open PySem PySem.Spec PyProof.Rows L2
/-! ### dicts -/
section
variable {κ : Type} [DecidableEq κ]
theorem valD_cons {p : κ × D} {r : List (κ × D)} {k : κ} : valD (p :: r) k = if p.1 = k then some p.2 else valD r k := by
  by_cases h : p.1 = k
  · rw [valD_pos h, if_pos h]
  · rw [valD_neg h, if_neg h]
theorem any_iff {kvs : List (κ × D)} {k : κ} : (kvs.any fun kv => decide (kv.1 = k)) = true ↔ k ∈ kvs.map (·.1) := by
  rw [List.any_eq_true]
  constructor
  · rintro ⟨p, hp, e⟩
    exact List.mem_map.mpr ⟨p, hp, of_decide_eq_true e⟩
  · intro h
    obtain ⟨p, hp, e⟩ := List.mem_map.mp h
    exact ⟨p, hp, decide_eq_true e⟩
theorem putD_fst_in {kvs : List (κ × D)} {k : κ} {v : D} (h : k ∈ kvs.map (·.1)) : (putD kvs k v).map (·.1) = kvs.map (·.1) := by
  unfold putD
  rw [if_pos (any_iff.mpr h), List.map_map]
  refine List.map_congr_left fun p _ => ?_
  simp only [Function.comp_apply]
  split <;> rfl
theorem putD_out {kvs : List (κ × D)} {k : κ} {v : D} (h : k ∉ kvs.map (·.1)) : putD kvs k v = kvs ++ [(k, v)] := by
  unfold putD
  rw [if_neg (fun z => h (any_iff.mp z))]
theorem putD_nodup {kvs : List (κ × D)} {k : κ} {v : D} (h : (kvs.map (·.1)).Nodup) : ((putD kvs k v).map (·.1)).Nodup := by
  by_cases hk : k ∈ kvs.map (·.1)
  · rw [putD_fst_in hk]; exact h
  · rw [putD_out hk, List.map_append, List.nodup_append]
    refine ⟨h, by simp, fun a ha b hb => ?_⟩
    have : b = k := by simpa using hb
    rw [this]
    intro e
    exact hk (e ▸ ha)
theorem putD_mem {kvs : List (κ × D)} {k k' : κ} {v : D} : k' ∈ (putD kvs k v).map (·.1) ↔ k' ∈ kvs.map (·.1) ∨ k' = k := by
  by_cases hk : k ∈ kvs.map (·.1)
  · rw [putD_fst_in hk]
    constructor
    · exact .inl
    · rintro (h | rfl) <;> assumption
  · rw [putD_out hk]; simp
theorem valD_none {kvs : List (κ × D)} {k : κ} : valD kvs k = none ↔ k ∉ kvs.map (·.1) := by
  induction kvs with
  | nil => simp [valD]
  | cons p r ih =>
    rw [valD_cons, List.map_cons, List.mem_cons]
    by_cases h : p.1 = k
    · rw [if_pos h]; simp [h]
    · rw [if_neg h, ih]
      constructor
      · intro z w; exact w.elim (fun e => h e.symm) z
      · intro z w; exact z (.inr w)
theorem valD_app {a b : List (κ × D)} {k : κ} (h : k ∉ a.map (·.1)) : valD (a ++ b) k = valD b k := by
  induction a with
  | nil => rfl
  | cons p r ih =>
    rw [List.map_cons, List.mem_cons, not_or] at h
    rw [List.cons_append, valD_cons, if_neg (fun e => h.1 e.symm), ih h.2]
theorem valD_app_l {a b : List (κ × D)} {k : κ} {d : D} (h : valD a k = some d) : valD (a ++ b) k = some d := by
  induction a with
  | nil => cases h
  | cons p r ih =>
    rw [List.cons_append, valD_cons]
    rw [valD_cons] at h
    split
    · rename_i e; rw [if_pos e] at h; exact h
    · rename_i e; rw [if_neg e] at h; exact ih h
theorem valD_putD {kvs : List (κ × D)} {k k' : κ} {v : D} : valD (putD kvs k v) k' = if k' = k then some v else valD kvs k' := by
  by_cases hk : k ∈ kvs.map (·.1)
  · unfold putD
    rw [if_pos (any_iff.mpr hk)]
    by_cases e : k' = k
    · subst e
      rw [if_pos rfl]
      induction kvs with
      | nil => cases hk
      | cons p r ih =>
        rw [List.map_cons, valD_cons]
        by_cases h : p.1 = k'
        · rw [if_pos h, if_pos h]
        · rw [if_neg h, if_neg h]
          exact ih ((List.mem_cons.mp hk).elim (fun z => absurd z.symm h) id)
    · rw [if_neg e]
      clear hk
      induction kvs with
      | nil => rfl
      | cons p r ih =>
        rw [List.map_cons, valD_cons, valD_cons, ih]
        by_cases h : p.1 = k
        · rw [if_pos h]
          have : ¬ p.1 = k' := fun z => e (z.symm.trans h)
          rw [if_neg this, if_neg this]
        · rw [if_neg h]
  · rw [putD_out hk]
    by_cases e : k' = k
    · subst e
      rw [if_pos rfl, valD_app hk, valD_cons, if_pos rfl]
    · rw [if_neg e]
      by_cases hk' : k' ∈ kvs.map (·.1)
      · cases h : valD kvs k' with
        | none => exact absurd hk' (valD_none.mp h)
        | some d => rw [valD_app_l h]
      · rw [valD_app hk', valD_cons, if_neg (fun z => e z.symm), valD_none.mpr hk']; rfl
theorem valD_at {kvs : List (κ × D)} (h : (kvs.map (·.1)).Nodup) {p : κ × D} (hp : p ∈ kvs) : valD kvs p.1 = some p.2 := by
  induction kvs with
  | nil => cases hp
  | cons q r ih =>
    rw [valD_cons]
    rw [List.map_cons, List.nodup_cons] at h
    rcases List.mem_cons.mp hp with rfl | hp
    · rw [if_pos rfl]
    · rw [if_neg fun (e : q.1 = p.1) => h.1 (by rw [e]; exact List.mem_map.mpr ⟨p, hp, rfl⟩)]
      exact ih h.2 hp
/-- as many, where one holds the other -/
theorem len_le {α : Type} [DecidableEq α] : ∀ {a b : List α}, a.Nodup → (∀ x ∈ a, x ∈ b) → a.length ≤ b.length
  | [], b, _, _ => Nat.zero_le _
  | x :: a, b, h, s => by
    rw [List.nodup_cons] at h
    have hx := s x (by simp)
    have ih := len_le (b := b.erase x) h.2 fun y hy => (List.mem_erase_of_ne (fun (e : y = x) => h.1 (by rw [← e]; exact hy))).mpr (s y (List.mem_cons_of_mem _ hy))
    rw [List.length_erase_of_mem hx] at ih
    have : 0 < b.length := List.length_pos_of_mem hx
    rw [List.length_cons]; omega
end
theorem keyTs_ints : ∀ l : List Int, keyTs (l.map D.int) = some (l.map Sum.inl)
  | [] => rfl
  | x :: l => by simp only [List.map_cons, keyTs, keyD, keyTs_ints l]
@[simp] theorem keyT_ints {l : List Int} : keyT (.tup (l.map D.int)) = some (l.map Sum.inl) := keyTs_ints l
theorem keyTs_keys : ∀ l : List Key, keyTs (l.map dKey) = some l
  | [] => rfl
  | .inl x :: l => by simp only [List.map_cons, keyTs, keyD, dKey, keyTs_keys l]
  | .inr x :: l => by simp only [List.map_cons, keyTs, keyD, dKey, keyTs_keys l]
@[simp] theorem keyT_keys {l : List Key} : keyT (.tup (l.map dKey)) = some l := keyTs_keys l
end Mo

namespace K19
open PySem PySem.Spec PyProof.Rows L2 Mo
def topS (i : Nat) : Stmt := PySem.Challenge.pw_needleblind_k19_parted_bits_are_even.main.body.getD i (.Pass ⟨0, 0, 0, 0⟩)
abbrev s__law_all : Stmt := topS 9
theorem sc__law_all : FnScope ["many", "x", "j"] ["many"] (defScope s__law_all) := ⟨rfl, rfl, rfl, by decide +kernel, rfl, by decide +kernel, by decide +kernel⟩
noncomputable def m__law_all : Sg → Mh → RS := (sRet (mLc (mRange1 (m2 dShl (mLit (.int 1)) (mVar 0))) (gNm 1) mYes (mBi dTuple (mCons (mLc (mRange1 (mVar 0)) (gNm 2) mYes (m2 dMod (mBi dInt (mCons (m2 dShr (mVar 1) (m2 dSub (m2 dSub (mVar 0) (mLit (.int 1))) (mVar 2))) mNil)) (mLit (.int 2))) [2]) mNil)) [1]))
noncomputable def f__law_all : FM := runF 3 m__law_all
abbrev s__law_bag : Stmt := topS 6
theorem sc__law_bag : FnScope ["script", "mixed", "cell"] ["script"] (defScope s__law_bag) := ⟨rfl, rfl, rfl, by decide +kernel, rfl, by decide +kernel, by decide +kernel⟩
noncomputable def m__law_bag : Sg → Mh → RS := (sSeq (sSet 1 (mLit (.int 13972)))
    (sSeq (sFor (mIter (mSl (mVar 0) mNoP (mPart (mLit (.int 63))))) (gNm 2) (sSet 1 (m2 dMod (mBi dInt (mCons (m2 dPow (m2 dAdd (m2 dAdd (mVar 1) (m2 dMod (mBi dInt (mCons (mVar 2) mNil)) (mLit (.int 2305843009213693921)))) (mLit (.int 389))) (mLit (.int 3))) mNil)) (mLit (.int 2305843009213693951)))))
    (sRet (mLst (mCons (mBi dList (mCons (mSl (mVar 0) mNoP (mPart (mLit (.int 63)))) mNil)) (mCons (mLit (.int 0)) (mCons (mLit (.int 0)) (mCons (mVar 1) (mCons (mLit (.int 0)) mNil)))))))))
noncomputable def f__law_bag : FM := runF 3 m__law_bag
abbrev s__law_draw : Stmt := topS 7
theorem sc__law_draw : FnScope ["bag", "many", "cell", "digit"] ["bag", "many"] (defScope s__law_draw) := ⟨rfl, rfl, rfl, by decide +kernel, rfl, by decide +kernel, by decide +kernel⟩
noncomputable def m__law_draw : Sg → Mh → RS := (sSeq (sPut dPutL (mVar 0) (mLit (.int 4)) (m2 dAdd (m2 dIx (mVar 0) (mLit (.int 4))) (mLit (.int 1))))
    (sSeq (sIf (mAndT (mTest (m2 (dE false) (m2 dIx (mVar 0) (mLit (.int 2))) (mLit (.int 0)))) (mTest (m2 dLt (m2 dIx (mVar 0) (mLit (.int 1))) (mBi dLen (mCons (m2 dIx (mVar 0) (mLit (.int 0))) mNil))))) (sSeq (sSet 2 (mBi dInt (mCons (m2 dIx (m2 dIx (mVar 0) (mLit (.int 0))) (m2 dIx (mVar 0) (mLit (.int 1)))) mNil)))
    (sSeq (sPut dPutL (mVar 0) (mLit (.int 1)) (m2 dAdd (m2 dIx (mVar 0) (mLit (.int 1))) (mLit (.int 1))))
    (sIf (mTest (m2 dGe (mVar 2) (m2 dPow (mLit (.int 10)) (mLit (.int 18))))) (sPut dPutL (mVar 0) (mLit (.int 2)) (mVar 2)) (sPut dPutL (mVar 0) (mLit (.int 3)) (m2 dMod (mBi dInt (mCons (m2 dPow (m2 dAdd (m2 dAdd (m2 dIx (mVar 0) (mLit (.int 3))) (m2 dMul (m2 dMod (mBi dInt (mCons (mVar 2) mNil)) (mLit (.int 2305843009213693921))) (mLit (.int 11)))) (mLit (.int 41))) (mLit (.int 3))) mNil)) (mLit (.int 2305843009213693951))))))) sNext)
    (sSeq (sIf (mTest (m2 dGt (m2 dIx (mVar 0) (mLit (.int 2))) (mLit (.int 0)))) (sSeq (sSet 3 (m2 dMod (mBi dInt (mCons (m2 dIx (mVar 0) (mLit (.int 2))) mNil)) (mVar 1)))
    (sSeq (sPut dPutL (mVar 0) (mLit (.int 2)) (m2 dFdiv (mBi dInt (mCons (m2 dIx (mVar 0) (mLit (.int 2))) mNil)) (mVar 1)))
    (sRet (mVar 3)))) sNext)
    (sSeq (sPut dPutL (mVar 0) (mLit (.int 3)) (m2 dMod (mBi dInt (mCons (m2 dPow (m2 dAdd (m2 dAdd (m2 dIx (mVar 0) (mLit (.int 3))) (m2 dMul (m2 dIx (mVar 0) (mLit (.int 4))) (mLit (.int 1000003)))) (mLit (.int 31))) (mLit (.int 3))) mNil)) (mLit (.int 2305843009213693951))))
    (sRet (m2 dMod (mBi dInt (mCons (m2 dFdiv (m2 dIx (mVar 0) (mLit (.int 3))) (mLit (.int 1073741827))) mNil)) (mVar 1)))))))
noncomputable def f__law_draw : FM := runF 4 m__law_draw
abbrev s__law_even : Stmt := topS 10
theorem sc__law_even : FnScope ["rows", "spots", "seen", "row", "shown", "share", "k", "key"] ["rows", "spots"] (defScope s__law_even) := ⟨rfl, rfl, rfl, by decide +kernel, rfl, by decide +kernel, by decide +kernel⟩
noncomputable def m__law_even : Sg → Mh → RS := (sSeq (sSet 2 mDNewT)
    (sSeq (sFor (mIter (mVar 0)) (gNm 3) (sSeq (sSet 4 (mBi dTuple (mCons (mLc (mIter (mVar 1)) (gNm 6) mYes (m2 dIx (mVar 3) (mVar 6)) [6]) mNil)))
    (sPut dPutD (mVar 2) (mVar 4) (m2 dAdd (mGet2 (mVar 2) (mVar 4) (mLit (.int 0))) (mLit (.int 1))))))
    (sSeq (sSet 5 (m2 dFdiv (mBi dLen (mCons (mVar 0) mNil)) (m2 dShl (mLit (.int 1)) (mBi dLen (mCons (mVar 1) mNil)))))
    (sRet (mAnd (m2 (dE false) (mBi dLen (mCons (mVar 2) mNil)) (m2 dShl (mLit (.int 1)) (mBi dLen (mCons (mVar 1) mNil)))) (mBi (dAll fun bs => bs.all id) (mCons (mLk (atVar 2) (mLc (mIter (mVar 2)) (gNm 7) mYes (m2 (dE false) (m2 dGet (mVar 2) (mVar 7)) (mVar 5)) [7])) mNil)))))))
noncomputable def f__law_even : FM := runF 8 m__law_even
abbrev s__law_like : Stmt := topS 8
theorem sc__law_like : FnScope ["found", "due", "key", "one", "two"] ["found", "due"] (defScope s__law_like) := ⟨rfl, rfl, rfl, by decide +kernel, rfl, by decide +kernel, by decide +kernel⟩
noncomputable def m__law_like (rec : FM) : Sg → Mh → RS := (sSeq (sIf (mTru (m1 (dIsi2 "list" "tuple") (mVar 1))) (sSeq (sIf (mOrT (mTest (m2 (dE true) (mBi dIsi1 (mCons (mVar 0) (mCons (mLit (.ty "list")) mNil))) (mBi dIsi1 (mCons (mVar 1) (mCons (mLit (.ty "list")) mNil))))) (mTest (m2 (dE true) (mBi dIsi1 (mCons (mVar 0) (mCons (mLit (.ty "tuple")) mNil))) (mBi dIsi1 (mCons (mVar 1) (mCons (mLit (.ty "tuple")) mNil)))))) (sRet (mLit (.bl false))) sNext)
    (sRet (mAnd (m2 (dE false) (mBi dLen (mCons (mVar 0) mNil)) (mBi dLen (mCons (mVar 1) mNil))) (mBi (dAll fun bs => bs.all id) (mCons (mLc (mZip (mCons (mVar 0) (mCons (mVar 1) mNil))) (gTp 2 (gsCons (gNm 3) (gsCons (gNm 4) gsNil))) mYes (mCall 2 rec (mCons (mVar 3) (mCons (mVar 4) mNil)) []) [3, 4]) mNil))))) sNext)
    (sSeq (sIf (mOrT (mTest (m2 dIs (mVar 1) (mLit .non))) (mTest (m2 dIs (mVar 0) (mLit .non)))) (sRet (mAnd (m2 dIs (mVar 1) (mLit .non)) (m2 dIs (mVar 0) (mLit .non)))) sNext)
    (sSeq (sIf (mTru (mBi dIsi1 (mCons (mVar 1) (mCons (mLit (.ty "dict")) mNil)))) (sSeq (sIf (mOrT (mNotT (mTru (mBi dIsi1 (mCons (mVar 0) (mCons (mLit (.ty "dict")) mNil))))) (mTest (m2 (dE true) (mBi dLen (mCons (mVar 0) mNil)) (mBi dLen (mCons (mVar 1) mNil))))) (sRet (mLit (.bl false))) sNext)
    sBad) sNext)
    (sSeq (sIf (mOrT (mTru (m1 (dIsi3 "list" "tuple" "dict") (mVar 0))) (mTest (m2 (dE true) (mBi dIsi1 (mCons (mVar 0) (mCons (mLit (.ty "bool")) mNil))) (mBi dIsi1 (mCons (mVar 1) (mCons (mLit (.ty "bool")) mNil)))))) (sRet (mLit (.bl false))) sNext)
    (sSeq (sIf (mOrT (mTest (m2 (dE true) (mBi dIsi1 (mCons (mVar 0) (mCons (mLit (.ty "str")) mNil))) (mBi dIsi1 (mCons (mVar 1) (mCons (mLit (.ty "str")) mNil))))) (mTest (m2 (dE true) (mBi dIsi1 (mCons (mVar 0) (mCons (mLit (.ty "int")) mNil))) (mBi dIsi1 (mCons (mVar 1) (mCons (mLit (.ty "int")) mNil)))))) (sRet (mLit (.bl false))) sNext)
    (sRet (m2 (dE false) (mVar 0) (mVar 1))))))))
noncomputable def f__law_like : Nat → FM
  | 0 => fun _ _ => .bad
  | k + 1 => runF 5 (m__law_like (f__law_like k))
abbrev s_parity : Stmt := topS 1
theorem sc_parity : FnScope ["bits", "odd", "bit"] ["bits"] (defScope s_parity) := ⟨rfl, rfl, rfl, by decide +kernel, rfl, by decide +kernel, by decide +kernel⟩
noncomputable def m_parity : Sg → Mh → RS := (sSeq (sSet 1 (mLit (.int 0)))
    (sSeq (sFor (mIter (mVar 0)) (gNm 2) (sAug 1 dBxor (mVar 2)))
    (sRet (mVar 1))))
noncomputable def f_parity : FM := runF 3 m_parity
abbrev s_joined : Stmt := topS 4
theorem sc_joined : FnScope ["parts"] ["parts"] (defScope s_joined) := ⟨rfl, rfl, rfl, by decide +kernel, rfl, by decide +kernel, by decide +kernel⟩
noncomputable def m_joined : Sg → Mh → RS := (sRet (mCall 1 f_parity (mCons (mVar 0) mNil) []))
noncomputable def f_joined : FM := runF 1 m_joined
abbrev s_parted : Stmt := topS 3
theorem sc_parted : FnScope ["bit", "coins"] ["bit", "coins"] (defScope s_parted) := ⟨rfl, rfl, rfl, by decide +kernel, rfl, by decide +kernel, by decide +kernel⟩
noncomputable def m_parted : Sg → Mh → RS := (sRet (mTup (mStar (mVar 1) (mCons (m2 dBxor (mVar 0) (mCall 1 f_parity (mCons (mVar 1) mNil) [])) mNil))))
noncomputable def f_parted : FM := runF 2 m_parted
abbrev s_law : Stmt := topS 11
theorem sc_law : FnScope ["script", "bag", "n", "every", "turn", "order", "spots", "kept", "bit", "rows", "row", "handed", "told", "q", "k"] ["script"] (defScope s_law) := ⟨rfl, rfl, rfl, by decide +kernel, rfl, by decide +kernel, by decide +kernel⟩
noncomputable def m_law : Sg → Mh → RS := (sSeq (sSet 1 (mCall 1 f__law_bag (mCons (mVar 0) mNil) []))
    (sSeq (sSet 2 (mIte (mTest (m2 (dE false) (mCall 2 f__law_draw (mCons (mVar 1) (mCons (mLit (.int 12)) mNil)) []) (mLit (.int 11)))) (mLit (.int 8)) (m2 dAdd (mLit (.int 2)) (mCall 2 f__law_draw (mCons (mVar 1) (mCons (mLit (.int 5)) mNil)) []))))
    (sSeq (sSet 3 (mCall 1 f__law_all (mCons (m2 dSub (mVar 2) (mLit (.int 1))) mNil) []))
    (sSeq (sSet 4 (mCall 2 f__law_draw (mCons (mVar 1) (mCons (mBi dLen (mCons (mVar 3) mNil)) mNil)) []))
    (sSeq (sSet 5 (m2 dAdd (mSl (mVar 3) (mPart (mVar 4)) mNoP) (mSl (mVar 3) mNoP (mPart (mVar 4)))))
    (sSeq (sIf (mTest (m2 (dE false) (mCall 2 f__law_draw (mCons (mVar 1) (mCons (mLit (.int 2)) mNil)) []) (mLit (.int 0)))) (sSet 5 (m1 dRev (mVar 5))) sNext)
    (sSeq (sSet 6 (mSl (mLc (mRange1 (mVar 2)) (gNm 14) (mTest (m2 dGt (mCall 2 f__law_draw (mCons (mVar 1) (mCons (mLit (.int 3)) mNil)) []) (mLit (.int 0)))) (mVar 14) [14]) mNoP (mPart (m2 dSub (mVar 2) (mLit (.int 1))))))
    (sSeq (sSet 7 mDNewT)
    (sSeq (sFor (mRange1 (mLit (.int 2))) (gNm 8) (sSeq (sSet 9 (mLst mNil))
    (sSeq (sFor (mIter (mVar 5)) (gNm 10) (sSeq (sSet 11 (mBi dList (mCons (mVar 10) mNil)))
    (sSeq (sSet 12 (mIte (mTest (m2 (dE false) (mCall 2 f__law_draw (mCons (mVar 1) (mCons (mLit (.int 2)) mNil)) []) (mLit (.int 0)))) (mCall 2 f_parted (mCons (mVar 8) (mCons (mVar 11) mNil)) []) (mCall 2 f_parted (mCons (mVar 8) (mCons (mVar 10) mNil)) [])))
    (sSeq (sIf (mNotT (mTru (mCall 2 (f__law_like 8) (mCons (mLst (mCons (mVar 12) (mCons (mVar 11) mNil))) (mCons (mLst (mCons (m2 dAdd (mVar 10) (mTup (mCons (m2 dMod (mBi dInt (mCons (m2 dAdd (mVar 8) (mBi dSum (mCons (mVar 10) mNil))) mNil)) (mLit (.int 2))) mNil))) (mCons (mBi dList (mCons (mVar 10) mNil)) mNil))) mNil)) []))) (sRet (mLit (.bl false))) sNext)
    (sSeq (sIf (mNotT (mTru (mCall 2 (f__law_like 8) (mCons (mLst (mCons (mCall 1 f_joined (mCons (mVar 12) mNil) []) (mCons (mCall 2 f_parted (mCons (mVar 8) (mCons (mBi dList (mCons (mVar 10) mNil)) mNil)) []) mNil))) (mCons (mLst (mCons (mVar 8) (mCons (mVar 12) mNil))) mNil)) []))) (sRet (mLit (.bl false))) sNext)
    (sSeq (sExpr (mMt "list" dAppend (mVar 9) (mCons (mVar 12) mNil)))
    (sPut dPutD (mVar 7) (mVar 12) (mVar 8))))))))
    (sSeq (sFor (mRange1 (mVar 2)) (gNm 13) (sIf (mNotT (mTru (mCall 2 f__law_even (mCons (mVar 9) (mCons (mLc (mRange1 (mVar 2)) (gNm 14) (mTest (m2 (dE true) (mVar 14) (mVar 13))) (mVar 14) [14]) mNil)) []))) (sRet (mLit (.bl false))) sNext))
    (sIf (mNotT (mTru (mCall 2 f__law_even (mCons (mVar 9) (mCons (mVar 6) mNil)) []))) (sRet (mLit (.bl false))) sNext)))))
    (sRet (m2 (dE false) (mBi dLen (mCons (mVar 7) mNil)) (m2 dMul (mLit (.int 2)) (mBi dLen (mCons (mVar 3) mNil))))))))))))))
noncomputable def f_law : FM := runF 15 m_law
structure Txt (K : PySem.W.Frag) (mg : Str → Option Value) where
  n_all : mg "all" = none
  n_bool : mg "bool" = none
  n_dict : mg "dict" = none
  n_int : mg "int" = none
  n_isinstance : mg "isinstance" = none
  n_len : mg "len" = none
  n_list : mg "list" = none
  n_range : mg "range" = none
  n_str : mg "str" = none
  n_sum : mg "sum" = none
  n_tuple : mg "tuple" = none
  n_zip : mg "zip" = none
  a__law_all : Addr
  d__law_all : FuncData
  F__law_all : Fun K "_law_all" "_law_all" s__law_all a__law_all d__law_all
  g__law_all : mg "_law_all" = some (.ref a__law_all)
  b__law_all : L2.Binds K d__law_all ["many"] []
  a__law_bag : Addr
  d__law_bag : FuncData
  F__law_bag : Fun K "_law_bag" "_law_bag" s__law_bag a__law_bag d__law_bag
  g__law_bag : mg "_law_bag" = some (.ref a__law_bag)
  b__law_bag : L2.Binds K d__law_bag ["script"] []
  a__law_draw : Addr
  d__law_draw : FuncData
  F__law_draw : Fun K "_law_draw" "_law_draw" s__law_draw a__law_draw d__law_draw
  g__law_draw : mg "_law_draw" = some (.ref a__law_draw)
  b__law_draw : L2.Binds K d__law_draw ["bag", "many"] []
  a__law_even : Addr
  d__law_even : FuncData
  F__law_even : Fun K "_law_even" "_law_even" s__law_even a__law_even d__law_even
  g__law_even : mg "_law_even" = some (.ref a__law_even)
  b__law_even : L2.Binds K d__law_even ["rows", "spots"] []
  a__law_like : Addr
  d__law_like : FuncData
  F__law_like : Fun K "_law_like" "_law_like" s__law_like a__law_like d__law_like
  g__law_like : mg "_law_like" = some (.ref a__law_like)
  b__law_like : L2.Binds K d__law_like ["found", "due"] []
  a_parity : Addr
  d_parity : FuncData
  F_parity : Fun K "parity" "parity" s_parity a_parity d_parity
  g_parity : mg "parity" = some (.ref a_parity)
  b_parity : L2.Binds K d_parity ["bits"] []
  a_joined : Addr
  d_joined : FuncData
  F_joined : Fun K "joined" "joined" s_joined a_joined d_joined
  g_joined : mg "joined" = some (.ref a_joined)
  b_joined : L2.Binds K d_joined ["parts"] []
  a_parted : Addr
  d_parted : FuncData
  F_parted : Fun K "parted" "parted" s_parted a_parted d_parted
  g_parted : mg "parted" = some (.ref a_parted)
  b_parted : L2.Binds K d_parted ["bit", "coins"] []
  a_law : Addr
  d_law : FuncData
  F_law : Fun K "law" "law" s_law a_law d_law
  g_law : mg "law" = some (.ref a_law)
  b_law : L2.Binds K d_law ["script"] []
section
variable {P : Program} {w : World} {K : PySem.W.Frag} {mg : Str → Option Value} {base : Heap}
theorem ok__law_all (T : Txt K mg) : FnOk P w K mg base (L2.CX P w) 1 T.a__law_all T.d__law_all ["many"] (spM K mg 1 f__law_all) := fn_m T.F__law_all sc__law_all fun cdv A outer s H E hr => by
  have tk := takes_of (X := cxOf (L2.CX P w) P w K mg base ["many", "x", "j"] "_law_all" (defScope s__law_all) T.a__law_all cdv A outer s H E) (E := E) rfl rfl rfl rfl
  exact (b_one (s_ret (q_lc [("x", 1)] sc__law_all.nd (i_range1 (q_shl q_int (q_var 0)) T.n_range) (blkOk_by (N := ["many", "x", "j"]) (sc := defScope s__law_all) (own := [("x", 1)]) (by decide +kernel)) (fun _ _ _ _ _ => (g_name 1 sc__law_all.nd)) (fun _ _ _ _ _ => c_nil) (fun _ _ _ _ _ => (q_tuplec T.n_tuple (l_cons (q_lc [("j", 2)] sc__law_all.nd (i_range1 (q_var 0) T.n_range) (blk_nest (sc0 := (defScope s__law_all)) (blkOk_by (N := ["many", "x", "j"]) (own := [("j", 2)]) (by decide +kernel))) (fun _ _ _ _ _ => (g_name 2 sc__law_all.nd)) (fun _ _ _ _ _ => c_nil) (fun _ _ _ _ _ => (q_mod (q_intc T.n_int (l_cons (q_shr (q_var 1) (q_sub (q_sub (q_var 0) q_int) (q_var 2))) l_nil)) q_int))) l_nil))))))
theorem ok__law_bag (T : Txt K mg) : FnOk P w K mg base (L2.CX P w) 1 T.a__law_bag T.d__law_bag ["script"] (spM K mg 1 f__law_bag) := fn_m T.F__law_bag sc__law_bag fun cdv A outer s H E hr => by
  have tk := takes_of (X := cxOf (L2.CX P w) P w K mg base ["script", "mixed", "cell"] "_law_bag" (defScope s__law_bag) T.a__law_bag cdv A outer s H E) (E := E) rfl rfl rfl rfl
  exact (b_cons (s_set 1 sc__law_bag.nd q_int)
    (b_cons (s_for (passes_of rfl) (i_val (q_slice (q_var 0) p_none (p_some q_int))) (g_name 2 sc__law_bag.nd) (b_one (s_set 1 sc__law_bag.nd (q_mod (q_intc T.n_int (l_cons (q_pow (q_add (q_add (q_var 1) (q_mod (q_intc T.n_int (l_cons (q_var 2) l_nil)) q_int)) q_int) q_int) l_nil)) q_int))))
    (b_one (s_ret (q_lst (l_cons (q_listc T.n_list (l_cons (q_slice (q_var 0) p_none (p_some q_int)) l_nil)) (l_cons q_int (l_cons q_int (l_cons (q_var 1) (l_cons q_int l_nil))))))))))
theorem ok__law_draw (T : Txt K mg) : FnOk P w K mg base (L2.CX P w) 1 T.a__law_draw T.d__law_draw ["bag", "many"] (spM K mg 2 f__law_draw) := fn_m T.F__law_draw sc__law_draw fun cdv A outer s H E hr => by
  have tk := takes_of (X := cxOf (L2.CX P w) P w K mg base ["bag", "many", "cell", "digit"] "_law_draw" (defScope s__law_draw) T.a__law_draw cdv A outer s H E) (E := E) rfl rfl rfl rfl
  exact (b_cons (s_putL (q_var 0) q_int (q_add (q_sub_ix (q_var 0) q_int) q_int))
    (b_cons (s_if (t_w (tw_and (t_eq hr.units (q_sub_ix (q_var 0) q_int) q_int) (tw_and1 (t_lt (q_sub_ix (q_var 0) q_int) (q_len T.n_len (l_cons (q_sub_ix (q_var 0) q_int) l_nil)))))) (b_cons (s_set 2 sc__law_draw.nd (q_intc T.n_int (l_cons (q_sub_ix (q_sub_ix (q_var 0) q_int) (q_sub_ix (q_var 0) q_int)) l_nil)))
    (b_cons (s_putL (q_var 0) q_int (q_add (q_sub_ix (q_var 0) q_int) q_int))
    (b_one (s_if (t_ge (q_var 2) (q_pow q_int q_int)) (b_one (s_putL (q_var 0) q_int (q_var 2))) (b_one (s_putL (q_var 0) q_int (q_mod (q_intc T.n_int (l_cons (q_pow (q_add (q_add (q_sub_ix (q_var 0) q_int) (q_mul (q_mod (q_intc T.n_int (l_cons (q_var 2) l_nil)) q_int) q_int)) q_int) q_int) l_nil)) q_int))))))) b_nil)
    (b_cons (s_if (t_gt (q_sub_ix (q_var 0) q_int) q_int) (b_cons (s_set 3 sc__law_draw.nd (q_mod (q_intc T.n_int (l_cons (q_sub_ix (q_var 0) q_int) l_nil)) (q_var 1)))
    (b_cons (s_putL (q_var 0) q_int (q_fdiv (q_intc T.n_int (l_cons (q_sub_ix (q_var 0) q_int) l_nil)) (q_var 1)))
    (b_one (s_ret (q_var 3))))) b_nil)
    (b_cons (s_putL (q_var 0) q_int (q_mod (q_intc T.n_int (l_cons (q_pow (q_add (q_add (q_sub_ix (q_var 0) q_int) (q_mul (q_sub_ix (q_var 0) q_int) q_int)) q_int) q_int) l_nil)) q_int))
    (b_one (s_ret (q_mod (q_intc T.n_int (l_cons (q_fdiv (q_sub_ix (q_var 0) q_int) q_int) l_nil)) (q_var 1))))))))
theorem ok__law_even (T : Txt K mg) : FnOk P w K mg base (L2.CX P w) 1 T.a__law_even T.d__law_even ["rows", "spots"] (spM K mg 2 f__law_even) := fn_m T.F__law_even sc__law_even fun cdv A outer s H E hr => by
  have tk := takes_of (X := cxOf (L2.CX P w) P w K mg base ["rows", "spots", "seen", "row", "shown", "share", "k", "key"] "_law_even" (defScope s__law_even) T.a__law_even cdv A outer s H E) (E := E) rfl rfl rfl rfl
  exact (b_cons (s_set 2 sc__law_even.nd q_dnewT)
    (b_cons (s_for (passes_of rfl) (i_val (q_var 0)) (g_name 3 sc__law_even.nd) (b_cons (s_set 4 sc__law_even.nd (q_tuplec T.n_tuple (l_cons (q_lc [("k", 6)] sc__law_even.nd (i_val (q_var 1)) (blkOk_by (N := ["rows", "spots", "seen", "row", "shown", "share", "k", "key"]) (sc := defScope s__law_even) (own := [("k", 6)]) (by decide +kernel)) (fun _ _ _ _ _ => (g_name 6 sc__law_even.nd)) (fun _ _ _ _ _ => c_nil) (fun _ _ _ _ _ => (q_sub_ix (q_var 3) (q_var 6)))) l_nil)))
    (b_one (s_putD (hu_of hr) (q_var 2) (q_var 4) (q_add (q_get2 (hu_of hr) (q_var 2) (q_var 4) q_int) q_int)))))
    (b_cons (s_set 5 sc__law_even.nd (q_fdiv (q_len T.n_len (l_cons (q_var 0) l_nil)) (q_shl q_int (q_len T.n_len (l_cons (q_var 1) l_nil)))))
    (b_one (s_ret (q_and (q_eq hr.units (q_len T.n_len (l_cons (q_var 2) l_nil)) (q_shl q_int (q_len T.n_len (l_cons (q_var 1) l_nil)))) (q_one (q_all (by rfl) T.n_all (l_cons (q_lk (atVar 2) (q_lc [("key", 7)] sc__law_even.nd (i_val (q_var 2)) (blkOk_by (N := ["rows", "spots", "seen", "row", "shown", "share", "k", "key"]) (sc := defScope s__law_even) (own := [("key", 7)]) (by decide +kernel)) (fun _ _ _ _ _ => (g_name 7 sc__law_even.nd)) (fun _ _ _ _ _ => c_nil) (fun _ _ _ _ _ => (q_eq hr.units (q_dget (hu_of hr) (q_var 2) (q_var 7)) (q_var 5))))) l_nil)))))))))
theorem ok__law_like (T : Txt K mg) : ∀ k : Nat, FnOk P w K mg base (L2.CX P w) (0 + k) T.a__law_like T.d__law_like ["found", "due"] (spM K mg 2 (f__law_like k))
  | 0 => no_fuel (ps := ["found", "due"])
  | k + 1 => fn_m T.F__law_like sc__law_like fun cdv A outer s H E hr => by
    have tk := takes_of (X := cxOf (L2.CX P w) P w K mg base ["found", "due", "key", "one", "two"] "_law_like" (defScope s__law_like) T.a__law_like cdv A outer s H E) (E := E) rfl rfl rfl rfl
    have G := ok__law_like T k
    have hrG : Room (0 + k) _ := hr
    have hr : Room (0 + k) _ := hr
    exact (b_cons (s_if (t_val (q_isi2 T.n_isinstance (q_var 1) T.n_list bt_list T.n_tuple bt_tuple)) (b_cons (s_if (t_w (tw_or (t_ne hr.units (q_isi T.n_isinstance (q_var 0) T.n_list bt_list) (q_isi T.n_isinstance (q_var 1) T.n_list bt_list)) (tw_or1 (t_ne hr.units (q_isi T.n_isinstance (q_var 0) T.n_tuple bt_tuple) (q_isi T.n_isinstance (q_var 1) T.n_tuple bt_tuple))))) (b_one (s_ret q_bl)) b_nil)
    (b_one (s_ret (q_and (q_eq hr.units (q_len T.n_len (l_cons (q_var 0) l_nil)) (q_len T.n_len (l_cons (q_var 1) l_nil))) (q_one (q_all (by rfl) T.n_all (l_cons (q_lc [("one", 3), ("two", 4)] sc__law_like.nd (i_zip T.n_zip (l_cons (q_var 0) (l_cons (q_var 1) l_nil))) (blkOk_by (N := ["found", "due", "key", "one", "two"]) (sc := defScope s__law_like) (own := [("one", 3), ("two", 4)]) (by decide +kernel)) (fun _ _ _ _ _ => (g_tup (gs_cons (g_name 3 sc__law_like.nd) (gs_cons (g_name 4 sc__law_like.nd) gs_nil)))) (fun _ _ _ _ _ => c_nil) (fun _ _ _ _ _ => (q_call G hrG takes0 T.g__law_like T.F__law_like.kp T.b__law_like (l_cons (q_var 3) (l_cons (q_var 4) l_nil))))) l_nil))))))) b_nil)
    (b_cons (s_if (t_w (tw_or (t_is (q_var 1) q_non) (tw_or1 (t_is (q_var 0) q_non)))) (b_one (s_ret (q_and (q_is (q_var 1) q_non) (q_one (q_is (q_var 0) q_non))))) b_nil)
    (b_cons (s_if (t_val (q_isi T.n_isinstance (q_var 1) T.n_dict bt_dict)) (b_cons (s_if (t_w (tw_or (t_not (t_val (q_isi T.n_isinstance (q_var 0) T.n_dict bt_dict))) (tw_or1 (t_ne hr.units (q_len T.n_len (l_cons (q_var 0) l_nil)) (q_len T.n_len (l_cons (q_var 1) l_nil)))))) (b_one (s_ret q_bl)) b_nil)
    (b_one s_never)) b_nil)
    (b_cons (s_if (t_w (tw_or (t_val (q_isi3 T.n_isinstance (q_var 0) T.n_list bt_list T.n_tuple bt_tuple T.n_dict bt_dict)) (tw_or1 (t_ne hr.units (q_isi T.n_isinstance (q_var 0) T.n_bool bt_bool) (q_isi T.n_isinstance (q_var 1) T.n_bool bt_bool))))) (b_one (s_ret q_bl)) b_nil)
    (b_cons (s_if (t_w (tw_or (t_ne hr.units (q_isi T.n_isinstance (q_var 0) T.n_str bt_str) (q_isi T.n_isinstance (q_var 1) T.n_str bt_str)) (tw_or1 (t_ne hr.units (q_isi T.n_isinstance (q_var 0) T.n_int bt_int) (q_isi T.n_isinstance (q_var 1) T.n_int bt_int))))) (b_one (s_ret q_bl)) b_nil)
    (b_one (s_ret (q_eq hr.units (q_var 0) (q_var 1)))))))))
theorem ok_parity (T : Txt K mg) : FnOk P w K mg base (L2.CX P w) 1 T.a_parity T.d_parity ["bits"] (spM K mg 1 f_parity) := fn_m T.F_parity sc_parity fun cdv A outer s H E hr => by
  have tk := takes_of (X := cxOf (L2.CX P w) P w K mg base ["bits", "odd", "bit"] "parity" (defScope s_parity) T.a_parity cdv A outer s H E) (E := E) rfl rfl rfl rfl
  exact (b_cons (s_set 1 sc_parity.nd q_int)
    (b_cons (s_for (passes_of rfl) (i_val (q_var 0)) (g_name 2 sc_parity.nd) (b_one (s_ixor 1 sc_parity.nd (q_var 2))))
    (b_one (s_ret (q_var 1)))))
theorem ok_joined (T : Txt K mg) : FnOk P w K mg base (L2.CX P w) 2 T.a_joined T.d_joined ["parts"] (spM K mg 1 f_joined) := fn_m T.F_joined sc_joined fun cdv A outer s H E hr => by
  have tk := takes_of (X := cxOf (L2.CX P w) P w K mg base ["parts"] "joined" (defScope s_joined) T.a_joined cdv A outer s H E) (E := E) rfl rfl rfl rfl
  exact (b_one (s_ret (q_call (ok_parity T) (hr.mono (by decide)) tk T.g_parity T.F_parity.kp T.b_parity (l_cons (q_var 0) l_nil))))
theorem ok_parted (T : Txt K mg) : FnOk P w K mg base (L2.CX P w) 2 T.a_parted T.d_parted ["bit", "coins"] (spM K mg 2 f_parted) := fn_m T.F_parted sc_parted fun cdv A outer s H E hr => by
  have tk := takes_of (X := cxOf (L2.CX P w) P w K mg base ["bit", "coins"] "parted" (defScope s_parted) T.a_parted cdv A outer s H E) (E := E) rfl rfl rfl rfl
  exact (b_one (s_ret (q_tup (l_star (q_var 1) (l_cons (q_bxor (q_var 0) (q_call (ok_parity T) (hr.mono (by decide)) tk T.g_parity T.F_parity.kp T.b_parity (l_cons (q_var 1) l_nil))) l_nil)))))
theorem ok_law (T : Txt K mg) : FnOk P w K mg base (L2.CX P w) 9 T.a_law T.d_law ["script"] (spM K mg 1 f_law) := fn_m T.F_law sc_law fun cdv A outer s H E hr => by
  have tk := takes_of (X := cxOf (L2.CX P w) P w K mg base ["script", "bag", "n", "every", "turn", "order", "spots", "kept", "bit", "rows", "row", "handed", "told", "q", "k"] "law" (defScope s_law) T.a_law cdv A outer s H E) (E := E) rfl rfl rfl rfl
  exact (b_cons (s_set 1 sc_law.nd (q_call (ok__law_bag T) (hr.mono (by decide)) tk T.g__law_bag T.F__law_bag.kp T.b__law_bag (l_cons (q_var 0) l_nil)))
    (b_cons (s_set 2 sc_law.nd (q_ite (t_eq hr.units (q_call (ok__law_draw T) (hr.mono (by decide)) tk T.g__law_draw T.F__law_draw.kp T.b__law_draw (l_cons (q_var 1) (l_cons q_int l_nil))) q_int) q_int (q_add q_int (q_call (ok__law_draw T) (hr.mono (by decide)) tk T.g__law_draw T.F__law_draw.kp T.b__law_draw (l_cons (q_var 1) (l_cons q_int l_nil))))))
    (b_cons (s_set 3 sc_law.nd (q_call (ok__law_all T) (hr.mono (by decide)) tk T.g__law_all T.F__law_all.kp T.b__law_all (l_cons (q_sub (q_var 2) q_int) l_nil)))
    (b_cons (s_set 4 sc_law.nd (q_call (ok__law_draw T) (hr.mono (by decide)) tk T.g__law_draw T.F__law_draw.kp T.b__law_draw (l_cons (q_var 1) (l_cons (q_len T.n_len (l_cons (q_var 3) l_nil)) l_nil))))
    (b_cons (s_set 5 sc_law.nd (q_add (q_slice (q_var 3) (p_some (q_var 4)) p_none) (q_slice (q_var 3) p_none (p_some (q_var 4)))))
    (b_cons (s_if (t_eq hr.units (q_call (ok__law_draw T) (hr.mono (by decide)) tk T.g__law_draw T.F__law_draw.kp T.b__law_draw (l_cons (q_var 1) (l_cons q_int l_nil))) q_int) (b_one (s_set 5 sc_law.nd (q_rev (q_var 5)))) b_nil)
    (b_cons (s_set 6 sc_law.nd (q_slice (q_lc [("k", 14)] sc_law.nd (i_range1 (q_var 2) T.n_range) (blkOk_by (N := ["script", "bag", "n", "every", "turn", "order", "spots", "kept", "bit", "rows", "row", "handed", "told", "q", "k"]) (sc := defScope s_law) (own := [("k", 14)]) (by decide +kernel)) (fun _ _ _ _ _ => (g_name 14 sc_law.nd)) (fun _ _ _ _ _ => (c_one (t_gt (q_call (ok__law_draw T) (hr.mono (by decide)) takes0 T.g__law_draw T.F__law_draw.kp T.b__law_draw (l_cons (q_var 1) (l_cons q_int l_nil))) q_int))) (fun _ _ _ _ _ => (q_var 14))) p_none (p_some (q_sub (q_var 2) q_int))))
    (b_cons (s_set 7 sc_law.nd q_dnewT)
    (b_cons (s_for (passes_of rfl) (i_range1 q_int T.n_range) (g_name 8 sc_law.nd) (b_cons (s_set 9 sc_law.nd (q_lst l_nil))
    (b_cons (s_for (passes_of rfl) (i_val (q_var 5)) (g_name 10 sc_law.nd) (b_cons (s_set 11 sc_law.nd (q_listc T.n_list (l_cons (q_var 10) l_nil)))
    (b_cons (s_set 12 sc_law.nd (q_ite (t_eq hr.units (q_call (ok__law_draw T) (hr.mono (by decide)) tk T.g__law_draw T.F__law_draw.kp T.b__law_draw (l_cons (q_var 1) (l_cons q_int l_nil))) q_int) (q_call (ok_parted T) (hr.mono (by decide)) tk T.g_parted T.F_parted.kp T.b_parted (l_cons (q_var 8) (l_cons (q_var 11) l_nil))) (q_call (ok_parted T) (hr.mono (by decide)) tk T.g_parted T.F_parted.kp T.b_parted (l_cons (q_var 8) (l_cons (q_var 10) l_nil)))))
    (b_cons (s_if (t_not (t_val (q_call (ok__law_like T 8) (hr.mono (by decide)) tk T.g__law_like T.F__law_like.kp T.b__law_like (l_cons (q_lst (l_cons (q_var 12) (l_cons (q_var 11) l_nil))) (l_cons (q_lst (l_cons (q_add (q_var 10) (q_tup (l_cons (q_mod (q_intc T.n_int (l_cons (q_add (q_var 8) (q_sum (by rfl) T.n_sum (l_cons (q_var 10) l_nil))) l_nil)) q_int) l_nil))) (l_cons (q_listc T.n_list (l_cons (q_var 10) l_nil)) l_nil))) l_nil))))) (b_one (s_ret q_bl)) b_nil)
    (b_cons (s_if (t_not (t_val (q_call (ok__law_like T 8) (hr.mono (by decide)) tk T.g__law_like T.F__law_like.kp T.b__law_like (l_cons (q_lst (l_cons (q_call (ok_joined T) (hr.mono (by decide)) tk T.g_joined T.F_joined.kp T.b_joined (l_cons (q_var 12) l_nil)) (l_cons (q_call (ok_parted T) (hr.mono (by decide)) tk T.g_parted T.F_parted.kp T.b_parted (l_cons (q_var 8) (l_cons (q_listc T.n_list (l_cons (q_var 10) l_nil)) l_nil))) l_nil))) (l_cons (q_lst (l_cons (q_var 8) (l_cons (q_var 12) l_nil))) l_nil))))) (b_one (s_ret q_bl)) b_nil)
    (b_cons (s_expr (q_append (q_var 9) (q_var 12)))
    (b_one (s_putD (hu_of hr) (q_var 7) (q_var 12) (q_var 8)))))))))
    (b_cons (s_for (passes_of rfl) (i_range1 (q_var 2) T.n_range) (g_name 13 sc_law.nd) (b_one (s_if (t_not (t_val (q_call (ok__law_even T) (hr.mono (by decide)) tk T.g__law_even T.F__law_even.kp T.b__law_even (l_cons (q_var 9) (l_cons (q_lc [("k", 14)] sc_law.nd (i_range1 (q_var 2) T.n_range) (blkOk_by (N := ["script", "bag", "n", "every", "turn", "order", "spots", "kept", "bit", "rows", "row", "handed", "told", "q", "k"]) (sc := defScope s_law) (own := [("k", 14)]) (by decide +kernel)) (fun _ _ _ _ _ => (g_name 14 sc_law.nd)) (fun _ _ _ _ _ => (c_one (t_ne hr.units (q_var 14) (q_var 13)))) (fun _ _ _ _ _ => (q_var 14))) l_nil))))) (b_one (s_ret q_bl)) b_nil)))
    (b_one (s_if (t_not (t_val (q_call (ok__law_even T) (hr.mono (by decide)) tk T.g__law_even T.F__law_even.kp T.b__law_even (l_cons (q_var 9) (l_cons (q_var 6) l_nil))))) (b_one (s_ret q_bl)) b_nil))))))
    (b_one (s_ret (q_eq hr.units (q_len T.n_len (l_cons (q_var 7) l_nil)) (q_mul q_int (q_len T.n_len (l_cons (q_var 3) l_nil)))))))))))))))
end
end K19

namespace K19
open PySem PySem.Spec PyProof.Rows L2 Mo
theorem app_get {h t : Mh} {n : Nat} {o : MO} (e : h[n]? = some o) : (h ++ t)[n]? = some o := by rw [List.getElem?_append_left (lt_of e)]; exact e
structure Bag (h : Mh) (b : Nat) (c : Nat) (cells : List Int) (i rest mix cnt : Int) (bu : Nat) : Prop where
  bag : h[b]? = some (.lst [.ref c, .int i, .int rest, .int mix, .int cnt])
  cel : h[c]? = some (.lst (cells.map D.int))
  ne : c < b
  i0 : 0 ≤ i
  r0 : 0 ≤ rest
  m0 : 0 ≤ mix
  m1 : mix < 2305843009213693951
  c0 : 0 ≤ cnt
  c1 : cnt + bu ≤ 1000000
def BagOk (h : Mh) (b : Nat) (bu : Nat) : Prop := ∃ c cells i rest mix cnt, Bag h b c cells i rest mix cnt bu
theorem BagOk.lt {h b bu} (B : BagOk h b bu) : b < h.length := by
  obtain ⟨c, cells, i, rest, mix, cnt, B⟩ := B
  exact lt_of B.bag
theorem BagOk.ex {h h' b bu} (B : BagOk h b bu) (e : Ex h h') : BagOk h' b bu := by
  obtain ⟨c, cells, i, rest, mix, cnt, B⟩ := B
  exact ⟨c, cells, i, rest, mix, cnt, e.get B.bag, e.get B.cel, B.ne, B.i0, B.r0, B.m0, B.m1, B.c0, B.c1⟩
theorem BagOk.less {h b bu bu'} (B : BagOk h b bu) (l : bu' ≤ bu) : BagOk h b bu' := by
  obtain ⟨c, cells, i, rest, mix, cnt, B⟩ := B
  have := B.c1
  exact ⟨c, cells, i, rest, mix, cnt, B.bag, B.cel, B.ne, B.i0, B.r0, B.m0, B.m1, B.c0, by omega⟩
theorem BagOk.put {h b n o bu} (B : BagOk h b bu) (l : b < n) : BagOk (h.set n o) b bu := by
  obtain ⟨c, cells, i, rest, mix, cnt, B⟩ := B
  have := B.ne
  exact ⟨c, cells, i, rest, mix, cnt, (set_off (by omega)).trans B.bag, (set_off (by omega)).trans B.cel, B.ne, B.i0, B.r0, B.m0, B.m1, B.c0, B.c1⟩
theorem draw_ok {h : Mh} {b bu : Nat} {size : Int} (B : BagOk h b (bu + 1)) (s0 : 0 < size) (s1 : size < 1073741824) : (f__law_draw [.ref b, .int size] h).wp fun d h' => ∃ k : Int, d = .int k ∧ 0 ≤ k ∧ k < size ∧ BagOk h' b bu ∧ Gr b h h' := by
  obtain ⟨c, cells, i, rest, mix, cnt, B⟩ := B
  have hb := B.bag
  have hc := B.cel
  have hbl := lt_of hb
  have hcl := lt_of hc
  have cb : c ≠ b := Nat.ne_of_lt B.ne
  have bc := cb.symm
  have hs : ∀ o, (h.set b o)[b]? = some o := fun o => set_at hbl
  have hcs : ∀ o, (h.set b o)[c]? = some (.lst (cells.map D.int)) := fun o => (set_off bc).trans hc
  clear hbl hcl
  have c0 := B.c0
  have c1 := B.c1
  have hm : ∀ x c : Int, 0 ≤ x → x < 2305843009213693951 → 0 ≤ c → c ≤ 1000000 → (x + c * 1000003 + 31).natAbs < 1267650600228229401496703205376 := fun x c _ _ _ _ => by omega
  have hm2 : ∀ x y : Int, 0 ≤ x → x < 2305843009213693951 → (x + y % 2305843009213693921 * 11 + 41).natAbs < 1267650600228229401496703205376 := fun x y _ _ => by omega
  have s2 : size < 18446744073709551616 := by omega
  have fin : ∀ (i rest mix cnt : Int), 0 ≤ i → 0 ≤ rest → 0 ≤ mix → mix < 2305843009213693951 → 0 ≤ cnt → cnt + bu ≤ 1000000 → BagOk (h.set b (.lst [.ref c, .int i, .int rest, .int mix, .int cnt])) b bu ∧ Gr b h (h.set b (.lst [.ref c, .int i, .int rest, .int mix, .int cnt])) := fun i rest mix cnt h1 h2 h3 h4 h5 h6 => ⟨⟨c, cells, i, rest, mix, cnt, hs _, hcs _, B.ne, h1, h2, h3, h4, h5, h6⟩, Gr.rfl.put (.inr rfl)⟩
  have i0 := B.i0
  have r0 := B.r0
  have m0 := B.m0
  have m1 := B.m1
  have last : ∀ (i : Int) (mx : Int), 0 ≤ i → ∃ k : Int, D.int (((mx ^ 3 % 2305843009213693951) / 1073741827) % size) = D.int k ∧ 0 ≤ k ∧ k < size ∧ BagOk (h.set b (.lst [.ref c, .int i, .int 0, .int (mx ^ 3 % 2305843009213693951), .int (cnt + 1)])) b bu ∧ Gr b h (h.set b (.lst [.ref c, .int i, .int 0, .int (mx ^ 3 % 2305843009213693951), .int (cnt + 1)])) := fun i mx hi => ⟨_, rfl, Int.emod_nonneg _ (by omega), Int.emod_lt_of_pos _ s0, fin _ _ _ _ hi (by omega) (by omega) (by omega) (by omega) (by omega)⟩
  unfold f__law_draw m__law_draw
  simp [startD, List.replicate, hb, hc, atI, ixN, hs, hcs, s0, s1, i0]
  split
  · rename_i z
    subst z
    split
    · rename_i l
      have l' : i.toNat < cells.length := by omega
      simp [startD, List.replicate, hb, hc, atI, ixN, hs, hcs, s0, s1, s2, i0, List.getElem?_eq_getElem l', l]
      split
      · rename_i big
        have : 0 < cells[i.toNat] := by omega
        simp [startD, List.replicate, hb, hc, atI, ixN, hs, hcs, s0, s1, s2, i0, this]
        exact ⟨Int.emod_nonneg _ (by omega), Int.emod_lt_of_pos _ s0, fin _ _ _ _ (by omega) (Int.ediv_nonneg (by omega) (by omega)) m0 m1 (by omega) (by omega)⟩
      · have e1 := hm2 mix cells[i.toNat] m0 m1
        simp [startD, List.replicate, hb, hc, atI, ixN, hs, hcs, s0, s1, s2, i0, e1]
        generalize hq : (mix + cells[i.toNat] % 2305843009213693921 * 11 + 41) ^ 3 % 2305843009213693951 = q
        have q1 : 0 ≤ q := by omega
        have q2 : q < 2305843009213693951 := by omega
        have e2 := hm q (cnt + 1) q1 q2 (by omega) (by omega)
        simp [startD, List.replicate, hb, hc, atI, ixN, hs, hcs, s0, s1, s2, e2, i0]
        simpa using last _ _ (by omega : 0 ≤ i + 1)
    · have e2 := hm mix (cnt + 1) m0 m1 (by omega) (by omega)
      simp [startD, List.replicate, hb, hc, atI, ixN, hs, hcs, s0, s1, s2, e2, i0]
      simpa using last _ _ i0
  · have : 0 < rest := by omega
    simp [startD, List.replicate, hb, hc, atI, ixN, hs, hcs, s0, s1, s2, i0, this]
    exact ⟨Int.emod_nonneg _ (by omega), Int.emod_lt_of_pos _ s0, fin _ _ _ _ i0 (Int.ediv_nonneg (by omega) (by omega)) m0 m1 (by omega) (by omega)⟩
theorem bag_ok {h : Mh} {r : Nat} {ns : List Int} (hr : h[r]? = some (.fls (ns.map D.int))) (l : ns.length ≤ 63) : (f__law_bag [.ref r] h).wp fun d h' => ∃ b, d = .ref b ∧ BagOk h' b 1000000 ∧ Ex h h' := by
  unfold f__law_bag m__law_bag
  simp [startD, List.replicate, hr]
  refine loop (fun j sg h' => (∃ mix x, sg = [some (.ref r), some (.int mix), x] ∧ 0 ≤ mix ∧ mix < 2305843009213693951) ∧ h' = h ++ [.lst (Mo.cutD (ns.map D.int) none (some 63))]) ⟨⟨_, _, rfl, by decide, by decide⟩, rfl⟩ (fun j x sg h' e ⟨⟨mix, y, es, m0, m1⟩, eh⟩ => ?_) (fun sg h' ⟨⟨mix, y, es, m0, m1⟩, eh⟩ => ?_)
  · subst es eh
    have : ∃ i, x = .int i := by
      have : x ∈ Mo.cutD (ns.map D.int) none (some 63) := List.mem_of_getElem? e
      have : x ∈ ns.map D.int := List.mem_of_mem_drop (List.mem_of_mem_take this)
      obtain ⟨i, _, q⟩ := List.mem_map.mp this
      exact ⟨i, q.symm⟩
    obtain ⟨i, rfl⟩ := this
    refine ⟨srcL_at at_end e, _, rfl, ?_⟩
    have e1 : (mix + i % 2305843009213693921 + 389).natAbs < 1267650600228229401496703205376 := by omega
    simp [e1]
    constructor <;> omega
  · subst es eh
    refine ⟨srcL_fin at_end, ?_⟩
    have g : (h ++ [.lst (Mo.cutD (ns.map D.int) none (some 63))])[r]? = some (.fls (ns.map D.int)) := by rw [List.getElem?_append_left (lt_of hr)]; exact hr
    simp [g]
    obtain ⟨cells, ec⟩ : ∃ cells : List Int, Mo.cutD (ns.map D.int) none (some 63) = cells.map D.int := ⟨_, by unfold Mo.cutD; rw [List.map_take, List.map_drop]⟩
    refine ⟨⟨h.length + 2, cells, 0, 0, mix, 0, by simp, by rw [ec]; simp, by omega, by decide, by decide, m0, m1, by decide, by decide⟩, Ex.app⟩
end K19

namespace K19
open PySem PySem.Spec PyProof.Rows L2 Mo
/-! a comprehension whose items make new things -/
theorem lc_ex {s : Src} {g : D → Sg → Option Sg} {me : Sg → Mh → R D} {sg : Sg} {h : Mh} (F : D → D) {items : List D} (hl : items.length ≤ sizeLine)
    (hx : ∀ j x acc h', items[j]? = some x → Ex h h' → h'[h.length]? = some (.lst acc) → s.at' j x h' ∧ ∃ sg1, g x sg = some sg1 ∧ (me sg1 h').wp fun d h2 => d = F x ∧ Ex h' h2)
    (fin : ∀ h', Ex h h' → s.fin items.length h') (hi : items = s.items := by simp) : (lcL s g mYes me sg h.length items 0 (h ++ [.lst []])).wp fun d h' => d = .ref h.length ∧ Ex h h' ∧ h'[h.length]? = some (.lst (items.map F)) := by
  subst hi
  show (lcL s g mYes me sg h.length (s.items.drop 0) 0 (h ++ [.lst []])).wp _
  refine lc_wp (fun j acc h' => acc = (s.items.take j).map F ∧ Ex h h') (fun j x acc h' e ⟨ea, eh⟩ hn => ?_) (fun acc h' ⟨ea, eh⟩ hn => ?_) s.items.length 0 [] _ (by simp) ⟨by simp, Ex.app⟩ at_end
  · obtain ⟨a, sg1, e1, e2⟩ := hx j x acc h' e eh hn
    have lj : j < s.items.length := (List.getElem?_eq_some_iff.mp e).1
    have tk : s.items.take (j + 1) = s.items.take j ++ [x] := by rw [List.take_add_one, e]; rfl
    refine ⟨a, sg1, e1, ?_⟩
    simp only [w_yes, wp_ok, if_true]
    refine e2.mono fun d h2 ⟨ed, e3⟩ => ?_
    subst ed
    refine ⟨e3.get hn, ?_, ?_, ?_⟩
    · rw [ea, List.length_map, List.length_take]; omega
    · rw [tk, List.map_append, ← ea]; rfl
    · exact (eh.trans e3).put (Nat.le_refl _)
  · rw [List.take_length] at ea
    exact ⟨fin h' eh, by rfl, eh, by rw [hn, ea]⟩
theorem lc_exn {s : Src} {g : D → Sg → Option Sg} {me : Sg → Mh → R D} {sg : Sg} {h : Mh} {n : Nat} (hh : n = h.length) (F : D → D) {items : List D} (hl : items.length ≤ sizeLine)
    (hx : ∀ j x acc h', items[j]? = some x → Ex h h' → h'[n]? = some (.lst acc) → s.at' j x h' ∧ ∃ sg1, g x sg = some sg1 ∧ (me sg1 h').wp fun d h2 => d = F x ∧ Ex h' h2)
    (fin : ∀ h', Ex h h' → s.fin items.length h') (hi : items = s.items := by simp) : (lcL s g mYes me sg n items 0 (h ++ [.lst []])).wp fun d h' => d = .ref n ∧ Ex h h' ∧ h'[n]? = some (.lst (items.map F)) := by
  subst hh
  exact lc_ex F hl hx fin hi
/-! found is like due -/
inductive Lk : Nat → Mh → D → D → Prop
  | int {k h} (x : Int) : Lk (k + 1) h (.int x) (.int x)
  | tup {k h} {xs ys : List D} : xs.length = ys.length → xs.length ≤ 1000 → (∀ (i : Nat) (x y : D), xs[i]? = some x → ys[i]? = some y → Lk k h x y) → Lk (k + 1) h (.tup xs) (.tup ys)
  | lst {k h} {n m : Nat} {xs ys : List D} : h[n]? = some (.lst xs) → h[m]? = some (.lst ys) → xs.length = ys.length → xs.length ≤ 1000 → (∀ (i : Nat) (x y : D), xs[i]? = some x → ys[i]? = some y → Lk k h x y) → Lk (k + 1) h (.ref n) (.ref m)
theorem Lk.ex {k h h' x y} (l : Lk k h x y) (e : Ex h h') : Lk k h' x y := by
  induction l with
  | int x => exact .int x
  | tup a b c ih => exact .tup a b fun i x y e1 e2 => ih i x y e1 e2 e
  | lst n m a b c ih => exact .lst (e.get n) (e.get m) a b fun i x y e1 e2 => ih i x y e1 e2 e
theorem zipD_length : ∀ {xs ys : List D}, xs.length = ys.length → (zipD xs ys).length = xs.length
  | [], [], _ => rfl
  | [], _ :: _, e => by cases e
  | _ :: _, [], e => by cases e
  | x :: xs, y :: ys, e => congrArg (· + 1) (zipD_length (Nat.succ.inj e))
theorem bools_true : ∀ n : Nat, boolsOf (List.replicate n (.bl true)) = some (List.replicate n true)
  | 0 => rfl
  | n + 1 => by rw [List.replicate_succ, List.replicate_succ]; show (boolsOf _).map _ = _; rw [bools_true n]; rfl
theorem like_ok : ∀ (k : Nat) (h : Mh) (x y : D), Lk k h x y → (f__law_like k [x, y] h).wp fun d h' => d = .bl true ∧ Ex h h'
  | 0, h, x, y, l => by cases l
  | k + 1, h, x, y, l => by
    cases l with
    | int x =>
      unfold f__law_like m__law_like
      simp [startD, List.replicate, dIs, dIsi1, dIsi2, dIsi3, tyD, knT, isiB]
      exact Ex.rfl
    | @tup _ _ xs ys a b c =>
      unfold f__law_like m__law_like
      simp [startD, List.replicate, dIs, dIsi1, dIsi2, dIsi3, tyD, knT, isiB, a, wipeD]
      refine (lc_ex (fun _ => .bl true) (Nat.le_trans (by rw [zipD_length a]; omega) line_le) (fun j x acc h' e eh hn => ?_) (fun h' eh => trivial)).mono fun d h' ⟨ed, eh, hn⟩ => ?_
      · obtain ⟨p, q, e1, e2, rfl⟩ := zipD_get e
        refine ⟨trivial, _, rfl, ?_⟩
        simp
        exact like_ok k h' p q ((c j p q e1 e2).ex eh)
      · subst ed
        simp [dAll, hn, List.map_const', bools_true]
        exact eh
    | @lst _ _ n m xs ys e1 e2 a b c =>
      unfold f__law_like m__law_like
      simp [startD, List.replicate, dIs, dIsi1, dIsi2, dIsi3, tyD, knT, isiB, e1, e2, a, wipeD]
      refine (lc_ex (s := srcZ n m xs ys) (items := zipD xs ys) (fun _ => .bl true) (Nat.le_trans (by rw [zipD_length a]; omega) line_le) (fun j x acc h' e eh hn => ?_) (fun h' eh => ⟨xs, ys, .inl (eh.get e1), .inl (eh.get e2), zipD_len xs ys⟩) rfl).mono fun d h' ⟨ed, eh, hn⟩ => ?_
      · obtain ⟨p, q, g1, g2, rfl⟩ := zipD_get e
        refine ⟨⟨p, q, rfl, srcL_at (eh.get e1) g1, srcL_at (eh.get e2) g2⟩, _, rfl, ?_⟩
        simp
        exact like_ok k h' p q ((c j p q g1 g2).ex eh)
      · subst ed
        simp [dAll, hn, List.map_const', bools_true]
        exact eh
/-! bits -/
def T (l : List Int) : D := .tup (l.map D.int)
def IsBits (l : List Int) : Prop := ∀ b ∈ l, b = 0 ∨ b = 1
def par (l : List Int) : Int := l.foldl (fun a b => Builtin.bitXor a b) 0
theorem xor_bits {a b : Int} (ha : a = 0 ∨ a = 1) (hb : b = 0 ∨ b = 1) : Builtin.bitXor a b = (a + b) % 2 := by
  rcases ha with rfl | rfl <;> rcases hb with rfl | rfl <;> decide
theorem fold_bits : ∀ (l : List Int) (a : Int), (a = 0 ∨ a = 1) → IsBits l → l.foldl (fun a b => Builtin.bitXor a b) a = (a + l.sum) % 2
  | [], a, ha, _ => by simp; omega
  | x :: l, a, ha, hl => by
    have hx := hl x (by simp)
    have e := xor_bits ha hx
    rw [List.foldl_cons, e, fold_bits l _ (by omega) (fun b hb => hl b (List.mem_cons_of_mem _ hb)), List.sum_cons]
    omega
theorem par_eq {l : List Int} (h : IsBits l) : par l = l.sum % 2 := by
  unfold par; rw [fold_bits l 0 (.inl rfl) h]; simp
theorem parity_at {h : Mh} {x : D} {s : Src} {l : List Int} (e0 : dIter x h = .ok s h) (es : s.items = l.map D.int) (hat : ∀ i d, s.items[i]? = some d → s.at' i d h) (hfin : s.fin s.items.length h) : (f_parity [x] h).wp fun d h' => d = .int (par l) ∧ h' = h := by
  unfold f_parity m_parity
  simp [startD, List.replicate, e0]
  refine loop (fun j sg h' => (∃ y, sg = [some x, some (.int (par (l.take j))), y]) ∧ h' = h) ⟨⟨none, rfl⟩, rfl⟩ (fun j d sg h' e ⟨⟨y, eg⟩, eh⟩ => ?_) (fun sg h' ⟨⟨y, eg⟩, eh⟩ => ?_) rfl
  · subst eg eh
    refine ⟨hat j d e, _, rfl, ?_⟩
    rw [es, List.getElem?_map] at e
    cases q : l[j]? with
    | none => rw [q] at e; cases e
    | some b =>
      rw [q] at e; cases e
      simp
      rw [List.take_add_one, q]
      unfold par
      rw [List.foldl_append]; rfl
  · subst eg eh
    refine ⟨hfin, ?_⟩
    rw [es]
    simp
theorem parity_t {h : Mh} {l : List Int} : (f_parity [T l] h).wp fun d h' => d = .int (par l) ∧ h' = h := parity_at (s := srcT (l.map D.int)) rfl rfl (fun _ _ _ => trivial) trivial
theorem parity_l {h : Mh} {n : Nat} {l : List Int} (e : h[n]? = some (.lst (l.map D.int))) : (f_parity [.ref n] h).wp fun d h' => d = .int (par l) ∧ h' = h := parity_at (s := srcL n (l.map D.int)) (by simp [e]) rfl (fun _ _ q => srcL_at e q) (srcL_fin e)
def told (b : Int) (l : List Int) : List Int := l ++ [(b + l.sum) % 2]
theorem par_bit {l : List Int} (h : IsBits l) : par l = 0 ∨ par l = 1 := by rw [par_eq h]; omega
theorem told_x {b : Int} {l : List Int} (hb : b = 0 ∨ b = 1) (h : IsBits l) : Builtin.bitXor b (par l) = (b + l.sum) % 2 := by
  rw [xor_bits hb (par_bit h), par_eq h]; omega
theorem parted_t {h : Mh} {b : Int} {l : List Int} (hb : b = 0 ∨ b = 1) (hl : IsBits l) (len : l.length ≤ 100) : (f_parted [.int b, T l] h).wp fun d h' => d = T (told b l) ∧ h' = h := by
  have e : LenE (l.length + 1) := lenE (by omega)
  unfold f_parted m_parted
  simp [startD, List.replicate]
  unfold T
  simp
  refine parity_t.mono fun d h' ⟨ed, eh⟩ => ?_
  subst ed eh
  simp [e, told, told_x hb hl]
theorem parted_l {h : Mh} {b : Int} {n : Nat} {l : List Int} (e0 : h[n]? = some (.lst (l.map D.int))) (hb : b = 0 ∨ b = 1) (hl : IsBits l) (len : l.length ≤ 100) : (f_parted [.int b, .ref n] h).wp fun d h' => d = T (told b l) ∧ h' = h := by
  have e : LenE (l.length + 1) := lenE (by omega)
  unfold f_parted m_parted
  simp [startD, List.replicate, e0]
  refine (parity_l e0).mono fun d h' ⟨ed, eh⟩ => ?_
  subst ed eh
  simp [e, T, told, told_x hb hl]
theorem told_bits {b : Int} {l : List Int} (hl : IsBits l) : IsBits (told b l) := fun x hx => by
  rcases List.mem_append.mp hx with h | h
  · exact hl x h
  · rw [List.mem_singleton.mp h]; omega
theorem joined_t {h : Mh} {b : Int} {l : List Int} (hb : b = 0 ∨ b = 1) (hl : IsBits l) : (f_joined [T (told b l)] h).wp fun d h' => d = .int b ∧ h' = h := by
  unfold f_joined m_joined
  simp [startD, List.replicate]
  refine parity_t.mono fun d h' ⟨ed, eh⟩ => ?_
  subst ed eh
  simp
  rw [par_eq (told_bits hl)]
  unfold told
  rw [List.sum_append]
  simp
  omega
end K19

namespace K19
open PySem PySem.Spec PyProof.Rows L2 Mo
/-! ### all rows of bits -/
def bitsOf (m x : Nat) : List Int := (List.range m).map fun j => ((x / 2 ^ (m - 1 - j) % 2 : Nat) : Int)
def A : Nat → List (List Int)
  | 0 => [[]]
  | m + 1 => (A m).map (0 :: ·) ++ (A m).map (1 :: ·)
theorem A_len : ∀ m, (A m).length = 2 ^ m
  | 0 => rfl
  | m + 1 => by simp [A, A_len m]; omega
theorem bitsOf_low {m x : Nat} (h : x < 2 ^ m) : bitsOf (m + 1) x = 0 :: bitsOf m x := by
  unfold bitsOf
  rw [List.range_succ_eq_map, List.map_cons, List.map_map]
  have e0 : x / 2 ^ (m + 1 - 1 - 0) % 2 = 0 := by
    rw [show m + 1 - 1 - 0 = m by omega, Nat.div_eq_of_lt h]
  rw [e0]
  refine congrArg _ (List.map_congr_left fun j hj => ?_)
  show ((x / 2 ^ (m + 1 - 1 - (j + 1)) % 2 : Nat) : Int) = _
  rw [show m + 1 - 1 - (j + 1) = m - 1 - j by omega]
theorem bitsOf_high {m x : Nat} (h : x < 2 ^ m) : bitsOf (m + 1) (2 ^ m + x) = 1 :: bitsOf m x := by
  unfold bitsOf
  rw [List.range_succ_eq_map, List.map_cons, List.map_map]
  have e0 : (2 ^ m + x) / 2 ^ (m + 1 - 1 - 0) % 2 = 1 := by
    rw [show m + 1 - 1 - 0 = m by omega, Nat.add_div_left _ (Nat.two_pow_pos m), Nat.div_eq_of_lt h]
  rw [e0]
  refine congrArg _ (List.map_congr_left fun j hj => ?_)
  show (((2 ^ m + x) / 2 ^ (m + 1 - 1 - (j + 1)) % 2 : Nat) : Int) = _
  rw [show m + 1 - 1 - (j + 1) = m - 1 - j by omega]
  have hj : j < m := by simpa using hj
  have e1 : 2 ^ m = 2 ^ (m - 1 - j) * (2 * 2 ^ j) := by
    rw [← Nat.mul_assoc, Nat.mul_comm _ 2, ← Nat.pow_succ', ← Nat.pow_add]
    congr 1; omega
  have : (2 ^ m + x) / 2 ^ (m - 1 - j) % 2 = x / 2 ^ (m - 1 - j) % 2 := by
    rw [e1, Nat.mul_add_div (Nat.two_pow_pos _)]
    omega
  rw [this]
theorem A_eq : ∀ m, A m = (List.range (2 ^ m)).map (bitsOf m)
  | 0 => rfl
  | m + 1 => by
    rw [A, A_eq m, Nat.pow_succ, Nat.mul_two, List.range_add, List.map_append, List.map_map, List.map_map, List.map_map]
    congr 1
    · exact List.map_congr_left fun x hx => (bitsOf_low (by simpa using hx)).symm
    · exact List.map_congr_left fun x hx => (bitsOf_high (by simpa using hx)).symm
theorem A_row {m : Nat} {l : List Int} (h : l ∈ A m) : l.length = m ∧ IsBits l := by
  induction m generalizing l with
  | zero => simp [A] at h; subst h; exact ⟨rfl, by intro b hb; cases hb⟩
  | succ m ih =>
    rcases List.mem_append.mp h with h | h <;> obtain ⟨r, hr, rfl⟩ := List.mem_map.mp h <;> obtain ⟨i1, i2⟩ := ih hr
    · exact ⟨by simp [i1], fun b hb => by rcases List.mem_cons.mp hb with rfl | hb; exact .inl rfl; exact i2 b hb⟩
    · exact ⟨by simp [i1], fun b hb => by rcases List.mem_cons.mp hb with rfl | hb; exact .inr rfl; exact i2 b hb⟩
theorem A_all {m : Nat} {l : List Int} (h : l.length = m) (hb : IsBits l) : l ∈ A m := by
  induction m generalizing l with
  | zero => rw [List.length_eq_zero_iff.mp h]; simp [A]
  | succ m ih =>
    cases l with
    | nil => cases h
    | cons x r =>
      have := ih (Nat.succ.inj h) (fun b q => hb b (List.mem_cons_of_mem _ q))
      rcases hb x (by simp) with rfl | rfl
      · exact List.mem_append_left _ (List.mem_map.mpr ⟨r, this, rfl⟩)
      · exact List.mem_append_right _ (List.mem_map.mpr ⟨r, this, rfl⟩)
theorem A_nodup : ∀ m, (A m).Nodup
  | 0 => by simp [A]
  | m + 1 => by
    rw [A, List.nodup_append]
    refine ⟨?_, ?_, ?_⟩
    · exact List.Pairwise.map _ (fun a b h e => h (List.cons.inj e).2) (A_nodup m)
    · exact List.Pairwise.map _ (fun a b h e => h (List.cons.inj e).2) (A_nodup m)
    · intro a ha b hb e
      obtain ⟨r, _, rfl⟩ := List.mem_map.mp ha
      obtain ⟨q, _, rfl⟩ := List.mem_map.mp hb
      have := (List.cons.inj e).1
      omega
theorem all_ok {h : Mh} {m : Nat} (hm : m ≤ 9) : (f__law_all [.int (m : Int)] h).wp fun d h' => ∃ r, d = .ref r ∧ h.length ≤ r ∧ Ex h h' ∧ h'[r]? = some (.lst ((A m).map T)) := by
  have h2 : 2 ^ m ≤ 512 := Nat.pow_le_pow_right (by decide) hm
  have tp : (2 : Int) ^ m = ((2 ^ m : Nat) : Int) := by simp
  have e2 : InR ((2 : Int) ^ m) := by rw [tp]; generalize 2 ^ m = N at h2 ⊢; exact inR_of (by omega) (by omega)
  have e3 : InR (m : Int) := inR_of (by omega) (by omega)
  have m6 : (m : Int) ≤ 1000000 := by omega
  unfold f__law_all m__law_all
  simp [startD, List.replicate, e2, m6, wipeD]
  have tn : ((2 : Int) ^ m).toNat = 2 ^ m := by
    have : (2 : Int) ^ m = ((2 ^ m : Nat) : Int) := by simp
    rw [this]; rfl
  rw [tn]
  refine (lc_ex (s := srcR 0 (2 ^ m)) (items := (List.range (2 ^ m)).map fun k : Nat => D.int (k : Int)) (fun d => match d with | .int x => T (bitsOf m x.toNat) | _ => .non) (Nat.le_trans (by simp; omega) line_le) (fun j x acc h' e eh hn => ?_) (fun h' eh => trivial) (by simp)).mono fun d h' ⟨ed, eh, hn⟩ => ?_
  · rw [List.getElem?_map] at e
    cases q : (List.range (2 ^ m))[j]? with
    | none => rw [q] at e; cases e
    | some k =>
      rw [q] at e; cases e
      refine ⟨trivial, _, rfl, ?_⟩
      simp [wipeD, e3]
      refine (lc_ex (s := srcR 0 m) (items := (List.range m).map fun k : Nat => D.int (k : Int)) (fun d => match d with | .int j => .int (((k / 2 ^ (m - 1 - j.toNat) % 2 : Nat) : Int)) | _ => .non) (Nat.le_trans (by simp; omega) line_le) (fun j x acc h2 e eh2 hn2 => ?_) (fun h' eh => trivial) (by simp)).mono fun d h2 ⟨ed, eh2, hn2⟩ => ?_
      · rw [List.getElem?_map] at e
        cases q2 : (List.range m)[j]? with
        | none => rw [q2] at e; cases e
        | some i =>
          rw [q2] at e; cases e
          have il : i < m := by
            have := List.mem_of_getElem? q2
            simpa using this
          refine ⟨trivial, _, rfl, ?_⟩
          have p0 : (0 : Int) ≤ (m : Int) - 1 - (i : Int) := by omega
          have pe : ((m : Int) - 1 - (i : Int)).toNat = m - 1 - i := by omega
          simp [p0, pe]
          refine ⟨?_, Ex.rfl⟩
          omega
      · subst ed
        simp [hn2]
        refine ⟨?_, eh2⟩
        simp [T, bitsOf, Function.comp_def]
  · subst ed
    simp
    refine ⟨eh, ?_⟩
    rw [hn, A_eq]
    simp [Function.comp_def]
end K19

namespace K19
open PySem PySem.Spec PyProof.Rows L2 Mo
/-! ### counting -/
def sel : List Bool → List Int → List Int
  | true :: m, x :: r => x :: sel m r
  | false :: m, x :: r => sel m r
  | _, _ => []
def trues (m : List Bool) : Nat := m.countP id
theorem trues_le (m : List Bool) : trues m ≤ m.length := List.countP_le_length
theorem told_cons (b x : Int) (l : List Int) : told b (x :: l) = x :: told (b + x) l := by
  unfold told
  rw [List.sum_cons, List.cons_append, Int.add_assoc]
def cn (N : Nat) (b : Int) (m : List Bool) (κ : List Int) : Nat := (A N).countP fun l => decide (sel m (told b l) = κ)
theorem cn_step (N : Nat) (b : Int) (m : List Bool) (κ : List Int) : cn (N + 1) b m κ = (A N).countP (fun l => decide (sel m (0 :: told (b + 0) l) = κ)) + (A N).countP (fun l => decide (sel m (1 :: told (b + 1) l) = κ)) := by
  unfold cn
  rw [A, List.countP_append, List.countP_map, List.countP_map]
  congr 1 <;> (refine congrArg (fun f => List.countP f (A N)) (funext fun l => ?_); simp only [Function.comp_apply, told_cons])
theorem cn_main : ∀ (N : Nat) (b : Int) (m : List Bool) (κ : List Int), m.length = N + 1 → IsBits κ → κ.length = trues m → (trues m ≤ N → cn N b m κ = 2 ^ (N - trues m)) ∧ (trues m = N + 1 → cn N b m κ + cn N (b + 1) m κ = 1)
  | 0, b, m, κ, hm, hκ, hl => by
    match m, hm with
    | [false], _ =>
      have : κ = [] := List.length_eq_zero_iff.mp hl
      subst this
      exact ⟨fun _ => by simp [cn, A, told, sel, trues], fun z => by simp [trues] at z⟩
    | [true], _ =>
      match κ, hl with
      | [v], _ =>
        refine ⟨fun z => by simp [trues] at z, fun _ => ?_⟩
        have hv := hκ v (by simp)
        have e1 : cn 0 b [true] [v] = if b % 2 = v then 1 else 0 := by simp [cn, A, told, sel, List.countP_cons]
        have e2 : cn 0 (b + 1) [true] [v] = if (b + 1) % 2 = v then 1 else 0 := by simp [cn, A, told, sel, List.countP_cons]
        rw [e1, e2]
        split <;> split <;> omega
  | N + 1, b, m, κ, hm, hκ, hl => by
    match m, hm with
    | false :: m', hm =>
      have hm' : m'.length = N + 1 := Nat.succ.inj hm
      have ht : trues (false :: m') = trues m' := by simp [trues]
      have e : ∀ b, cn (N + 1) b (false :: m') κ = cn N b m' κ + cn N (b + 1) m' κ := fun b => by
        rw [cn_step]
        unfold cn
        simp [sel]
        rfl
      rw [ht] at hl ⊢
      have tl := trues_le m'
      refine ⟨fun h => ?_, fun h => by omega⟩
      rw [e]
      by_cases h' : trues m' ≤ N
      · rw [(cn_main N b m' κ hm' hκ hl).1 h', (cn_main N (b + 1) m' κ hm' hκ hl).1 h', show N + 1 - trues m' = N - trues m' + 1 by omega, Nat.pow_succ]; omega
      · rw [(cn_main N b m' κ hm' hκ hl).2 (by omega), show N + 1 - trues m' = 0 by omega]
    | true :: m', hm =>
      have hm' : m'.length = N + 1 := Nat.succ.inj hm
      have ht : trues (true :: m') = trues m' + 1 := by simp [trues]
      match κ, hl with
      | [], hl => rw [ht] at hl; cases hl
      | v :: κ', hl =>
        have hl' : κ'.length = trues m' := by rw [ht] at hl; exact Nat.succ.inj hl
        have hκ' : IsBits κ' := fun x hx => hκ x (List.mem_cons_of_mem _ hx)
        have e : ∀ b, cn (N + 1) b (true :: m') (v :: κ') = cn N (b + v) m' κ' := fun b => by
          rw [cn_step]
          unfold cn
          rcases hκ v (by simp) with rfl | rfl
          · simp [sel]
          · simp [sel]
        rw [ht]
        refine ⟨fun h => ?_, fun h => ?_⟩
        · rw [e, (cn_main N (b + v) m' κ' hm' hκ' hl').1 (by omega), show N + 1 - (trues m' + 1) = N - trues m' by omega]
        · rw [e, e, show b + 1 + v = b + v + 1 by omega]
          exact (cn_main N (b + v) m' κ' hm' hκ' hl').2 (by omega)
/-! ### spots -/
def pos (o : Nat) : List Bool → List Int
  | [] => []
  | true :: m => (o : Int) :: pos (o + 1) m
  | false :: m => pos (o + 1) m
theorem pos_app (b : Bool) : ∀ (m : List Bool) (o : Nat), pos o (m ++ [b]) = pos o m ++ (if b = true then [((o + m.length : Nat) : Int)] else [])
  | [], o => by cases b <;> simp [pos]
  | true :: m, o => by simp only [List.cons_append, pos, pos_app b m (o + 1), List.length_cons]; rw [show o + 1 + m.length = o + (m.length + 1) by omega]
  | false :: m, o => by simp only [List.cons_append, pos, pos_app b m (o + 1), List.length_cons]; rw [show o + 1 + m.length = o + (m.length + 1) by omega]
theorem pos_len : ∀ (m : List Bool) (o : Nat), (pos o m).length = trues m
  | [], o => rfl
  | true :: m, o => by simp [pos, pos_len m, trues]
  | false :: m, o => by simp [pos, pos_len m, trues]
theorem pos_mem : ∀ (m : List Bool) (o : Nat) (k : Int), k ∈ pos o m → (o : Int) ≤ k ∧ k < ((o + m.length : Nat) : Int)
  | [], o, k, h => by cases h
  | true :: m, o, k, h => by
    rcases List.mem_cons.mp h with rfl | h
    · simp; omega
    · have := pos_mem m (o + 1) k h
      simp only [List.length_cons]; omega
  | false :: m, o, k, h => by
    have := pos_mem m (o + 1) k h
    simp only [List.length_cons]; omega
def proj (ks : List Int) (r : List Int) : List Int := ks.map fun k => (r[k.toNat]?).getD 0
theorem proj_pos : ∀ (m : List Bool) (p r : List Int), r.length = m.length → proj (pos p.length m) (p ++ r) = sel m r
  | [], p, r, h => by rw [List.length_eq_zero_iff.mp h]; rfl
  | x :: m, p, [], h => by cases h
  | true :: m, p, y :: r, h => by
    have ih := proj_pos m (p ++ [y]) r (Nat.succ.inj h)
    rw [List.length_append, List.append_assoc] at ih
    simp only [pos, sel, proj, List.map_cons]
    unfold proj at ih
    rw [show [y] ++ r = y :: r from rfl, show p.length + [y].length = p.length + 1 from rfl] at ih
    rw [ih]
    simp
  | false :: m, p, y :: r, h => by
    have ih := proj_pos m (p ++ [y]) r (Nat.succ.inj h)
    rw [List.length_append, List.append_assoc] at ih
    exact ih
theorem proj_sel {m : List Bool} {r : List Int} (h : r.length = m.length) : proj (pos 0 m) r = sel m r := proj_pos m [] r h
theorem all_true : ∀ {m : List Bool}, trues m = m.length → m = List.replicate m.length true
  | [], _ => rfl
  | true :: m, h => by
    have : trues m = m.length := by simpa [trues] using h
    rw [List.length_cons, List.replicate_succ, ← all_true this]
  | false :: m, h => by
    have := trues_le m
    simp [trues] at h this
    omega
/-- all but the last, where there are as many as can be -/
theorem pos_take {m : List Bool} {n : Nat} (h : m.length = n + 1) : ∃ m' : List Bool, m'.length = n + 1 ∧ trues m' ≤ n ∧ (pos 0 m).take n = pos 0 m' := by
  by_cases ht : trues m ≤ n
  · exact ⟨m, h, ht, List.take_of_length_le (by rw [pos_len]; exact ht)⟩
  · have tl := trues_le m
    have e := all_true (m := m) (by omega)
    rw [h] at e
    have pr : trues (List.replicate n true) = n := by simp [trues, List.countP_replicate]
    have pl : (pos 0 (List.replicate n true)).length = n := by rw [pos_len, pr]
    refine ⟨List.replicate n true ++ [false], by simp, ?_, ?_⟩
    · have : trues (List.replicate n true ++ [false]) = trues (List.replicate n true) := by simp [trues]
      rw [this, pr]; exact Nat.le_refl _
    · rw [e, List.replicate_succ', pos_app, pos_app]
      simp only [if_true, Bool.false_eq_true, if_false, List.append_nil]
      rw [List.take_append_of_le_length (by rw [pl]; exact Nat.le_refl _), List.take_of_length_le (by rw [pl]; exact Nat.le_refl _)]
end K19

namespace K19
open PySem PySem.Spec PyProof.Rows L2 Mo
abbrev KL := List Key
def ky (l : List Int) : KL := l.map Sum.inl
theorem ky_inj {a b : List Int} (h : ky a = ky b) : a = b := by
  unfold ky at h
  exact (List.map_inj_right (fun _ _ e => Sum.inl.inj e)).mp h
theorem bools_all {α : Type} {f : α → D} (hf : ∀ x, f x = .bl true) : ∀ l : List α, boolsOf (l.map f) = some (List.replicate l.length true)
  | [] => rfl
  | x :: l => by rw [List.map_cons, hf x]; show (boolsOf _).map _ = _; rw [bools_all hf l]; rfl
structure Tal (kvs : List (KL × D)) (done : List (List Int)) : Prop where
  nd : (kvs.map (·.1)).Nodup
  len : kvs.length ≤ done.length
  val : ∀ k : KL, valD kvs k = if done.countP (fun l => decide (ky l = k)) = 0 then none else some (.int (done.countP (fun l => decide (ky l = k)) : Nat))
theorem Tal.nil : Tal [] [] := ⟨by simp, Nat.le_refl _, fun k => by simp [valD]⟩
theorem Tal.add {kvs done} (t : Tal kvs done) (l : List Int) (n : Int) (hn : n = (done.countP (fun x => decide (ky x = ky l)) : Nat)) : Tal (putD kvs (ky l) (.int (n + 1))) (done ++ [l]) := by
  refine ⟨putD_nodup t.nd, ?_, fun k => ?_⟩
  · have := t.len
    by_cases h : ky l ∈ kvs.map (·.1)
    · have e := congrArg List.length (putD_fst_in (v := .int (n + 1)) h)
      simp at e ⊢; omega
    · rw [putD_out h]; simp; omega
  · rw [valD_putD, List.countP_append]
    by_cases h : k = ky l
    · subst h
      rw [if_pos rfl, hn]
      simp
    · rw [if_neg h, t.val k]
      have : ¬ ky l = k := fun e => h e.symm
      simp [this]
theorem even_ok {h : Mh} {r s : Nat} {rs : List (List Int)} {ks : List Int} {n share : Nat} (hr : h[r]? = some (.lst (rs.map T))) (hs : h[s]? = some (.lst (ks.map D.int))) (hn : ∀ l ∈ rs, l.length = n) (hk : ∀ k ∈ ks, 0 ≤ k ∧ k < (n : Int)) (hb : ∀ l ∈ rs, IsBits l)
    (kl : ks.length ≤ 20) (rl : rs.length ≤ 500) (sh : 0 < share) (re : rs.length = share * 2 ^ ks.length) (hc : ∀ κ, IsBits κ → κ.length = ks.length → rs.countP (fun l => decide (proj ks l = κ)) = share) :
    (f__law_even [.ref r, .ref s] h).wp fun d h' => d = .bl true ∧ Ex h h' := by
  have e2 : ShlC 1 (ks.length : Int) := shlC (by omega) (by omega) (by decide)
  have p2 : (2 : Int) ^ ks.length = ((2 ^ ks.length : Nat) : Int) := by simp
  have pp : 0 < 2 ^ ks.length := Nat.two_pow_pos _
  have p20 : 2 ^ ks.length ≤ 2 ^ 20 := Nat.pow_le_pow_right (by decide) kl
  have e3 : FdC ((2 : Int) ^ ks.length) := by rw [p2]; generalize 2 ^ ks.length = N at pp p20 ⊢; exact fdC (by omega) (by omega)
  unfold f__law_even m__law_even
  simp [startD, List.replicate]
  have hr1 : (h ++ [MO.dt []])[r]? = some (.lst (rs.map T)) := app_get hr
  simp [hr1]
  refine loop (items := rs.map T) (fun j sg h' => (∃ y z, sg = [some (.ref r), some (.ref s), some (.ref h.length), y, z, none, none, none]) ∧ Ex h h' ∧ ∃ kvs, h'[h.length]? = some (.dt kvs) ∧ Tal kvs ((rs.take j).map (proj ks))) ⟨⟨_, _, rfl⟩, Ex.app, [], at_end, by simpa using Tal.nil⟩ (fun j d sg h' e ⟨⟨y, z, eg⟩, eh, kvs, hq, t⟩ => ?_) (fun sg h' ⟨⟨y, z, eg⟩, eh, kvs, hq, t⟩ => ?_) rfl
  · subst eg
    rw [List.getElem?_map] at e
    cases q : rs[j]? with
    | none => rw [q] at e; cases e
    | some l =>
      rw [q] at e; cases e
      have ml := List.mem_of_getElem? q
      have ll := hn l ml
      refine ⟨srcL_at (eh.get hr) (by rw [List.getElem?_map, q]; rfl), _, rfl, ?_⟩
      simp [wipeD, eh.get hs]
      refine (lc_ex (s := srcL s (ks.map D.int)) (items := ks.map D.int) (fun d => match d with | .int k => .int ((l[k.toNat]?).getD 0) | _ => .non) (Nat.le_trans (by simp; omega) line_le) (fun i x acc h2 e eh2 hn2 => ?_) (fun h2 eh2 => srcL_fin (eh2.get (eh.get hs))) rfl).mono fun d h2 ⟨ed, eh2, hn2⟩ => ?_
      · refine ⟨srcL_at (eh2.get (eh.get hs)) e, _, rfl, ?_⟩
        rw [List.getElem?_map] at e
        cases q2 : ks[i]? with
        | none => rw [q2] at e; cases e
        | some k =>
          rw [q2] at e; cases e
          have k01 := hk k (List.mem_of_getElem? q2)
          have kl' : k.toNat < l.length := by omega
          have k2 : k < (l.length : Int) := by omega
          simp [T, atI, ixN, k01.1, k2, List.getElem?_eq_getElem kl']
          exact Ex.rfl
      · subst ed
        have ep : List.map (fun d => match d with | .int k => D.int ((l[k.toNat]?).getD 0) | _ => .non) (ks.map D.int) = (proj ks l).map D.int := by
          unfold proj
          rw [List.map_map, List.map_map]
          rfl
        have eh3 := eh.trans eh2
        have hq2 := eh2.get hq
        rw [ep] at hn2
        have kvl : LenC kvs.length := lenC (by have := t.len; simp at this; omega)
        have tv := t.val (ky (proj ks l))
        have fin : ∀ n : Int, n = (((rs.take j).map (proj ks)).countP (fun x => decide (ky x = ky (proj ks l))) : Nat) → Ex h (h2.set h.length (.dt (putD kvs (ky (proj ks l)) (.int (n + 1))))) ∧ ∃ kvs', (h2.set h.length (.dt (putD kvs (ky (proj ks l)) (.int (n + 1)))))[h.length]? = some (.dt kvs') ∧ Tal kvs' ((rs.take (j + 1)).map (proj ks)) := fun n en => by
          refine ⟨eh3.put (Nat.le_refl _), _, set_at (lt_of hq2), ?_⟩
          rw [List.take_add_one, q, List.map_append]
          exact t.add _ _ en
        simp [hn2, hq2, kvl]
        split at tv
        · rename_i c0
          rw [show List.map Sum.inl (proj ks l) = ky (proj ks l) from rfl, tv]
          simp [hq2, kvl]
          have z := fin 0 (by rw [c0]; rfl)
          simp only [ky] at z
          simpa using z
        · rename_i c0
          rw [show List.map Sum.inl (proj ks l) = ky (proj ks l) from rfl, tv]
          simp [hq2, kvl]
          have z := fin _ rfl
          simpa [ky] using z
  · subst eg
    refine ⟨srcL_fin (eh.get hr), ?_⟩
    simp [hq, eh.get hr, eh.get hs, e2, e3]
    have t' : Tal kvs (rs.map (proj ks)) := by simpa using t
    have pb : ∀ l ∈ rs, IsBits (proj ks l) ∧ (proj ks l).length = ks.length := fun l ml => by
      refine ⟨fun b hb' => ?_, by simp [proj]⟩
      obtain ⟨k, mk, e⟩ := List.mem_map.mp hb'
      have k01 := hk k mk
      have ll := hn l ml
      have kl' : k.toNat < l.length := by omega
      rw [List.getElem?_eq_getElem kl'] at e
      subst e
      exact hb l ml _ (List.getElem_mem kl')
    have cnt : ∀ κ, IsBits κ → κ.length = ks.length → (rs.map (proj ks)).countP (fun l => decide (ky l = ky κ)) = share := fun κ h1 h2 => by
      rw [← hc κ h1 h2, List.countP_map]
      refine congrArg (fun f => List.countP f rs) (funext fun l => ?_)
      simp only [Function.comp_apply]
      exact decide_eq_decide.mpr ⟨ky_inj, fun e => by rw [e]⟩
    have keys : ∀ k, k ∈ kvs.map (·.1) ↔ k ∈ (A ks.length).map ky := fun k => by
      have v := t'.val k
      constructor
      · intro hk'
        split at v
        · exact absurd hk' (valD_none.mp v)
        · rename_i c0
          obtain ⟨l, ml, e⟩ := List.countP_pos_iff.mp (Nat.pos_of_ne_zero c0)
          obtain ⟨l0, m0, rfl⟩ := List.mem_map.mp ml
          have := pb l0 m0
          exact List.mem_map.mpr ⟨_, A_all this.2 this.1, of_decide_eq_true e⟩
      · intro hk'
        obtain ⟨κ, mκ, rfl⟩ := List.mem_map.mp hk'
        have a := A_row mκ
        rw [cnt κ a.2 a.1, if_neg (by omega)] at v
        exact Classical.byContradiction fun z => by rw [valD_none.mpr z] at v; cases v
    have nd2 : ((A ks.length).map ky).Nodup := List.Pairwise.map _ (fun a b hab e => hab (ky_inj e)) (A_nodup _)
    have kvn : kvs.length = 2 ^ ks.length := by
      have l1 := len_le t'.nd fun x hx => (keys x).mp hx
      have l2 := len_le nd2 fun x hx => (keys x).mpr hx
      rw [List.length_map, List.length_map, A_len] at l1 l2
      omega
    have vals : ∀ p ∈ kvs, valD kvs p.1 = some (.int (share : Int)) := fun p hp => by
      have v := t'.val p.1
      obtain ⟨κ, mκ, e⟩ := List.mem_map.mp ((keys p.1).mp (List.mem_map.mpr ⟨p, hp, rfl⟩))
      have a := A_row mκ
      rw [← e, cnt κ a.2 a.1, if_neg (by omega)] at v
      rw [← e]; exact v
    have shE : (rs.length : Int) / 2 ^ ks.length = (share : Int) := by
      rw [re, p2, Int.natCast_mul]
      exact Int.mul_ediv_cancel _ (by omega)
    have kvI : (kvs.length : Int) = 2 ^ ks.length := by rw [kvn, p2]
    have hql := lt_of hq
    rw [if_pos kvI, shE, set_at hql]
    simp [wipeD]
    refine (lc_exn (h := h'.set h.length (MO.zt kvs)) (n := h'.length) (by simp) (s := srcT (kvs.map fun kv => D.tup (kv.1.map dKey))) (items := kvs.map fun kv => D.tup (kv.1.map dKey)) (fun _ => .bl true) (Nat.le_trans (by simp; have := t'.len; simp at this; omega) line_le) (fun i x acc h2 e eh2 hn2 => ?_) (fun h2 eh2 => trivial) rfl).mono fun d h2 ⟨ed, eh2, hn2⟩ => ?_
    · refine ⟨trivial, _, rfl, ?_⟩
      rw [List.getElem?_map] at e
      cases q2 : kvs[i]? with
      | none => rw [q2] at e; cases e
      | some p =>
        rw [q2] at e; cases e
        have g2 := eh2.get (set_at hql (o := MO.zt kvs))
        simp [g2, vals p (List.mem_of_getElem? q2)]
        exact Ex.rfl
    · subst ed
      have g2 := eh2.get (set_at hql (o := MO.zt kvs))
      have ne : h.length ≠ h'.length := by omega
      simp [g2, set_off ne]
      simp [dAll, set_off ne, hn2, bools_all (f := (fun _ => D.bl true) ∘ fun kv : List Key × D => D.tup (kv.1.map dKey)) (fun _ => rfl)]
      refine (Ex.trans eh ?_)
      refine ⟨by have := eh2.len; simpa using this, fun m lm => ?_⟩
      by_cases z : m = h.length
      · subst z
        rw [set_at (by have := eh2.len; simp at this; omega), hq]
      · rw [set_off (Ne.symm z), eh2.old m (by simpa using lm), set_off (Ne.symm z)]
end K19

namespace K19
open PySem PySem.Spec PyProof.Rows L2 Mo
theorem stepT {m n : Sg → Mh → RS} {sg : Sg} {h : Mh} {N : Sg → Mh → Prop} {T : D → Mh → Prop} {z y} (M : Sg → Mh → Prop) (w : (m sg h).wp M T) (k : ∀ sg h, M sg h → (n sg h).wp N T) : (sSeq m n sg h).wp N T z y := by
  rw [w_seq, wp_ths]
  exact w.mono (fun sg h p => k sg h p) (fun _ _ z => z)
/-- what may change: the cells of S -/
structure Fr (S : List Nat) (h h' : Mh) : Prop where
  len : h.length ≤ h'.length
  old : ∀ n, n < h.length → n ∉ S → h'[n]? = h[n]?
theorem Fr.rfl {S : List Nat} {h : Mh} : Fr S h h := ⟨Nat.le_refl _, fun _ _ _ => by rfl⟩
theorem Fr.trans {S : List Nat} {h h' h'' : Mh} (a : Fr S h h') (b : Fr S h' h'') : Fr S h h'' := ⟨Nat.le_trans a.len b.len, fun n l z => (b.old n (Nat.lt_of_lt_of_le l a.len) z).trans (a.old n l z)⟩
theorem Fr.ex {S : List Nat} {h h' : Mh} (a : Ex h h') : Fr S h h' := ⟨a.len, fun n l _ => a.old n l⟩
theorem Fr.gr {S : List Nat} {b : Nat} {h h' : Mh} (a : Gr b h h') (m : b ∈ S) : Fr S h h' := ⟨a.len, fun n l z => a.old n l fun e => z (e ▸ m)⟩
theorem Fr.put {S : List Nat} {h : Mh} {n : Nat} {o : MO} (m : n ∈ S) : Fr S h (h.set n o) := ⟨by simp, fun k l z => List.getElem?_set_ne fun (e : n = k) => z (by rw [← e]; exact m)⟩
theorem Fr.get {S : List Nat} {h h' : Mh} (a : Fr S h h') {n : Nat} {o : MO} (z : n ∉ S) (e : h[n]? = some o) : h'[n]? = some o := (a.old n (lt_of e) z).trans e
noncomputable def rowB : Sg → Mh → RS := (sSeq (sSet 11 (mBi dList (mCons (mVar 10) mNil)))
    (sSeq (sSet 12 (mIte (mTest (m2 (dE false) (mCall 2 f__law_draw (mCons (mVar 1) (mCons (mLit (.int 2)) mNil)) []) (mLit (.int 0)))) (mCall 2 f_parted (mCons (mVar 8) (mCons (mVar 11) mNil)) []) (mCall 2 f_parted (mCons (mVar 8) (mCons (mVar 10) mNil)) [])))
    (sSeq (sIf (mNotT (mTru (mCall 2 (f__law_like 8) (mCons (mLst (mCons (mVar 12) (mCons (mVar 11) mNil))) (mCons (mLst (mCons (m2 dAdd (mVar 10) (mTup (mCons (m2 dMod (mBi dInt (mCons (m2 dAdd (mVar 8) (mBi dSum (mCons (mVar 10) mNil))) mNil)) (mLit (.int 2))) mNil))) (mCons (mBi dList (mCons (mVar 10) mNil)) mNil))) mNil)) []))) (sRet (mLit (.bl false))) sNext)
    (sSeq (sIf (mNotT (mTru (mCall 2 (f__law_like 8) (mCons (mLst (mCons (mCall 1 f_joined (mCons (mVar 12) mNil) []) (mCons (mCall 2 f_parted (mCons (mVar 8) (mCons (mBi dList (mCons (mVar 10) mNil)) mNil)) []) mNil))) (mCons (mLst (mCons (mVar 8) (mCons (mVar 12) mNil))) mNil)) []))) (sRet (mLit (.bl false))) sNext)
    (sSeq (sExpr (mMt "list" dAppend (mVar 9) (mCons (mVar 12) mNil)))
    (sPut dPutD (mVar 7) (mVar 12) (mVar 8)))))))
abbrev sgL (b : Nat) (n : Int) (e : Nat) (turn : Int) (o s k : Nat) (x8 x9 x10 x11 x12 x13 x14 : Option D) : Sg := [some (.ref 0), some (.ref b), some (.int n), some (.ref e), some (.int turn), some (.ref o), some (.ref s), some (.ref k), x8, x9, x10, x11, x12, x13, x14]
theorem like2 {h : Mh} {a b c d : D} {n m : Nat} (hn : h[n]? = some (.lst [a, b])) (hm : h[m]? = some (.lst [c, d])) (l1 : Lk 7 h a c) (l2 : Lk 7 h b d) : (f__law_like 8 [.ref n, .ref m] h).wp fun d h' => d = .bl true ∧ Ex h h' := by
  refine like_ok 8 h _ _ (.lst hn hm rfl (by simp) fun i x y e1 e2 => ?_)
  match i with
  | 0 => simp at e1 e2; subst e1 e2; exact l1
  | 1 => simp at e1 e2; subst e1 e2; exact l2
  | i + 2 => simp at e1
theorem lk_ints {h : Mh} {k : Nat} (l : List Int) (ll : l.length ≤ 1000) : Lk (k + 2) h (T l) (T l) := .tup rfl (by simpa using ll) fun i x y e1 e2 => by
  rw [e1] at e2; cases e2
  obtain ⟨z, _, rfl⟩ := List.mem_map.mp (List.mem_of_getElem? e1)
  exact .int z
theorem lk_list {h : Mh} {k n m : Nat} {l : List Int} (hn : h[n]? = some (.lst (l.map D.int))) (hm : h[m]? = some (.lst (l.map D.int))) (ll : l.length ≤ 1000) : Lk (k + 2) h (.ref n) (.ref m) := .lst hn hm rfl (by simpa using ll) fun i x y e1 e2 => by
  rw [e1] at e2; cases e2
  obtain ⟨z, _, rfl⟩ := List.mem_map.mp (List.mem_of_getElem? e1)
  exact .int z
theorem ints_of : ∀ l : List Int, intsOf (l.map D.int) = some l
  | [] => rfl
  | x :: l => by simp only [List.map_cons, intsOf, ints_of l, Option.map_some]
theorem sum_T {l : List Int} {h : Mh} : dSum [T l] h = .ok (.int l.sum) h := by
  simp [dSum, T, ints_of]
theorem row_ok {h : Mh} {b bu e o s k r : Nat} {n turn bit : Int} {x11 x12 x13 x14 : Option D} {l : List Int} {rs W : List (List Int)} {kvs : List (KL × D)} (B : BagOk h b (bu + 1)) (hr : h[r]? = some (.lst (rs.map T))) (hk : h[k]? = some (.dt kvs)) (rl : rs.length ≤ 200) (kl : kvs.length ≤ 300) (kw : kvs.map (·.1) = W.map ky)
    (nw : told bit l ∉ W) (hl : IsBits l) (ll : l.length ≤ 10) (l0 : l ≠ []) (hb : bit = 0 ∨ bit = 1) (br : b < r) (bk : b < k) (rk : r ≠ k) :
    (rowB (sgL b n e turn o s k (some (.int bit)) (some (.ref r)) (some (T l)) x11 x12 x13 x14) h).wp (fun sg' h' => (∃ x11 x12, sg' = sgL b n e turn o s k (some (.int bit)) (some (.ref r)) (some (T l)) x11 x12 x13 x14) ∧ BagOk h' b bu ∧ h'[r]? = some (.lst ((rs ++ [told bit l]).map T)) ∧ (∃ kvs', h'[k]? = some (.dt kvs') ∧ kvs'.length = kvs.length + 1 ∧ kvs'.map (·.1) = (W ++ [told bit l]).map ky) ∧ Fr [b, r, k] h h') (fun d _ => d = .bl true) := by
  unfold rowB
  refine stepT (fun sg h' => ∃ hd, sg = sgL b n e turn o s k (some (.int bit)) (some (.ref r)) (some (T l)) (some (.ref hd)) x12 x13 x14 ∧ hd = h.length ∧ h' = h ++ [.lst (l.map D.int)]) (by simp [T]) fun sg h1 ⟨hd, e1, ehd, eh1⟩ => ?_
  have X1 : Ex h h1 := by rw [eh1]; exact Ex.app
  have hh1 : h1[hd]? = some (.lst (l.map D.int)) := by rw [eh1, ehd]; exact at_end
  have bl := B.lt
  have rl' := lt_of hr
  have kl' := lt_of hk
  have hdb : hd ≠ b := by omega
  clear eh1
  subst e1
  refine stepT (fun sg h' => sg = sgL b n e turn o s k (some (.int bit)) (some (.ref r)) (some (T l)) (some (.ref hd)) (some (T (told bit l))) x13 x14 ∧ BagOk h' b bu ∧ Gr b h1 h') ?_ fun sg h2 ⟨e2, B2, G2⟩ => ?_
  · simp
    refine (draw_ok (B.ex X1) (size := 2) (by decide) (by decide)).mono fun d h2 ⟨c, e, c0, c1, B2, G2⟩ => ?_
    subst e
    simp
    by_cases z : c = 0
    · rw [if_pos z]
      refine (parted_l (G2.get hdb hh1) hb hl (by omega)).mono fun d h3 ⟨e, e3⟩ => ?_
      subst e e3
      simp
      exact ⟨B2, G2⟩
    · rw [if_neg z]
      refine (parted_t hb hl (by omega)).mono fun d h3 ⟨e, e3⟩ => ?_
      subst e e3
      simp
      exact ⟨B2, G2⟩
  subst e2
  have hh2 := G2.get hdb hh1
  refine stepT (fun sg h' => sg = sgL b n e turn o s k (some (.int bit)) (some (.ref r)) (some (T l)) (some (.ref hd)) (some (T (told bit l))) x13 x14 ∧ Ex h2 h') ?_ fun sg h3 ⟨e3, X3⟩ => ?_
  · have tl : LenE (l.length + 1) := lenE (by omega)
    have l0' : l.map D.int ≠ [] := by simpa using l0
    have e1 : T (told bit l) = .tup (l.map D.int ++ [.int ((bit + l.sum) % 2)]) := by simp [T, told]
    simp [T]
    have hh2a : ∀ t : Mh, (h2 ++ t)[hd]? = some (.lst (l.map D.int)) := fun t => app_get hh2
    simp [dSum, ints_of, tl, l0]
    refine (like2 (a := T (told bit l)) (b := .ref hd) (c := T (told bit l)) (d := .ref (h2.length + 1)) ?_ ?_ ?_ ?_).mono fun d h3 ⟨ed, X⟩ => ?_
    · simp [T]
    · simp [T, told]
    · exact lk_ints _ (by simp [told]; omega)
    · exact lk_list (l := l) (hh2a _) (by simp) (by omega)
    · subst ed
      simp [T]
      exact Ex.app.trans X
  subst e3
  refine stepT (fun sg h' => sg = sgL b n e turn o s k (some (.int bit)) (some (.ref r)) (some (T l)) (some (.ref hd)) (some (T (told bit l))) x13 x14 ∧ Ex h3 h') ?_ fun sg h4 ⟨e4, X4⟩ => ?_
  · simp
    refine (joined_t hb hl).mono fun d h' ⟨e, e'⟩ => ?_
    subst e e'
    simp [T]
    have e1 : (h' ++ [MO.lst (l.map D.int)])[h'.length]? = some (.lst (l.map D.int)) := at_end
    refine (parted_l e1 hb hl (by omega)).mono fun d h2 ⟨e, e'⟩ => ?_
    subst e e'
    simp
    refine (like2 (a := .int bit) (b := T (told bit l)) (c := .int bit) (d := T (told bit l)) ?_ ?_ (.int bit) (lk_ints _ (by simp [told]; omega))).mono fun d h3 ⟨ed, X⟩ => ?_
    · simp
    · simp [T]
    · subst ed
      simp
      exact Ex.app.trans (by simpa using X)
  subst e4
  have F4 : Fr [b, r, k] h h4 := (Fr.ex X1).trans ((Fr.gr G2 (by simp)).trans ((Fr.ex X3).trans (Fr.ex X4)))
  have hr4 : h4[r]? = some (.lst (rs.map T)) := X4.get (X3.get (G2.get (Nat.ne_of_gt br) (X1.get hr)))
  have hk4 : h4[k]? = some (.dt kvs) := X4.get (X3.get (G2.get (Nat.ne_of_gt bk) (X1.get hk)))
  have B4 := (B2.ex X3).ex X4
  have kn : ky (told bit l) ∉ kvs.map (·.1) := by
    rw [kw]
    intro z
    obtain ⟨w, mw, e⟩ := List.mem_map.mp z
    exact nw (ky_inj e ▸ mw)
  have r1 : LenC rs.length := lenC (by omega)
  have k1 : LenC kvs.length := lenC (by omega)
  have hk5 : ∀ o, (h4.set r o)[k]? = some (.dt kvs) := fun o => (set_off rk).trans hk4
  have kt : keyT (T (told bit l)) = some (ky (told bit l)) := keyT_ints
  simp [hr4, hk5, r1, k1, kt, putD_out kn]
  refine ⟨?_, ?_, ⟨_, set_at (by have := lt_of hk4; simpa using this), by simp, ?_⟩, ?_⟩
  · exact (B4.put br).put bk
  · rw [set_off (Ne.symm rk), set_at (lt_of hr4)]
  · rw [List.map_append, kw]; rfl
  · exact F4.trans ((Fr.put (by simp)).trans (Fr.put (by simp)))
end K19

namespace K19
open PySem PySem.Spec PyProof.Rows L2 Mo
theorem told_inj {b b' : Int} {l l' : List Int} (h : told b l = told b' l') (hl : l.length = l'.length) : l = l' := by
  unfold told at h
  exact (List.append_inj h hl).1
theorem told_ne {l l' : List Int} (hl : l.length = l'.length) : told 0 l ≠ told 1 l' := fun h => by
  have e := told_inj h hl
  subst e
  unfold told at h
  have := (List.append_inj h rfl).2
  simp at this
  omega
/-- the rows in their order -/
structure Ord (N : Nat) (ord : List (List Int)) : Prop where
  cnt : ∀ p : List Int → Bool, ord.countP p = (A N).countP p
  nd : ord.Nodup
  row : ∀ l ∈ ord, l.length = N ∧ IsBits l
  len : ord.length = 2 ^ N
theorem Ord.all (N : Nat) : Ord N (A N) := ⟨fun _ => rfl, A_nodup N, fun _ h => A_row h, A_len N⟩
theorem Ord.rot {N : Nat} {ord : List (List Int)} (o : Ord N ord) (t : Nat) : Ord N (ord.drop t ++ ord.take t) := by
  have pm : (ord.drop t ++ ord.take t).Perm ord := by
    have := List.perm_append_comm (l₁ := ord.drop t) (l₂ := ord.take t)
    rwa [List.take_append_drop] at this
  exact ⟨fun p => (pm.countP_eq p).trans (o.cnt p), (pm.nodup_iff).mpr o.nd, fun l h => o.row l (pm.mem_iff.mp h), pm.length_eq.trans o.len⟩
theorem Ord.rev {N : Nat} {ord : List (List Int)} (o : Ord N ord) : Ord N ord.reverse :=
  ⟨fun p => ((List.reverse_perm ord).countP_eq p).trans (o.cnt p), ((List.reverse_perm ord).nodup_iff).mpr o.nd, fun l h => o.row l (List.mem_reverse.mp h), (List.reverse_perm ord).length_eq.trans o.len⟩
def W (ord : List (List Int)) : List (List Int) := ord.map (told 0) ++ ord.map (told 1)
theorem W_nodup {N : Nat} {ord : List (List Int)} (o : Ord N ord) : (W ord).Nodup := by
  have one : ∀ b, (ord.map (told b)).Nodup := fun b => by
    have : ord.Pairwise fun a c => told b a ≠ told b c := by
      refine (List.Pairwise.and_mem.mp o.nd).imp ?_
      intro a c ⟨ma, mc, ne⟩ e
      exact ne (told_inj e ((o.row a ma).1.trans (o.row c mc).1.symm))
    exact List.pairwise_map.mpr this
  unfold W
  rw [List.nodup_append]
  refine ⟨one 0, one 1, fun a ha b hb e => ?_⟩
  obtain ⟨x, mx, rfl⟩ := List.mem_map.mp ha
  obtain ⟨y, my, rfl⟩ := List.mem_map.mp hb
  exact told_ne ((o.row x mx).1.trans (o.row y my).1.symm) e
/-- the evenness of all rows behind a beat of the outer loop -/
theorem even_all {N : Nat} {ord : List (List Int)} (o : Ord N ord) {b : Int} {m : List Bool} (hm : m.length = N + 1) (ht : trues m ≤ N) (N9 : N ≤ 8) (hb : b = 0 ∨ b = 1) {h : Mh} {r s : Nat} (hr : h[r]? = some (.lst ((ord.map (told b)).map T))) (hs : h[s]? = some (.lst ((pos 0 m).map D.int))) :
    (f__law_even [.ref r, .ref s] h).wp fun d h' => d = .bl true ∧ Ex h h' := by
  have len : ∀ l ∈ ord.map (told b), l.length = N + 1 := fun l ml => by
    obtain ⟨x, mx, rfl⟩ := List.mem_map.mp ml
    simp [told, (o.row x mx).1]
  have pl := pos_len m 0
  have p9 : 2 ^ N ≤ 2 ^ 8 := Nat.pow_le_pow_right (by decide) N9
  refine even_ok (n := N + 1) (share := 2 ^ (N - trues m)) hr hs len (fun k mk => ?_) (fun l ml => ?_) (by omega) (by rw [List.length_map, o.len]; omega) (Nat.two_pow_pos _) ?_ fun κ hκ lκ => ?_
  · have := pos_mem m 0 k mk
    omega
  · obtain ⟨x, mx, rfl⟩ := List.mem_map.mp ml
    exact told_bits (o.row x mx).2
  · rw [List.length_map, o.len, pl, ← Nat.pow_add]
    congr 1; omega
  · rw [pl] at lκ
    rw [← (cn_main N b m κ hm hκ lκ).1 ht, List.countP_map]
    unfold cn
    rw [← o.cnt]
    refine List.countP_congr fun l ml => ?_
    simp only [Function.comp_apply, decide_eq_true_eq]
    rw [proj_sel (by rw [hm]; simp [told, (o.row l ml).1])]
theorem but_one : ∀ (n q : Nat), q < n → ∃ m : List Bool, m.length = n ∧ trues m = n - 1 ∧ (((List.range n).map fun k : Nat => (k : Int)).filter fun k => decide (k ≠ (q : Int))) = pos 0 m := by
  have gen : ∀ (j q : Nat), ∃ m : List Bool, m.length = j ∧ (if q < j then trues m + 1 = j else trues m = j) ∧ (((List.range j).map fun k : Nat => (k : Int)).filter fun k => decide (k ≠ (q : Int))) = pos 0 m := by
    intro j q
    induction j with
    | zero => exact ⟨[], rfl, by simp [trues], rfl⟩
    | succ j ih =>
      obtain ⟨m, l, t, e⟩ := ih
      by_cases hq : j = q
      · subst hq
        refine ⟨m ++ [false], by simp [l], ?_, ?_⟩
        · rw [if_neg (by omega)] at t
          rw [if_pos (by omega)]
          simp [trues] at t ⊢
          exact t
        · rw [List.range_succ, List.map_append, List.filter_append, e, pos_app]
          simp
      · refine ⟨m ++ [true], by simp [l], ?_, ?_⟩
        · by_cases h : q < j
          · rw [if_pos h] at t
            rw [if_pos (by omega)]
            simp [trues] at t ⊢
            omega
          · rw [if_neg h] at t
            rw [if_neg (by omega)]
            simp [trues] at t ⊢
            omega
        · rw [List.range_succ, List.map_append, List.filter_append, e, pos_app]
          have : ¬ ((j : Int) = (q : Int)) := by omega
          simp [this, l]
  intro n q hq
  obtain ⟨m, l, t, e⟩ := gen n q
  rw [if_pos hq] at t
  exact ⟨m, l, by omega, e⟩
end K19

namespace K19
open PySem PySem.Spec PyProof.Rows L2 Mo
theorem ok_of {α : Type} {r : R α} {a : α} {h : Mh} (w : r.wp fun a' h' => a' = a ∧ h' = h) : r = .ok a h := by
  obtain ⟨a', h', e, rfl, rfl⟩ := w.out
  exact e
theorem nd_inj {α : Type} : ∀ {l : List α} {i j : Nat} {a : α}, l.Nodup → l[i]? = some a → l[j]? = some a → i = j
  | [], i, j, a, _, e, _ => by simp at e
  | x :: l, 0, 0, a, _, _, _ => rfl
  | x :: l, 0, j + 1, a, nd, e, f => by
    simp at e f
    exact absurd (List.mem_of_getElem? f) (e ▸ (List.nodup_cons.mp nd).1)
  | x :: l, i + 1, 0, a, nd, e, f => by
    simp at e f
    exact absurd (List.mem_of_getElem? e) (f ▸ (List.nodup_cons.mp nd).1)
  | x :: l, i + 1, j + 1, a, nd, e, f => congrArg (· + 1) (nd_inj (List.nodup_cons.mp nd).2 (by simpa using e) (by simpa using f))
theorem srcL_fin' {n : Nat} {ds : List D} {h : Mh} {i : Nat} (e : h[n]? = some (.lst ds)) (l : ds.length ≤ i) : (srcL n ds).fin i h := ⟨ds, .inl e, l⟩
theorem cutD_map {l : List (List Int)} {lo hi : Option Int} : Mo.cutD (l.map T) lo hi = ((l.drop (HT.sIx l.length 0 lo)).take (HT.sIx l.length l.length hi - HT.sIx l.length 0 lo)).map T := by
  unfold Mo.cutD
  rw [List.length_map, List.map_take, List.map_drop]
theorem cutI_map {l : List Int} {lo hi : Option Int} : Mo.cutD (l.map D.int) lo hi = ((l.drop (HT.sIx l.length 0 lo)).take (HT.sIx l.length l.length hi - HT.sIx l.length 0 lo)).map D.int := by
  unfold Mo.cutD
  rw [List.length_map, List.map_take, List.map_drop]
structure St (h : Mh) (b e o s k N : Nat) (ord : List (List Int)) (m : List Bool) (bu : Nat) : Prop where
  B : BagOk h b bu
  E : h[e]? = some (.lst ((A N).map T))
  O : h[o]? = some (.lst (ord.map T))
  S : h[s]? = some (.lst ((pos 0 m).map D.int))
  be : b < e
  eo : e < o
  os : o < s
  sk : s < k
theorem St.fr {h h' b e o s k N ord m bu bu' r} (t : St h b e o s k N ord m bu) (F : Fr [b, r, k] h h') (B : BagOk h' b bu') (kr : k < r) : St h' b e o s k N ord m bu' := by
  obtain ⟨B0, E, O, S, be, eo, os, sk⟩ := t
  refine ⟨B, F.get ?_ E, F.get ?_ O, F.get ?_ S, be, eo, os, sk⟩ <;> simp <;> omega
theorem St.ex {h h' b e o s k N ord m bu} (t : St h b e o s k N ord m bu) (X : Ex h h') : St h' b e o s k N ord m bu := ⟨t.B.ex X, X.get t.E, X.get t.O, X.get t.S, t.be, t.eo, t.os, t.sk⟩
/-- the outer loop's body, behind its list -/
noncomputable def bitB : Sg → Mh → RS := (sSeq (sSet 9 (mLst mNil))
    (sSeq (sFor (mIter (mVar 5)) (gNm 10) rowB)
    (sSeq (sFor (mRange1 (mVar 2)) (gNm 13) (sIf (mNotT (mTru (mCall 2 f__law_even (mCons (mVar 9) (mCons (mLc (mRange1 (mVar 2)) (gNm 14) (mTest (m2 (dE true) (mVar 14) (mVar 13))) (mVar 14) [14]) mNil)) []))) (sRet (mLit (.bl false))) sNext))
    (sIf (mNotT (mTru (mCall 2 f__law_even (mCons (mVar 9) (mCons (mVar 6) mNil)) []))) (sRet (mLit (.bl false))) sNext))))
theorem bit_ok {h : Mh} {b e o s k N bu : Nat} {turn : Int} {ord : List (List Int)} {m : List Bool} {kvs : List (KL × D)} {j : Nat} {x9 x10 x11 x12 x13 x14 : Option D} (t : St h b e o s k N ord m (bu + 1000)) (od : Ord N ord) (hm : m.length = N + 1) (ht : trues m ≤ N) (N1 : 1 ≤ N) (N7 : N ≤ 7) (j2 : j < 2)
    (hk : h[k]? = some (.dt kvs)) (kl : kvs.length = j * 2 ^ N) (kw : kvs.map (·.1) = ((W ord).take (j * 2 ^ N)).map ky) :
    (bitB (sgL b ((N + 1 : Nat) : Int) e turn o s k (some (.int (j : Int))) x9 x10 x11 x12 x13 x14) h).wp (fun sg' h' => (∃ x8 x9 x10 x11 x12 x13 x14, sg' = sgL b ((N + 1 : Nat) : Int) e turn o s k x8 x9 x10 x11 x12 x13 x14) ∧ St h' b e o s k N ord m bu ∧ ∃ kvs', h'[k]? = some (.dt kvs') ∧ kvs'.length = (j + 1) * 2 ^ N ∧ kvs'.map (·.1) = ((W ord).take ((j + 1) * 2 ^ N)).map ky) (fun d _ => d = .bl true) := by
  have jb : (j : Int) = 0 ∨ (j : Int) = 1 := by omega
  have P7 : 2 ^ N ≤ 2 ^ 7 := Nat.pow_le_pow_right (by decide) N7
  have P1 : 0 < 2 ^ N := Nat.two_pow_pos N
  have wl : (W ord).length = 2 * 2 ^ N := by simp [W, od.len]; omega
  have wat : ∀ i (l : List Int), ord[i]? = some l → (W ord)[j * 2 ^ N + i]? = some (told (j : Int) l) := fun i l e => by
    have il := (List.getElem?_eq_some_iff.mp e).1
    rw [od.len] at il
    unfold W
    rcases (by omega : j = 0 ∨ j = 1) with rfl | rfl
    · rw [Nat.zero_mul, Nat.zero_add, List.getElem?_append_left (by simp [od.len]; omega), List.getElem?_map, e]; rfl
    · rw [Nat.one_mul, List.getElem?_append_right (by simp [od.len]), List.length_map, od.len, Nat.add_sub_cancel_left, List.getElem?_map, e]; rfl
  have klen := lt_of hk
  have jn : j * 2 ^ N ≤ 128 := by rcases (by omega : j = 0 ∨ j = 1) with rfl | rfl <;> omega
  have jn2 : j * 2 ^ N + 2 ^ N ≤ 2 * 2 ^ N := by rcases (by omega : j = 0 ∨ j = 1) with rfl | rfl <;> omega
  unfold bitB
  refine stepT (fun sg h' => ∃ r, sg = sgL b ((N + 1 : Nat) : Int) e turn o s k (some (.int (j : Int))) (some (.ref r)) x10 x11 x12 x13 x14 ∧ r = h.length ∧ h' = h ++ [.lst []]) (by simp) fun sg h1 ⟨r, e1, er, eh1⟩ => ?_
  have X1 : Ex h h1 := by rw [eh1]; exact Ex.app
  have hr1 : h1[r]? = some (.lst (([] : List (List Int)).map T)) := by rw [eh1, er]; exact at_end
  have kr : k < r := by omega
  clear eh1
  subst e1
  refine stepT (fun sg h' => (∃ x10 x11 x12, sg = sgL b ((N + 1 : Nat) : Int) e turn o s k (some (.int (j : Int))) (some (.ref r)) x10 x11 x12 x13 x14) ∧ St h' b e o s k N ord m (bu + 800) ∧ h'[r]? = some (.lst ((ord.map (told (j : Int))).map T)) ∧ ∃ kvs', h'[k]? = some (.dt kvs') ∧ kvs'.length = (j + 1) * 2 ^ N ∧ kvs'.map (·.1) = ((W ord).take ((j + 1) * 2 ^ N)).map ky) ?_ fun sg h2 ⟨⟨y10, y11, y12, e2⟩, t2, hr2, kvs2, hk2, kl2, kw2⟩ => ?_
  · have t1 := t.ex X1
    simp [t1.O]
    refine loop (fun i sg h' => (∃ x10 x11 x12, sg = sgL b ((N + 1 : Nat) : Int) e turn o s k (some (.int (j : Int))) (some (.ref r)) x10 x11 x12 x13 x14) ∧ St h' b e o s k N ord m (bu + 1000 - i) ∧ h'[r]? = some (.lst (((ord.take i).map (told (j : Int))).map T)) ∧ ∃ kvs', h'[k]? = some (.dt kvs') ∧ kvs'.length = j * 2 ^ N + i ∧ kvs'.map (·.1) = ((W ord).take (j * 2 ^ N + i)).map ky) ⟨⟨x10, x11, x12, by simp⟩, t1, by simpa using hr1, kvs, X1.get hk, kl, kw⟩ (fun i d sg h' ei ⟨⟨z10, z11, z12, es⟩, ti, hri, kvi, hki, kli, kwi⟩ => ?_) (fun sg h' ⟨⟨z10, z11, z12, es⟩, ti, hri, kvi, hki, kli, kwi⟩ => ?_) rfl
    · subst es
      rw [List.getElem?_map] at ei
      cases q : ord[i]? with
      | none => rw [q] at ei; cases ei
      | some l =>
        rw [q] at ei; cases ei
        have ml := List.mem_of_getElem? q
        have il := (List.getElem?_eq_some_iff.mp q).1
        rw [od.len] at il
        refine ⟨srcL_at ti.O (by rw [List.getElem?_map, q]; rfl), _, rfl, ?_⟩
        have lr := od.row l ml
        have wi := wat i l q
        have nw : told (j : Int) l ∉ (W ord).take (j * 2 ^ N + i) := by
          intro z
          obtain ⟨p, e⟩ := List.mem_iff_getElem?.mp z
          rw [List.getElem?_take] at e
          split at e
          · have := nd_inj (W_nodup od) e wi
            omega
          · cases e
        have B' : BagOk h' b ((bu + 1000 - (i + 1)) + 1) := ti.B.less (by omega)
        refine (row_ok (l := l) B' hri hki (by simp; omega) (by omega) kwi nw lr.2 (by omega) (by intro z; rw [z] at lr; simp at lr; omega) jb (by have := ti.be; have := ti.eo; have := ti.os; have := ti.sk; omega) (by have := ti.be; have := ti.eo; have := ti.os; have := ti.sk; omega) (by omega)).mono (fun sg' h'' ⟨⟨w11, w12, es⟩, B2, hr2, ⟨kv2, hk2, kl2, kw2⟩, F⟩ => ?_) (fun _ _ z => z)
        have tk : ord.take (i + 1) = ord.take i ++ [l] := by rw [List.take_add_one, q]; rfl
        have tw : (W ord).take (j * 2 ^ N + (i + 1)) = (W ord).take (j * 2 ^ N + i) ++ [told (j : Int) l] := by rw [← Nat.add_assoc, List.take_add_one, wi]; rfl
        exact ⟨⟨_, _, _, es⟩, ti.fr F B2 kr, by rw [hr2, tk]; simp, kv2, hk2, by omega, by rw [kw2, tw]⟩
    · subst es
      rw [List.length_map, od.len] at *
      refine ⟨srcL_fin' ti.O (by rw [List.length_map, od.len]; exact Nat.le_refl _), ⟨_, _, _, rfl⟩, ⟨ti.B.less (by omega), ti.E, ti.O, ti.S, ti.be, ti.eo, ti.os, ti.sk⟩, ?_, kvi, hki, by rw [kli]; rw [Nat.succ_mul], by rw [kwi, Nat.succ_mul]⟩
      rw [hri, List.take_of_length_le (by rw [od.len]; exact Nat.le_refl _)]
  subst e2
  have e3 : InR ((N : Int) + 1) := inR_of (by omega) (by omega)
  refine stepT (fun sg h' => (∃ x13 x14, sg = sgL b ((N + 1 : Nat) : Int) e turn o s k (some (.int (j : Int))) (some (.ref r)) y10 y11 y12 x13 x14) ∧ Ex h2 h') ?_ fun sg h3 ⟨⟨y13, y14, e3'⟩, X3⟩ => ?_
  · simp [e3]
    refine loop (fun q sg h' => (∃ x13 x14, sg = sgL b ((N + 1 : Nat) : Int) e turn o s k (some (.int (j : Int))) (some (.ref r)) y10 y11 y12 x13 x14) ∧ Ex h2 h') ⟨⟨x13, x14, by simp⟩, Ex.rfl⟩ (fun q d sg h' eq ⟨⟨z13, z14, es⟩, Xq⟩ => ?_) (fun sg h' ⟨⟨z13, z14, es⟩, Xq⟩ => ?_) (by simp)
    · subst es
      rw [List.getElem?_map] at eq
      cases qq : (List.range (N + 1))[q]? with
      | none =>
        have eq' : Option.map (fun k : Nat => D.int (k : Int)) (List.range (N + 1))[q]? = some d := by simpa using eq
        rw [qq] at eq'; cases eq'
      | some q' =>
        have eq' : Option.map (fun k : Nat => D.int (k : Int)) (List.range (N + 1))[q]? = some d := by simpa using eq
        rw [qq] at eq'; cases eq'
        have ql : q' < N + 1 := by simpa using List.mem_of_getElem? qq
        refine ⟨trivial, _, rfl, ?_⟩
        obtain ⟨m', m1, m2, m3⟩ := but_one (N + 1) q' ql
        have fm : ((List.range (N + 1)).map fun k : Nat => D.int (k : Int)).filter (fun d => match d with | .int k => decide (k ≠ (q' : Int)) | _ => false) = (pos 0 m').map D.int := by
          rw [← m3, show ((List.range (N + 1)).map fun k : Nat => D.int (k : Int)) = ((List.range (N + 1)).map fun k : Nat => (k : Int)).map D.int by rw [List.map_map]; rfl, List.filter_map]
          rfl
        simp [e3, wipeD]
        refine wp_of (lc_pure (fun d => match d with | .int k => decide (k ≠ (q' : Int)) | _ => false) id (items := (List.range (N + 1)).map fun k : Nat => D.int (k : Int)) (Nat.le_trans (by simp; omega) line_le) (fun i x acc ei => ?_) (fun acc => trivial) (by simp)) ?_
        · rw [List.getElem?_map] at ei
          obtain ⟨kk, _, rfl⟩ := Option.map_eq_some_iff.mp ei
          refine ⟨trivial, _, rfl, ?_, fun _ => ?_⟩
          · refine ok_of ?_
            simp
          · refine ok_of ?_
            simp
        · rw [fm]
          have hs : (h' ++ [MO.lst ((pos 0 m').map D.int)])[h'.length]? = some (.lst ((pos 0 m').map D.int)) := at_end
          simp
          have t3 := (t2.ex Xq).ex (Ex.app (t := [MO.lst ((pos 0 m').map D.int)]))
          refine (even_all od (m := m') m1 (by omega) (by omega) jb (app_get (Xq.get hr2)) hs).mono fun d h4 ⟨ed, X4⟩ => ?_
          subst ed
          simp
          exact Xq.trans (Ex.app.trans X4)
    · subst es
      exact ⟨trivial, ⟨_, _, rfl⟩, Xq⟩
  subst e3'
  simp
  have t3 := t2.ex X3
  refine (even_all od hm ht (by omega) jb (X3.get hr2) t3.S).mono fun d h4 ⟨ed, X4⟩ => ?_
  subst ed
  simp
  have t4 := t3.ex X4
  exact ⟨⟨t4.B.less (by omega), t4.E, t4.O, t4.S, t4.be, t4.eo, t4.os, t4.sk⟩, kvs2, X4.get (X3.get hk2), kl2, by simpa using kw2⟩
end K19

namespace K19
open PySem PySem.Spec PyProof.Rows L2 Mo
theorem sIx_nn {n d : Nat} {t : Int} (h : 0 ≤ t) : HT.sIx n d (some t) = min t.toNat n := by
  unfold HT.sIx
  exact if_neg (by omega)
theorem lc_at {s : Src} {g : D → Sg → Option Sg} {mt : Sg → Mh → R Bool} {me : Sg → Mh → R D} {sg : Sg} {n : Nat} {P : D → Mh → Prop} {z : Tg P} {h : Mh} {items : List D} (I : Nat → List D → Mh → Prop) (h0 : I 0 [] h) (hn : h[n]? = some (.lst []))
    (step : ∀ j x acc h, items[j]? = some x → I j acc h → h[n]? = some (.lst acc) → s.at' j x h ∧ ∃ sg1, g x sg = some sg1 ∧ (mt sg1 h).wp fun b h1 => if b = true then (me sg1 h1).wp fun y h2 => h2[n]? = some (.lst acc) ∧ acc.length < sizeLine ∧ I (j + 1) (acc ++ [y]) (h2.set n (.lst (acc ++ [y]))) else h1[n]? = some (.lst acc) ∧ I (j + 1) acc h1)
    (fin : ∀ acc h, I items.length acc h → h[n]? = some (.lst acc) → s.fin items.length h ∧ P (.ref n) h) (hi : items = s.items := by simp) : R.wp (lcL s g mt me sg n items 0 h) P z := by
  subst hi
  exact lc_wp I step fin s.items.length 0 [] h (by simp) h0 hn
theorem law_wp (ns : List Int) (l : ns.length ≤ 63) : (f_law [.ref 0] [.fls (ns.map D.int)]).wp fun d _ => d = .bl true := by
  unfold f_law m_law
  rw [w_run]
  simp only [startD, List.map_cons, List.map_nil, List.length_cons, List.length_nil, List.replicate, List.cons_append, List.nil_append, Nat.sub_eq]
  refine stepT (fun sg h' => ∃ b, sg = [some (.ref 0), some (.ref b), none, none, none, none, none, none, none, none, none, none, none, none, none] ∧ BagOk h' b 1000000) ?_ fun sg h1 ⟨b, e, B1⟩ => ?_
  · simp
    refine (bag_ok (by rfl) l).mono fun d h' ⟨b, e, B, X⟩ => ?_
    subst e
    simp
    exact B
  subst e
  refine stepT (fun sg h' => ∃ N : Nat, sg = [some (.ref 0), some (.ref b), some (.int ((N + 1 : Nat) : Int)), none, none, none, none, none, none, none, none, none, none, none, none] ∧ 1 ≤ N ∧ N ≤ 7 ∧ BagOk h' b 900000) ?_ fun sg h2 ⟨N, e, N1, N7, B2⟩ => ?_
  · simp
    refine (draw_ok (B1.less (bu' := 900002) (by decide)) (size := 12) (by decide) (by decide)).mono fun d h' ⟨c, e, c0, c1, B, G⟩ => ?_
    subst e
    simp
    split
    · exact ⟨7, rfl, by decide, by decide, B.less (by decide)⟩
    · refine (draw_ok B (size := 5) (by decide) (by decide)).mono fun d h' ⟨c', e, c0', c1', B', G'⟩ => ?_
      subst e
      simp
      exact ⟨c'.toNat + 1, by omega, by omega, by omega, B'.less (by decide)⟩
  subst e
  have P7 : 2 ^ N ≤ 2 ^ 7 := Nat.pow_le_pow_right (by decide) N7
  have P1 : 0 < 2 ^ N := Nat.two_pow_pos N
  have pN : (2 : Int) ^ N = ((2 ^ N : Nat) : Int) := by simp
  have I0 : (0 : Int) < 2 ^ N := by rw [pN]; generalize 2 ^ N = M at *; omega
  have I1 : (2 : Int) ^ N < 1073741824 := by rw [pN]; generalize 2 ^ N = M at *; omega
  refine stepT (fun sg h' => ∃ ee, sg = [some (.ref 0), some (.ref b), some (.int ((N + 1 : Nat) : Int)), some (.ref ee), none, none, none, none, none, none, none, none, none, none, none] ∧ b < ee ∧ h'[ee]? = some (.lst ((A N).map T)) ∧ BagOk h' b 900000) ?_ fun sg h3 ⟨ee, e, be, hE3, B3⟩ => ?_
  · simp
    refine (all_ok (m := N) (by omega)).mono fun d h' ⟨r, e, lr, X, hr⟩ => ?_
    subst e
    simp
    exact ⟨by have := B2.lt; omega, hr, B2.ex X⟩
  subst e
  refine stepT (fun sg h' => ∃ tn : Int, sg = [some (.ref 0), some (.ref b), some (.int ((N + 1 : Nat) : Int)), some (.ref ee), some (.int tn), none, none, none, none, none, none, none, none, none, none] ∧ 0 ≤ tn ∧ h'[ee]? = some (.lst ((A N).map T)) ∧ BagOk h' b 800000) ?_ fun sg h4 ⟨tn, e, t0, hE4, B4⟩ => ?_
  · simp [hE3, A_len]
    refine (draw_ok (B3.less (bu' := 800001) (by decide)) I0 I1).mono fun d h' ⟨c, e, c0, c1, B, G⟩ => ?_
    subst e
    simp
    exact ⟨c0, G.get (Nat.ne_of_gt be) hE3, B⟩
  subst e
  refine stepT (fun sg h' => ∃ o ord, sg = [some (.ref 0), some (.ref b), some (.int ((N + 1 : Nat) : Int)), some (.ref ee), some (.int tn), some (.ref o), none, none, none, none, none, none, none, none, none] ∧ ee < o ∧ h'[ee]? = some (.lst ((A N).map T)) ∧ h'[o]? = some (.lst (ord.map T)) ∧ Ord N ord ∧ BagOk h' b 800000) ?_ fun sg h5 ⟨o, ord, e, eo, hE5, hO5, od5, B5⟩ => ?_
  · simp [hE4, app_get hE4]
    have c1 : Mo.cutD ((A N).map T) (some tn) none = ((A N).drop tn.toNat).map T := by
      rw [cutD_map, sIx_nn t0]
      simp only [HT.sIx]
      rw [List.take_of_length_le (by rw [List.length_drop]; exact Nat.le_refl _)]
      congr 1
      by_cases h : tn.toNat ≤ (A N).length
      · rw [Nat.min_eq_left h]
      · rw [Nat.min_eq_right (by omega), List.drop_of_length_le (by omega), List.drop_of_length_le (by omega)]
    have c2 : Mo.cutD ((A N).map T) none (some tn) = ((A N).take tn.toNat).map T := by
      rw [cutD_map, sIx_nn t0]
      simp only [HT.sIx, List.drop_zero, Nat.sub_zero]
      congr 1
      by_cases h : tn.toNat ≤ (A N).length
      · rw [Nat.min_eq_left h]
      · rw [Nat.min_eq_right (by omega), List.take_of_length_le (by omega), List.take_of_length_le (by omega)]
    rw [c1, c2, ← List.map_append]
    have o1 := (Ord.all N).rot tn.toNat
    have l1 := o1.len
    have := lt_of hE4
    refine ⟨lenE ?_, by omega, _, rfl, o1, B4.ex Ex.app⟩
    rw [← List.length_append, ← List.map_append, List.length_map, l1]
    omega
  subst e
  refine stepT (fun sg h' => ∃ o ord, sg = [some (.ref 0), some (.ref b), some (.int ((N + 1 : Nat) : Int)), some (.ref ee), some (.int tn), some (.ref o), none, none, none, none, none, none, none, none, none] ∧ ee < o ∧ h'[ee]? = some (.lst ((A N).map T)) ∧ h'[o]? = some (.lst (ord.map T)) ∧ Ord N ord ∧ BagOk h' b 700000) ?_ fun sg h6 ⟨o, ord, e, eo, hE6, hO6, od6, B6⟩ => ?_
  · simp
    refine (draw_ok (B5.less (bu' := 700001) (by decide)) (size := 2) (by decide) (by decide)).mono fun d h' ⟨c, e, c0, c1, B, G⟩ => ?_
    subst e
    have hO := G.get (by omega : o ≠ b) hO5
    have hE := G.get (by omega : ee ≠ b) hE5
    by_cases z : c = 0
    · simp [z, hO, app_get hE]
      have := lt_of hE
      exact ⟨by omega, ord.reverse, by rw [List.map_reverse], od5.rev, B.ex Ex.app⟩
    · simp [z]
      exact ⟨eo, hE, ord, hO, od5, B⟩
  subst e
  refine stepT (fun sg h' => ∃ (s : Nat) (m : List Bool), sg = [some (.ref 0), some (.ref b), some (.int ((N + 1 : Nat) : Int)), some (.ref ee), some (.int tn), some (.ref o), some (.ref s), none, none, none, none, none, none, none, none] ∧ m.length = N + 1 ∧ trues m ≤ N ∧ o < s ∧ h'[ee]? = some (.lst ((A N).map T)) ∧ h'[o]? = some (.lst (ord.map T)) ∧ h'[s]? = some (.lst ((pos 0 m).map D.int)) ∧ BagOk h' b 600000) ?_ fun sg h7 ⟨s, m, e, m1, m2, os, hE7, hO7, hS7, B7⟩ => ?_
  · have e3 : InR ((N : Int) + 1) := inR_of (by omega) (by omega)
    simp [e3, wipeD]
    refine lc_at (fun j acc h' => ∃ m : List Bool, m.length = j ∧ acc = (pos 0 m).map D.int ∧ BagOk h' b (700000 - j) ∧ h'[ee]? = some (.lst ((A N).map T)) ∧ h'[o]? = some (.lst (ord.map T)) ∧ h6.length ≤ h'.length) ⟨[], rfl, rfl, B6.ex Ex.app, app_get hE6, app_get hO6, by simp⟩ at_end (fun j x acc h' ej ⟨m, ml, ea, B, hE, hO, hl⟩ hn => ?_) (fun acc h' ⟨m, ml, ea, B, hE, hO, hl⟩ hn => ?_) (by simp)
    · rw [List.getElem?_map] at ej
      have jl : j < N + 1 := by
        cases q : (List.range (N + 1))[j]? with
        | none => rw [q] at ej; cases ej
        | some y => simpa using (List.getElem?_eq_some_iff.mp q).1
      rw [List.getElem?_range jl] at ej
      cases ej
      refine ⟨trivial, _, rfl, ?_⟩
      simp
      have l6 := lt_of hE6
      have l6o := lt_of hO6
      have B' : BagOk h' b (700000 - (j + 1) + 1) := B.less (by omega)
      refine (draw_ok B' (size := 3) (by decide) (by decide)).mono fun d h2 ⟨c, e, c0, c1, B2, G⟩ => ?_
      subst e
      have hn2 := G.get (by omega : h6.length ≠ b) hn
      have hE2 := G.get (by omega : ee ≠ b) hE
      have hO2 := G.get (by omega : o ≠ b) hO
      simp
      by_cases z : 0 < c
      · rw [if_pos z]
        refine ⟨hn2, ?_, m ++ [true], by simp [ml], ?_, (B2.less (by omega)).put (by omega), ?_, ?_, ?_⟩
        · rw [ea, List.length_map, pos_len]
          have := trues_le m
          exact Nat.lt_of_lt_of_le (by omega : trues m < 1000) line_le
        · rw [pos_app, ea]; simp [ml]
        · rw [set_off (by omega)]; exact hE2
        · rw [set_off (by omega)]; exact hO2
        · have := G.len; omega
      · rw [if_neg z]
        exact ⟨hn2, m ++ [false], by simp [ml], by rw [pos_app, ea]; simp, B2.less (by omega), hE2, hO2, by have := G.len; omega⟩
    · refine ⟨trivial, ?_⟩
      have ml' : m.length = N + 1 := by simpa using ml
      obtain ⟨m', q1, q2, q3⟩ := pos_take ml'
      subst ea
      simp [hn]
      have l6o := lt_of hO6
      refine ⟨m', q1, q2, by omega, app_get hE, app_get hO, ?_, (B.less (by simp; omega)).ex Ex.app⟩
      rw [cutI_map, sIx_nn (by omega)]
      simp only [HT.sIx, List.drop_zero, Nat.sub_zero]
      rw [← q3, Int.toNat_natCast]
      have tt : (pos 0 m).take (min N (pos 0 m).length) = (pos 0 m).take N := by
        by_cases hh : N ≤ (pos 0 m).length
        · rw [Nat.min_eq_left hh]
        · rw [Nat.min_eq_right (by omega), List.take_of_length_le (Nat.le_refl _), List.take_of_length_le (by omega)]
      rw [tt]
  subst e
  refine stepT (fun sg h' => ∃ k, sg = sgL b ((N + 1 : Nat) : Int) ee tn o s k none none none none none none none ∧ St h' b ee o s k N ord m 600000 ∧ h'[k]? = some (.dt [])) ?_ fun sg h8 ⟨k, e, t8, hk8⟩ => ?_
  · simp
    have l7 := lt_of hS7
    exact ⟨B7.ex Ex.app, app_get hE7, app_get hO7, app_get hS7, be, eo, os, by omega⟩
  subst e
  refine stepT (fun sg h' => (∃ x8 x9 x10 x11 x12 x13 x14, sg = sgL b ((N + 1 : Nat) : Int) ee tn o s k x8 x9 x10 x11 x12 x13 x14) ∧ h'[ee]? = some (.lst ((A N).map T)) ∧ ∃ kvs : List (KL × D), h'[k]? = some (.dt kvs) ∧ kvs.length = 2 * 2 ^ N) ?_ fun sg h9 ⟨⟨_, _, _, _, _, _, _, e⟩, hE9, kvs, hk9, kl⟩ => ?_
  · have e3 : InR (2 : Int) := inR_of (by omega) (by omega)
    simp [e3]
    refine loop (fun j sg h' => (∃ x8 x9 x10 x11 x12 x13 x14, sg = sgL b ((N + 1 : Nat) : Int) ee tn o s k x8 x9 x10 x11 x12 x13 x14) ∧ St h' b ee o s k N ord m (600000 - 1000 * j) ∧ ∃ kvs : List (KL × D), h'[k]? = some (.dt kvs) ∧ kvs.length = j * 2 ^ N ∧ kvs.map (·.1) = ((W ord).take (j * 2 ^ N)).map ky) ⟨⟨none, none, none, none, none, none, none, by simp⟩, t8, [], hk8, by simp, by simp⟩ (fun j d sg h' ej ⟨⟨_, _, _, _, _, _, _, es⟩, tj, kvs, hk, kl, kw⟩ => ?_) (fun sg h' ⟨⟨x8, x9, x10, x11, x12, x13, x14, es⟩, tj, kvs, hk, kl, kw⟩ => ?_) (by simp)
    · subst es
      have jl : j < 2 := by simpa using (List.getElem?_eq_some_iff.mp ej).1
      have ed : d = .int (j : Int) := by
        rw [List.getElem?_map, List.getElem?_range jl] at ej
        simpa using ej.symm
      subst ed
      refine ⟨trivial, _, rfl, ?_⟩
      have tj' : St h' b ee o s k N ord m ((600000 - 1000 * (j + 1)) + 1000) := ⟨tj.B.less (by omega), tj.E, tj.O, tj.S, tj.be, tj.eo, tj.os, tj.sk⟩
      exact (bit_ok tj' od6 m1 m2 N1 N7 jl hk kl kw).mono (fun sg' h'' w => w) fun _ _ z => z
    · subst es
      exact ⟨trivial, ⟨_, _, _, _, _, _, _, rfl⟩, tj.E, kvs, hk, by simpa using kl⟩
  subst e
  simp [hk9, hE9, kl, A_len]
end K19

namespace K19
open PySem PySem.Spec PyProof.Rows L2 Mo
theorem law_true : ∀ ns : List Int, ns.length ≤ 63 → ∃ h', f_law [.ref 0] [.fls (ns.map D.int)] = .ok (.bl true) h' := fun ns l => by
  obtain ⟨d, h', e, rfl⟩ := (law_wp ns l).out
  exact ⟨h', e⟩
theorem all_mk {l : PySem.W.OpenLaw} {w : World} {K : PySem.W.Frag} {h : Heap} {mg : Str → Option Value} {fa : Addr} (X : K.In h) (G : h.Ns mainGlobals mg) (hfa : mg "law" = some (.ref fa)) (ht : ∀ ns : List Int, ns.length ≤ 63 → ∃ h', f_law [.ref 0] [.fls (ns.map D.int)] = .ok (.bl true) h')
    {f0 : Addr} {od0 an0 : Option Addr} {sl0 : Array (Option Value)} {oc0 kV0 dc0 pm0 cd0 ct0 : Value}
    (a0 : PySem.W.nsIn K mainGlobals "_law_all" = some (some (.ref f0))) (l0 : K.lookup f0 = some ⟨oc0, od0, .func (PySem.W.fnOf "_law_all" "_law_all" (defArgs s__law_all) (defBody s__law_all) (defScope s__law_all) .none kV0 dc0 pm0 an0 cd0 ct0), sl0⟩) (c0 : PySem.W.codeIn K cd0 "_law_all" = true) (k0 : PySem.W.keepIn K (.ref f0) = true)
    {f1 : Addr} {od1 an1 : Option Addr} {sl1 : Array (Option Value)} {oc1 kV1 dc1 pm1 cd1 ct1 : Value}
    (a1 : PySem.W.nsIn K mainGlobals "_law_bag" = some (some (.ref f1))) (l1 : K.lookup f1 = some ⟨oc1, od1, .func (PySem.W.fnOf "_law_bag" "_law_bag" (defArgs s__law_bag) (defBody s__law_bag) (defScope s__law_bag) .none kV1 dc1 pm1 an1 cd1 ct1), sl1⟩) (c1 : PySem.W.codeIn K cd1 "_law_bag" = true) (k1 : PySem.W.keepIn K (.ref f1) = true)
    {f2 : Addr} {od2 an2 : Option Addr} {sl2 : Array (Option Value)} {oc2 kV2 dc2 pm2 cd2 ct2 : Value}
    (a2 : PySem.W.nsIn K mainGlobals "_law_draw" = some (some (.ref f2))) (l2 : K.lookup f2 = some ⟨oc2, od2, .func (PySem.W.fnOf "_law_draw" "_law_draw" (defArgs s__law_draw) (defBody s__law_draw) (defScope s__law_draw) .none kV2 dc2 pm2 an2 cd2 ct2), sl2⟩) (c2 : PySem.W.codeIn K cd2 "_law_draw" = true) (k2 : PySem.W.keepIn K (.ref f2) = true)
    {f3 : Addr} {od3 an3 : Option Addr} {sl3 : Array (Option Value)} {oc3 kV3 dc3 pm3 cd3 ct3 : Value}
    (a3 : PySem.W.nsIn K mainGlobals "_law_even" = some (some (.ref f3))) (l3 : K.lookup f3 = some ⟨oc3, od3, .func (PySem.W.fnOf "_law_even" "_law_even" (defArgs s__law_even) (defBody s__law_even) (defScope s__law_even) .none kV3 dc3 pm3 an3 cd3 ct3), sl3⟩) (c3 : PySem.W.codeIn K cd3 "_law_even" = true) (k3 : PySem.W.keepIn K (.ref f3) = true)
    {f4 : Addr} {od4 an4 : Option Addr} {sl4 : Array (Option Value)} {oc4 kV4 dc4 pm4 cd4 ct4 : Value}
    (a4 : PySem.W.nsIn K mainGlobals "_law_like" = some (some (.ref f4))) (l4 : K.lookup f4 = some ⟨oc4, od4, .func (PySem.W.fnOf "_law_like" "_law_like" (defArgs s__law_like) (defBody s__law_like) (defScope s__law_like) .none kV4 dc4 pm4 an4 cd4 ct4), sl4⟩) (c4 : PySem.W.codeIn K cd4 "_law_like" = true) (k4 : PySem.W.keepIn K (.ref f4) = true)
    {f5 : Addr} {od5 an5 : Option Addr} {sl5 : Array (Option Value)} {oc5 kV5 dc5 pm5 cd5 ct5 : Value}
    (a5 : PySem.W.nsIn K mainGlobals "parity" = some (some (.ref f5))) (l5 : K.lookup f5 = some ⟨oc5, od5, .func (PySem.W.fnOf "parity" "parity" (defArgs s_parity) (defBody s_parity) (defScope s_parity) .none kV5 dc5 pm5 an5 cd5 ct5), sl5⟩) (c5 : PySem.W.codeIn K cd5 "parity" = true) (k5 : PySem.W.keepIn K (.ref f5) = true)
    {f6 : Addr} {od6 an6 : Option Addr} {sl6 : Array (Option Value)} {oc6 kV6 dc6 pm6 cd6 ct6 : Value}
    (a6 : PySem.W.nsIn K mainGlobals "joined" = some (some (.ref f6))) (l6 : K.lookup f6 = some ⟨oc6, od6, .func (PySem.W.fnOf "joined" "joined" (defArgs s_joined) (defBody s_joined) (defScope s_joined) .none kV6 dc6 pm6 an6 cd6 ct6), sl6⟩) (c6 : PySem.W.codeIn K cd6 "joined" = true) (k6 : PySem.W.keepIn K (.ref f6) = true)
    {f7 : Addr} {od7 an7 : Option Addr} {sl7 : Array (Option Value)} {oc7 kV7 dc7 pm7 cd7 ct7 : Value}
    (a7 : PySem.W.nsIn K mainGlobals "parted" = some (some (.ref f7))) (l7 : K.lookup f7 = some ⟨oc7, od7, .func (PySem.W.fnOf "parted" "parted" (defArgs s_parted) (defBody s_parted) (defScope s_parted) .none kV7 dc7 pm7 an7 cd7 ct7), sl7⟩) (c7 : PySem.W.codeIn K cd7 "parted" = true) (k7 : PySem.W.keepIn K (.ref f7) = true)
    {f8 : Addr} {od8 an8 : Option Addr} {sl8 : Array (Option Value)} {oc8 kV8 dc8 pm8 cd8 ct8 : Value}
    (a8 : PySem.W.nsIn K mainGlobals "law" = some (some (.ref f8))) (l8 : K.lookup f8 = some ⟨oc8, od8, .func (PySem.W.fnOf "law" "law" (defArgs s_law) (defBody s_law) (defScope s_law) .none kV8 dc8 pm8 an8 cd8 ct8), sl8⟩) (c8 : PySem.W.codeIn K cd8 "law" = true) (k8 : PySem.W.keepIn K (.ref f8) = true)
    (z0 : PySem.W.nsIn K mainGlobals "all" = some none)
    (z1 : PySem.W.nsIn K mainGlobals "bool" = some none)
    (z2 : PySem.W.nsIn K mainGlobals "dict" = some none)
    (z3 : PySem.W.nsIn K mainGlobals "int" = some none)
    (z4 : PySem.W.nsIn K mainGlobals "isinstance" = some none)
    (z5 : PySem.W.nsIn K mainGlobals "len" = some none)
    (z6 : PySem.W.nsIn K mainGlobals "list" = some none)
    (z7 : PySem.W.nsIn K mainGlobals "range" = some none)
    (z8 : PySem.W.nsIn K mainGlobals "str" = some none)
    (z9 : PySem.W.nsIn K mainGlobals "sum" = some none)
    (z10 : PySem.W.nsIn K mainGlobals "tuple" = some none)
    (z11 : PySem.W.nsIn K mainGlobals "zip" = some none)
    : ∃ fd : FuncData, (∀ (s : Shared) (v : Value), BindsTo s fd ⟨[v], []⟩ [("script", v)]) ∧ ∀ base : Heap, K.In base → base.Ns mainGlobals mg → FnOk l.prog w K mg base (L2.CX l.prog w) 9 fa fd ["script"] (spLaw K) := by
  have e := hfa.symm.trans (PySem.W.mg_of X G a8)
  cases e
  have F0 := fun_mk (st := s__law_all) l0 c0 k0
  have b0 := F0.binds (ps := ["many"]) fun _ _ _ _ _ _ us hl => match us, hl with | [_], _ => rfl
  have F1 := fun_mk (st := s__law_bag) l1 c1 k1
  have b1 := F1.binds (ps := ["script"]) fun _ _ _ _ _ _ us hl => match us, hl with | [_], _ => rfl
  have F2 := fun_mk (st := s__law_draw) l2 c2 k2
  have b2 := F2.binds (ps := ["bag", "many"]) fun _ _ _ _ _ _ us hl => match us, hl with | [_, _], _ => rfl
  have F3 := fun_mk (st := s__law_even) l3 c3 k3
  have b3 := F3.binds (ps := ["rows", "spots"]) fun _ _ _ _ _ _ us hl => match us, hl with | [_, _], _ => rfl
  have F4 := fun_mk (st := s__law_like) l4 c4 k4
  have b4 := F4.binds (ps := ["found", "due"]) fun _ _ _ _ _ _ us hl => match us, hl with | [_, _], _ => rfl
  have F5 := fun_mk (st := s_parity) l5 c5 k5
  have b5 := F5.binds (ps := ["bits"]) fun _ _ _ _ _ _ us hl => match us, hl with | [_], _ => rfl
  have F6 := fun_mk (st := s_joined) l6 c6 k6
  have b6 := F6.binds (ps := ["parts"]) fun _ _ _ _ _ _ us hl => match us, hl with | [_], _ => rfl
  have F7 := fun_mk (st := s_parted) l7 c7 k7
  have b7 := F7.binds (ps := ["bit", "coins"]) fun _ _ _ _ _ _ us hl => match us, hl with | [_, _], _ => rfl
  have F8 := fun_mk (st := s_law) l8 c8 k8
  have b8 := F8.binds (ps := ["script"]) fun _ _ _ _ _ _ us hl => match us, hl with | [_], _ => rfl
  let T : Txt K mg := ⟨PySem.W.mg_none_of X G z0,
    PySem.W.mg_none_of X G z1,
    PySem.W.mg_none_of X G z2,
    PySem.W.mg_none_of X G z3,
    PySem.W.mg_none_of X G z4,
    PySem.W.mg_none_of X G z5,
    PySem.W.mg_none_of X G z6,
    PySem.W.mg_none_of X G z7,
    PySem.W.mg_none_of X G z8,
    PySem.W.mg_none_of X G z9,
    PySem.W.mg_none_of X G z10,
    PySem.W.mg_none_of X G z11,
    _, _, F0, PySem.W.mg_of X G a0, b0,
    _, _, F1, PySem.W.mg_of X G a1, b1,
    _, _, F2, PySem.W.mg_of X G a2, b2,
    _, _, F3, PySem.W.mg_of X G a3, b3,
    _, _, F4, PySem.W.mg_of X G a4, b4,
    _, _, F5, PySem.W.mg_of X G a5, b5,
    _, _, F6, PySem.W.mg_of X G a6, b6,
    _, _, F7, PySem.W.mg_of X G a7, b7,
    _, _, F8, PySem.W.mg_of X G a8, b8⟩
  exact ⟨_, fun s v => .of_eq rfl, fun base _ _ => law_of (ok_law (P := l.prog) (w := w) (base := base) T) ht⟩
end K19
open PySem PySem.W PyProof.Rows
set_option maxHeartbeats 0 in
theorem PySem.Challenge.cw_needleblind_k19_parted_bits_are_even_holds : PySem.Challenge.rw_needleblind_k19_parted_bits_are_even.Holds := by
  w_on; o_law; k_head; (case hw => w_witness2)
  k_fill
  refine L2.walk_of (l := PySem.Challenge.rw_needleblind_k19_parted_bits_are_even) (n := 63) (k := 9) (x := "script") (CX := fun w => L2.CX PySem.Challenge.rw_needleblind_k19_parted_bits_are_even.prog w) (sp := fun w => Mo.spLaw _) rfl (by decide) rfl ⟨rfl, by decide, by decide⟩ (fun w h Y => PySem.W.kIn_of Y) ?F (fun _ _ a ns hl ho hS => ⟨a, ns, rfl, Mo.fz_of ho hS, hl, fun _ => rfl⟩) (fun _ _ _ _ _ h => Mo.cx_no h)
  case F =>
    intro w mg fa h KX G hmg
    refine' K19.all_mk KX G hmg K19.law_true ?a0 ?l0 ?c0 ?k0 ?a1 ?l1 ?c1 ?k1 ?a2 ?l2 ?c2 ?k2 ?a3 ?l3 ?c3 ?k3 ?a4 ?l4 ?c4 ?k4 ?a5 ?l5 ?c5 ?k5 ?a6 ?l6 ?c6 ?k6 ?a7 ?l7 ?c7 ?k7 ?a8 ?l8 ?c8 ?k8 ?z0 ?z1 ?z2 ?z3 ?z4 ?z5 ?z6 ?z7 ?z8 ?z9 ?z10 ?z11
    (case a0 => k_is); (case l0 => k_is); (case c0 => k_is); (case k0 => k_is); (case a1 => k_is); (case l1 => k_is); (case c1 => k_is); (case k1 => k_is); (case a2 => k_is); (case l2 => k_is); (case c2 => k_is); (case k2 => k_is); (case a3 => k_is); (case l3 => k_is); (case c3 => k_is); (case k3 => k_is); (case a4 => k_is); (case l4 => k_is); (case c4 => k_is); (case k4 => k_is); (case a5 => k_is); (case l5 => k_is); (case c5 => k_is); (case k5 => k_is); (case a6 => k_is); (case l6 => k_is); (case c6 => k_is); (case k6 => k_is); (case a7 => k_is); (case l7 => k_is); (case c7 => k_is); (case k7 => k_is); (case a8 => k_is); (case l8 => k_is); (case c8 => k_is); (case k8 => k_is); (case z0 => k_is); (case z1 => k_is); (case z2 => k_is); (case z3 => k_is); (case z4 => k_is); (case z5 => k_is); (case z6 => k_is); (case z7 => k_is); (case z8 => k_is); (case z9 => k_is); (case z10 => k_is); (case z11 => k_is)


